import PyProof.Rows.All
import Wide.All
import OpenK.AllK
import Wide.FinOn
import HandS.Base
import HandS.Call
import HandS.List
import HandS.Comp
import HandS.Iter
import HandS.Dict
import HandS.Text
import HandS.Ends
import HandS.Words
import HandS.WordsList
import HandS.Wide
import HandS.Defaults
import HandS.Zip
import KE.DataEq
import HandS.Walk
import HandS.IsInst
import HandS.Codes
import HandS.Rev
import HandS.RevRange
import KE.GoesEnum
import KE.SortData
import HandS.DictComp
import HandS.Conv
import HandS.WordsDict
import HandS.Small
import HandS.Strs
import HandS.Deep
import KE.DataMinMax
import PyProof.StrWalks
import PyProof.Claim2Refuses
import HandS.Style
import KE.KEqDict
import HandS.OwnEq
import HandS.MakeKwOnly
import HandS.TupAny
import KE.KDictZip
import PyProof.InstNe
import HandS.TupLen
import HandS.TryOnly
import HandS.SortInts
import HandS.TupSets
import KE.SortKeyHeap
import KE.KSortKey
import HandS.Lambda
import HandS.SortKw
import HandS.EndTab
import PySem.Challenge.RW_feeblind_k36_whole_least_plans
set_option Elab.async false
set_option linter.all false
set_option maxRecDepth 100000
set_option maxHeartbeats 4000000
/-! Rules that serve several kinds at once, and the bag of draws. -/
namespace Fb
open PySem PySem.Spec L2
open PyProof.Rows hiding St

/-! ### heaps that only grow -/
theorem grow {H : Hp} {p : Addr} {o : HO} (h : H p = none) : Same H (upd H p o) := by
  intro b u e
  rw [upd_ne (ne_of_none e h)]
  exact e
theorem upd_self {H : Hp} {p : Addr} {o : HO} (h : H p = some o) : upd H p o = H := by
  funext b
  unfold upd
  by_cases e : b = p
  · rw [if_pos e, e, h]
  · rw [if_neg e]
theorem same_tup {K : PySem.W.Frag} {H H' : Hp} {a : Addr} {xs : List V} (e : Same H H') (h : SqT K H a xs) : SqT K H' a xs := by
  rcases h with (h | ⟨o, h⟩) | h
  · exact Or.inl (Or.inl (e _ _ h))
  · exact Or.inl (Or.inr ⟨o, e _ _ h⟩)
  · exact Or.inr h

/-! ### == of data of any depth below sixty, whatever signs its texts have -/
mutual
theorem dp_plain {K : PySem.W.Frag} {H : Hp} : ∀ (d : PyData) {v : V}, Dp K H v d → d.plain = true
  | .none, _, _ => rfl
  | .bool _, _, _ => rfl
  | .int _, _, _ => rfl
  | .str _, _, _ => rfl
  | .list ds, _, h => by
    cases h with
    | lst _ a => exact dpAll_plain ds a
  | .tuple ds, _, h => by
    cases h with
    | tup _ a => exact dpAll_plain ds a
  | .dict _, _, h => by cases h
theorem dpAll_plain {K : PySem.W.Frag} {H : Hp} : ∀ (ds : List PyData) {vs : List V}, DpAll K H vs ds → PyData.plainAll ds = true
  | [], _, _ => rfl
  | d :: ds, _, h => by
    cases h with
    | cons a b =>
      have h1 := dp_plain d a
      have h2 := dpAll_plain ds b
      simp only [PyData.plainAll, h1, h2, Bool.and_self]
end
def rEqP (K : PySem.W.Frag) : R2 := fun x y H Q => ∃ d e, Dp K H x d ∧ Dp K H y e ∧ min d.depth e.depth ≤ 60 ∧ Q (.bl (PyData.eqv d e)) H
def rNeP (K : PySem.W.Frag) : R2 := fun x y H Q => ∃ d e, Dp K H x d ∧ Dp K H y e ∧ min d.depth e.depth ≤ 60 ∧ Q (.bl (!PyData.eqv d e)) H
section
variable {X : Cx} {k : Nat}
theorem op_eqP (hr : Room k X.A) : OpR X (compareOp .Eq) (rEqP X.K) := by
  rintro pins s σ H x y v u Q I rx ry ⟨d, e, hd, he, hl, q⟩
  obtain ⟨as, r1⟩ := Dp.reads I d x v hd rx
  obtain ⟨bs, r2⟩ := Dp.reads I e y u he ry
  have hu := hr.units
  exact SeqAt.eq_plain r1 r2 (dp_plain d hd) (dp_plain e he) (by omega) ⟨.bl _, H, I, rfl, q⟩
theorem op_neP (hr : Room k X.A) : OpR X (compareOp .NotEq) (rNeP X.K) := by
  rintro pins s σ H x y v u Q I rx ry ⟨d, e, hd, he, hl, q⟩
  obtain ⟨as, r1⟩ := Dp.reads I d x v hd rx
  obtain ⟨bs, r2⟩ := Dp.reads I e y u he ry
  have hu := hr.units
  exact SeqAt.ne_plain r1 r2 (dp_plain d hd) (dp_plain e he) (by omega) ⟨.bl _, H, I, rfl, q⟩
end

/-! ### rules for several kinds -/
def rAddStr : R2 := fun x y H Q => ∃ i j, x = .str i ∧ y = .str j ∧ i.length + j.length ≤ sizeLine ∧ Q (.str (i ++ j)) H
def rAddU : R2 := fun x y H Q => rI0 (fun i j => .int (i + j)) x y H Q ∨ rAddStr x y H Q ∨ rCat x y H Q
def rLeStr : R2 := fun x y H Q => ∃ i j, x = .str i ∧ y = .str j ∧ Q (.bl (!decide (j.cps.toList < i.cps.toList))) H
def rLeU : R2 := fun x y H Q => rI0 (fun i j => .bl (decide (i ≤ j))) x y H Q ∨ rLeStr x y H Q
def rLtStr : R2 := fun x y H Q => ∃ i j, x = .str i ∧ y = .str j ∧ Q (.bl (decide (i.cps.toList < j.cps.toList))) H
def rLtU (K : PySem.W.Frag) : R2 := fun x y H Q => rI0 (fun i j => .bl (decide (i < j))) x y H Q ∨ rLtStr x y H Q ∨ rLtT K x y H Q
def rEqU (K : PySem.W.Frag) : R2 := fun x y H Q => rEq x y H Q ∨ rEqP K x y H Q
def rNeU (K : PySem.W.Frag) : R2 := fun x y H Q => rNe x y H Q ∨ rNeP K x y H Q
def rLenSeq (K : PySem.W.Frag) : List V → Hp → VK → Prop := fun xs H Q => ∃ p ys, xs = [.ref p] ∧ (SqL K H p ys ∨ SqT K H p ys) ∧ Q (.int ys.length) H
def rLenStr : List V → Hp → VK → Prop := fun xs H Q => ∃ z, xs = [.str z] ∧ z.length ≤ sizeLine ∧ Q (.int z.length) H
def rLenDic : List V → Hp → VK → Prop := fun xs H Q => ∃ a kvs, xs = [V.ref a] ∧ H a = some (.dK kvs) ∧ Q (.int kvs.length) H
def rLenU (K : PySem.W.Frag) : List V → Hp → VK → Prop := fun xs H Q => rLenSeq K xs H Q ∨ rLenStr xs H Q
def rSlU (K : PySem.W.Frag) : V → Option Int → Option Int → Hp → VK → Prop := fun x lo hi H Q => rSlL K x lo hi H Q ∨ rSlS x lo hi H Q
section
variable {X : Cx} {k : Nat}
theorem op_addU : OpR X (binaryOp .Add) rAddU := op_add.or (op_add_str.or op_cat)
theorem op_leU : OpR X (compareOp .LtE) rLeU := op_le.or op_le_str
theorem op_geU : OpR X (compareOp .GtE) (rI0 fun i j => .bl (decide (j ≤ i))) := op_ge
theorem op_gtU : OpR X (compareOp .Gt) (rI0 fun i j => .bl (decide (j < i))) := op_gt
theorem op_ltU (hr : Room k X.A) : OpR X (compareOp .Lt) (rLtU X.K) := op_lt.or (op_lt_str.or (op_ltT hr.units0))
theorem op_eqU (hr : Room k X.A) : OpR X (compareOp .Eq) (rEqU X.K) := op_eq.or (op_eqP hr)
theorem op_neU (hr : Room k X.A) : OpR X (compareOp .NotEq) (rNeU X.K) := op_ne.or (op_neP hr)
theorem call_lenU : CallR X (.builtin "len") (rLenU X.K) := call_len_seq.or call_len_str
theorem sl_U : SlR X (rSlU X.K) := sl_list.or sl_str
end

/-! ### what a for walks, whatever it is: a list, a tuple, a text -/
def iAny (K : PySem.W.Frag) (tl : TE) : TI := fun σ H R => tl σ H fun x H1 =>
  (∃ a, x = .ref a ∧ (∃ xs, SqL K H1 a xs) ∧ R (Itl K a) H1) ∨ (∃ a, x = .ref a ∧ (∃ xs, SqT K H1 a xs) ∧ R (Itt K a) H1) ∨ (∃ z, x = .str z ∧ R (Its z) H1)
theorem pi_any {X : Cx} {tg l : Expr} {tl : TE} (hl : PE X l tl) : PI X tg l (iAny X.K tl) := by
  constructor
  intro pins s σ H R I h
  refine thn (hl.run pins s σ H _ I h) ?_
  rintro v s1 ⟨x, H1, I1, r1, q1⟩
  rcases q1 with ⟨a, e, ⟨xs, hq⟩, q⟩ | ⟨a, e, ⟨xs, hq⟩, q⟩ | ⟨z, e, q⟩
  all_goals subst e
  · cases r1
    obtain ⟨its, rv, p, hz⟩ := I1.list hq
    exact wpAny_pyIter_list p.isList (pi_one (tk := s1.toks) I1 _ (turn_list a _) ⟨_, Heap.get?_push_size _ rfl, rfl, rfl⟩ q)
  · cases r1
    obtain ⟨its, rv, p, hz⟩ := I1.tuple hq
    exact wpAny_pyIter_tuple (show s1.heap.IsTuple a its.toArray from p) (pi_one (tk := s1.toks) I1 _ (turn_tuple a _) ⟨_, Heap.get?_push_size _ rfl, rfl, rfl⟩ q)
  · obtain ⟨t, rfl⟩ := r1
    cases ha : z.cps.all (· < 128) with
    | false => exact wpAny_pyIter_wide ha (pi_one (tk := s1.toks) I1 _ (turn_str _ z t "str_iterator" (.inr rfl)) ⟨_, Heap.get?_push_size _ rfl, rfl, rfl⟩ q)
    | true => exact wpAny_pyIter_ascii ha (pi_one (tk := s1.toks) I1 _ (turn_str _ z t "str_ascii_iterator" (.inl rfl)) ⟨_, Heap.get?_push_size _ rfl, rfl, rfl⟩ q)

/-! ### an object tracked otherwise than before -/
theorem retrack {X : Cx} {pins : List (Addr × Obj)} {σ : St} {H : Hp} {s : Shared} {p : Addr} {o : HO} (I : Inv X pins σ H s) (mu : Mut (H p)) (there : ∃ u, s.heap.get? p = some u) (new : ObjOk X.prog X.w (upd H p o) s.heap p o) : Inv X pins σ (upd H p o) s :=
  I.write (h' := s.heap) (t' := s.toks) mu (.inl rfl) (fun _ _ _ e => e) there new

/-! ### the bag of draws: a list [the script's ints, how many are used, what is left of one, a stir, a count] -/
def bagL (q : Addr) (i c st t : Int) : List V := [.ref q, .int i, .int c, .int st, .int t]
def BagOk (i st : Int) : Prop := 0 ≤ i ∧ 0 ≤ st ∧ st < 2147483629
def bagO (q p : Addr) : HO := .ext fun h => ∃ (i c st t : Int) (its : List Value) (n : Nat), BagOk i st ∧ Vals (bagL q i c st t) its ∧ h.get? p = some { cls := .type "list", data := .seq its.toArray n }
theorem bag_shut {P : Program} {w : World} {H : Hp} {h : Heap} {q p : Addr} {i c st t : Int} (b : BagOk i st) (x : ObjOk P w H h p (.lst (bagL q i c st t))) : ObjOk P w H h p (bagO q p) := by
  obtain ⟨_, its, n, v, e⟩ := x
  refine ⟨⟨i, c, st, t, its, n, b, v, e⟩, ⟨_, e⟩, ?_⟩
  rintro h1 h2 ⟨i, c, st, t, its, n, b, v, e⟩ k
  exact ⟨i, c, st, t, its, n, b, v, k _ e⟩
theorem bag_opened {P : Program} {w : World} {H : Hp} {h : Heap} {q p : Addr} (x : ObjOk P w H h p (bagO q p)) : ∃ i c st t, BagOk i st ∧ ∀ H' : Hp, ObjOk P w H' h p (.lst (bagL q i c st t)) := by
  obtain ⟨⟨i, c, st, t, its, n, b, v, e⟩, _⟩ := x
  exact ⟨i, c, st, t, b, fun _ => ⟨by show 5 ≤ sizeLine; decide, its, n, v, e⟩⟩
/-- the bag at p stands as a list meanwhile -/
def shutAt (q p : Addr) (F : Hp → Prop) (H : Hp) : Prop := ∃ i c st t, BagOk i st ∧ H p = some (.lst (bagL q i c st t)) ∧ F (upd H p (bagO q p))
def tBag (t : TS) : TS := fun D σ H => ∃ p q, H p = some (bagO q p) ∧ ∀ i c st tt, BagOk i st →
  t ⟨fun σ' => shutAt q p (D.nx σ'), fun v => shutAt q p (D.rt v), fun σ' => shutAt q p (D.bk σ'), fun σ' => shutAt q p (D.ct σ')⟩ σ (upd H p (.lst (bagL q i c st tt)))
theorem shut {X : Cx} {pins : List (Addr × Obj)} {σ : St} {H : Hp} {s : Shared} {q p : Addr} {F : Hp → Prop} (I : Inv X pins σ H s) (h : shutAt q p F H) : ∃ H', Inv X pins σ H' s ∧ F H' := by
  obtain ⟨i, c, st, t, b, e, f⟩ := h
  have old := I.hok _ _ e
  obtain ⟨l, its, n, v, g⟩ := old
  exact ⟨_, retrack I (by rw [e]; trivial) ⟨_, g⟩ (bag_shut (H := upd H p (bagO q p)) b ⟨l, its, n, v, g⟩), f⟩
theorem pss_bag {X : Cx} {sts : List Stmt} {t : TS} (h : PSs X sts t) : PSs X sts (tBag t) := by
  constructor
  intro pins s σ H D I hw
  obtain ⟨p, q, hp, hw⟩ := hw
  obtain ⟨i, c, st, tt, b, ok⟩ := bag_opened (I.hok _ _ hp)
  have I1 := retrack (p := p) I (by rw [hp]; trivial) (I.hok _ _ hp).2.1 (ok _)
  refine thn (h.run pins s σ _ _ I1 (hw i c st tt b)) ?_
  intro f s1 r
  cases f with
  | next => obtain ⟨σ', H', I2, e⟩ := r; obtain ⟨H2, I3, f⟩ := shut I2 e; exact ⟨σ', H2, I3, f⟩
  | brk => obtain ⟨σ', H', I2, e⟩ := r; obtain ⟨H2, I3, f⟩ := shut I2 e; exact ⟨σ', H2, I3, f⟩
  | cont => obtain ⟨σ', H', I2, e⟩ := r; obtain ⟨H2, I3, f⟩ := shut I2 e; exact ⟨σ', H2, I3, f⟩
  | ret v => obtain ⟨x, σ', H', I2, rv, e⟩ := r; obtain ⟨H2, I3, f⟩ := shut I2 e; exact ⟨x, σ', H2, I3, rv, f⟩
/-- a list that is handed back becomes a bag -/
def tBagNew (t : TS) : TS := fun D σ H => t { D with rt := fun v H' => ∃ p q, v = .ref p ∧ shutAt q p (D.rt v) H' } σ H
theorem pss_bagNew {X : Cx} {sts : List Stmt} {t : TS} (h : PSs X sts t) : PSs X sts (tBagNew t) := by
  constructor
  intro pins s σ H D I hw
  refine thn (h.run pins s σ _ _ I hw) ?_
  intro f s1 r
  cases f with
  | next => exact r
  | brk => exact r
  | cont => exact r
  | ret v =>
    obtain ⟨x, σ', H', I2, rv, p, q, e, r⟩ := r
    obtain ⟨H2, I3, f⟩ := shut I2 r
    exact ⟨x, σ', H2, I3, rv, f⟩
end Fb

set_option Elab.async false
set_option linter.all false
set_option maxRecDepth 100000
set_option maxHeartbeats 4000000
namespace Fb
open PySem PySem.Spec L2
open PyProof.Rows hiding St
open C8 (Cal Met Mak Def cal0 met0 mak0 pe_c pe_mk pe_mt pe_mt0 fnScope fnBody fnArgs)

/-! ### isinstance of a built-in class, of a tuple of them -/
def anyB (a : String) : List String → Option Bool
  | [] => some false
  | b :: r => match kitB a b with
    | some true => some true
    | some false => anyB a r
    | none => none
theorem kit_any {K : PySem.W.Frag} {a : String} : ∀ {ns : List String} {b : Bool}, anyB a ns = some b → PySem.W.kitAny K (.type a) (ns.map Value.type) = some b
  | [], b, h => h
  | n :: r, b, h => by
    have ih := @kit_any K a r b
    unfold anyB at h
    rw [List.map_cons]
    unfold PySem.W.kitAny
    cases e : kitB a n with
    | none =>
      rw [e] at h
      cases h
    | some c =>
      rw [e] at h
      rw [kit_ty (K := K) e]
      cases c with
      | true => exact h
      | false => exact ih h
theorem clsAll : ∀ ns : List String, Paired ClsV (ns.map V.ty) (ns.map Value.type)
  | [] => .nil
  | n :: r => .cons (.ty n) (clsAll r)
def rIs1 (K : PySem.W.Frag) : List V → Hp → VK → Prop := fun xs H Q => ∃ (x : V) (n t : String) (b : Bool), xs = [x, .ty n] ∧ TyX K H x (.type t) ∧ kitB t n = some b ∧ Q (.bl b) H
def rIsN (K : PySem.W.Frag) : List V → Hp → VK → Prop := fun xs H Q => ∃ (x : V) (tp : Addr) (ns : List String) (t : String) (b : Bool), xs = [x, .ref tp] ∧ H tp = some (.tup (ns.map V.ty)) ∧ TyX K H x (.type t) ∧ anyB t ns = some b ∧ Q (.bl b) H
def rIsiU (K : PySem.W.Frag) : List V → Hp → VK → Prop := fun xs H Q => rIs1 K xs H Q ∨ rIsN K xs H Q
theorem CallR.imp {X : Cx} {f : Value} {r r' : List V → Hp → VK → Prop} (h : CallR X f r) (i : ∀ xs H Q, r' xs H Q → r xs H Q) : CallR X f r' :=
  fun pins s σ H xs us Q I rv q => h pins s σ H xs us Q I rv (i _ _ _ q)
theorem call_isiU {X : Cx} : CallR X (.builtin "isinstance") (rIsiU X.K) := by
  refine CallR.imp (call_isi.or call_isiT) fun xs H Q h => ?_
  rcases h with ⟨x, n, t, b, e, ty, kb, q⟩ | ⟨x, tp, ns, t, b, e, ht, ty, kb, q⟩
  · exact .inl ⟨x, _, _, _, b, e, .ty n, ty, kit_ty kb, q⟩
  · exact .inr ⟨x, tp, _, _, _, b, e, ht, clsAll ns, ty, kit_any kb, q⟩

/-! ### in, not in: a sign in a text, a flat value in a list or tuple -/
def rInSign (f : Bool → Bool) : R2 := fun x y H Q => ∃ (c : Nat) (z : Str), x = .str ⟨#[c]⟩ ∧ y = .str z ∧ Q (.bl (f (decide (c ∈ z.cps.toList)))) H
def rInU (K : PySem.W.Frag) : R2 := fun x y H Q => rInSign (fun b => b) x y H Q ∨ rIn K false x y H Q
def rNotInU (K : PySem.W.Frag) : R2 := fun x y H Q => rInSign (fun b => !b) x y H Q ∨ rIn K true x y H Q

/-! ### the same rules with the written part named (within a comprehension it must not lean on the block) -/
def rListOf (K : PySem.W.Frag) : List V → Hp → VK → Prop := fun xs H Q => ∃ p ys, xs = [.ref p] ∧ (SqL K H p ys ∨ SqT K H p ys) ∧ ∀ l, H l = none → Q (.ref l) (upd H l (.lst ys))
def rTupleOf (K : PySem.W.Frag) : List V → Hp → VK → Prop := fun xs H Q => ∃ p ys, xs = [.ref p] ∧ ((SqL K H p ys ∧ ∀ l, H l = none → Q (.ref l) (upd H l (.tup ys))) ∨ (SqT K H p ys ∧ Q (.ref p) H))
section
variable {X : Cx} {K : PySem.W.Frag} {k : Nat} (e : X.K = K)
include e
theorem ix_K : IxR X (rIx K) := e ▸ ix_seq
theorem eq_K (hr : Room k X.A) : OpR X (compareOp .Eq) (rEqU K) := e ▸ op_eqU hr
theorem ne_K (hr : Room k X.A) : OpR X (compareOp .NotEq) (rNeU K) := e ▸ op_neU hr
theorem lt_K (hr : Room k X.A) : OpR X (compareOp .Lt) (rLtU K) := e ▸ op_ltU hr
theorem in_K : OpR X (compareOp .In) (rInU K) := e ▸ op_in_sign.or op_in_seq
theorem notIn_K : OpR X (compareOp .NotIn) (rNotInU K) := e ▸ op_notIn_sign.or op_notIn_seq
theorem len_K : CallR X (.builtin "len") (rLenU K) := e ▸ call_lenU
theorem all_K (hc : X.calm = true) : CallR X (.builtin "all") (rAll K) := e ▸ cr_all hc
theorem any_K (hc : X.calm = true) : CallR X (.builtin "any") (rAny K) := e ▸ cr_any hc
theorem sl_K : SlR X (rSlU K) := e ▸ sl_U
theorem listOf_K : CallR X (.type "list") (rListOf K) := e ▸ call_list_of
theorem tupleOf_K : CallR X (.type "tuple") (rTupleOf K) := e ▸ call_tuple_of
theorem tup_K {es : List Expr} {kk n : Nat} {t : TGs} {pos : Pos} (hc : X.calm = true) (h : PGs X es t)
    (hn : (assignEach es X.env).length = n := by rfl) (hst : (assignEach es X.env).findIdx? (·.1) = none := by rfl) :
    PG X (.Tuple es kk pos) (gTup K n t) := e ▸ pg_tup hc h hn hst
theorem pi_K {tg l : Expr} {tl : TE} (hl : PE X l tl) : PI X tg l (iAny K tl) := e ▸ pi_any hl
theorem zip_K {e1 e2 : Expr} {ta : TA} {p pos tpos : Pos} {elts : List Expr} {kk : Nat} (hg : Gl X "zip") (hm : X.mg "zip" = none) (ha : PA X [e1, e2] ta)
    (hs : starEach [e1, e2] X.env = (false, eval e1 X.env) :: starEach [e2] X.env := by rfl) (hpl : (backTo pos (starEach [e2] X.env)).any (·.1) = false := by rfl) :
    PI X (.Tuple elts kk tpos) (.Call (.Name "zip" p) [e1, e2] [] pos) (RZ.iZipA K ta) := e ▸ RZ.pi_zipA hg hm ha hs hpl
end

/-! ### a value of any kind: what is known of it -/
def AnyV (K : PySem.W.Frag) (H : Hp) (v : V) : Prop :=
  v = .non ∨ (∃ b, v = .bl b) ∨ (∃ i, v = .int i) ∨ (∃ z : Str, v = .str z ∧ z.length ≤ 100000) ∨ (∃ a xs, v = .ref a ∧ H a = some (.lst xs)) ∨ (∃ a xs, v = .ref a ∧ H a = some (.tup xs)) ∨ ∃ a kvs, v = .ref a ∧ H a = some (.dK kvs)
theorem AnyV.mono {K : PySem.W.Frag} {H H' : Hp} {v : V} (h : AnyV K H v) (e : Same H H') : AnyV K H' v := by
  rcases h with h | h | h | h | ⟨a, xs, h, g⟩ | ⟨a, xs, h, g⟩ | ⟨a, xs, h, g⟩
  · exact .inl h
  · exact .inr (.inl h)
  · exact .inr (.inr (.inl h))
  · exact .inr (.inr (.inr (.inl h)))
  · exact .inr (.inr (.inr (.inr (.inl ⟨a, xs, h, e _ _ g⟩))))
  · exact .inr (.inr (.inr (.inr (.inr (.inl ⟨a, xs, h, e _ _ g⟩)))))
  · exact .inr (.inr (.inr (.inr (.inr (.inr ⟨a, xs, h, e _ _ g⟩)))))
theorem any_non {K : PySem.W.Frag} {H : Hp} : AnyV K H .non := .inl rfl
theorem any_bl {K : PySem.W.Frag} {H : Hp} (b : Bool) : AnyV K H (.bl b) := .inr (.inl ⟨b, rfl⟩)
theorem any_int {K : PySem.W.Frag} {H : Hp} (i : Int) : AnyV K H (.int i) := .inr (.inr (.inl ⟨i, rfl⟩))
theorem any_str {K : PySem.W.Frag} {H : Hp} {z : Str} (h : z.length ≤ 100000) : AnyV K H (.str z) := .inr (.inr (.inr (.inl ⟨z, rfl, h⟩)))
theorem any_lst {K : PySem.W.Frag} {H : Hp} {a : Addr} {xs : List V} (h : H a = some (.lst xs)) : AnyV K H (.ref a) := .inr (.inr (.inr (.inr (.inl ⟨a, xs, rfl, h⟩))))
theorem any_tup {K : PySem.W.Frag} {H : Hp} {a : Addr} {xs : List V} (h : H a = some (.tup xs)) : AnyV K H (.ref a) := .inr (.inr (.inr (.inr (.inr (.inl ⟨a, xs, rfl, h⟩)))))
theorem any_dic {K : PySem.W.Frag} {H : Hp} {a : Addr} {xs : List (Key × V)} (h : H a = some (.dK xs)) : AnyV K H (.ref a) := .inr (.inr (.inr (.inr (.inr (.inr ⟨a, xs, rfl, h⟩)))))
/-- its type's name -/
def tyName (H : Hp) : V → String
  | .non => "NoneType"
  | .bl _ => "bool"
  | .int _ => "int"
  | .str _ => "str"
  | .ref a => match H a with
    | some (.lst _) => "list"
    | some (.tup _) => "tuple"
    | _ => "dict"
  | _ => "dict"
theorem AnyV.ty {K : PySem.W.Frag} {H : Hp} {v : V} (h : AnyV K H v) : TyX K H v (.type (tyName H v)) := by
  rcases h with h | ⟨b, h⟩ | ⟨i, h⟩ | ⟨z, h, _⟩ | ⟨a, xs, h, g⟩ | ⟨a, xs, h, g⟩ | ⟨a, xs, h, g⟩
  all_goals subst h
  · exact .base .non
  · exact .base (.bl b)
  · exact .base (.int i)
  · exact .base (.str z)
  · simp only [tyName, g]; exact .base (.lst g)
  · simp only [tyName, g]; exact .base (.tup g)
  · simp only [tyName, g]; exact .base (.dK g)

theorem isi_K {X : Cx} {K : PySem.W.Frag} (e : X.K = K) : CallR X (.builtin "isinstance") (rIsiU K) := e ▸ call_isiU

/-! ### calls with keywords, of defs with defaults -/
section
variable {X : Cx} {CX : CXT} {k n : Nat} {f : Addr} {fd : FuncData} {ps ks : List Str} {sp : Sp} {E : XK} {x : Str} {p pos : Pos} {kws : List Keyword} {tk : TA} {g : List Value → List Value → List Value} {gV : List V → List V → List V}
theorem pe_callN0 (F : FnOk X.prog X.w X.K X.mg X.base CX k f fd ps sp) (hr : Room k X.A) (hg : Gl X x) (hm : X.mg x = some (.ref f)) (hk : PySem.W.keepIn X.K (.ref f) = true) (hb : KBn X.K fd ps 0 ks g gV) (hx : Passes CX X E)
    (hkw : PK X kws tk) (hall : (backToKw pos (keywordEach kws X.env)).all (·.1.isSome) = true := by rfl) (hks : (backToKw pos (keywordEach kws X.env)).filterMap (·.1) = ks := by rfl)
    (hdb : (x == ("__debug__" : Str)) = false := by decide)
    (hpl : ((backTo pos (starEach [] X.env)).any (·.1) || (backToKw pos (keywordEach kws X.env)).any (·.1.isNone)) = false := by rfl) :
    PE X (.Call (.Name x p) [] kws pos) (tCallN 0 ks.length sp gV E tNil tk) := by
  constructor
  intro pins s σ H Q I h
  refine wpAny_Call_Name_kw (ld_glob I hg hm ?_ hdb)
  refine PySem.W.callWith_KW0 (h₀ := X.base) I.ok.mod.kin hk hall (thn (hkw.run pos pins s σ H _ I h) ?_) hpl
  rintro ws s2 ⟨zs, H2, I2, rz, l1, l2, q2⟩
  refine ⟨I2.kIn, ?_⟩
  rw [hks]
  exact run_fnN F hr hb hx I2 .nil rz rfl l2 q2
end
/-- a def that may be called with these keywords -/
structure CalK (P : Program) (w : World) (K : PySem.W.Frag) (mg : Str → Option Value) (base : Heap) (k : Nat) (x : Str) (sp : Sp) (n : Nat) (ks : List Str) (gV : List V → List V → List V) : Prop where
  ex : ∃ (f : Addr) (fd : FuncData) (ps : List Str) (g : List Value → List Value → List Value), FnOk P w K mg base C8.CX0 k f fd ps sp ∧
    mg x = some (.ref f) ∧ PySem.W.keepIn K (.ref f) = true ∧ KBn K fd ps n ks g gV
section
variable {X : Cx} {k j n : Nat} {x : Str} {sp : Sp} {ks : List Str} {gV : List V → List V → List V} {p pos : Pos} {e : Expr} {es : List Expr} {kws : List Keyword} {t tk : TA}
theorem pe_kw (c : CalK X.prog X.w X.K X.mg X.base k x sp n ks gV) (hr : Room j X.A) (hk : k ≤ j) (hg : Gl X x) (ha : PA X (e :: es) t) (hkw : PK X kws tk)
    (hall : (backToKw pos (keywordEach kws X.env)).all (·.1.isSome) = true := by rfl) (hks : (backToKw pos (keywordEach kws X.env)).filterMap (·.1) = ks := by rfl)
    (hdb : (x == ("__debug__" : Str)) = false := by decide) (he : starEach (e :: es) X.env = (false, eval e X.env) :: starEach es X.env := by rfl)
    (hpl : ((backTo pos (starEach (e :: es) X.env)).any (·.1) || (backToKw pos (keywordEach kws X.env)).any (·.1.isNone)) = false := by rfl) :
    PE X (.Call (.Name x p) (e :: es) kws pos) (tCallN n ks.length sp gV C8.E0 t tk) := by
  obtain ⟨f, fd, ps, g, F, hm, kp, b⟩ := c.ex
  exact pe_callN F (hr.mono hk) hg hm kp b C8.pass0 ha hkw hall hks hdb he hpl
theorem pe_kw0 (c : CalK X.prog X.w X.K X.mg X.base k x sp 0 ks gV) (hr : Room j X.A) (hk : k ≤ j) (hg : Gl X x) (hkw : PK X kws tk)
    (hall : (backToKw pos (keywordEach kws X.env)).all (·.1.isSome) = true := by rfl) (hks : (backToKw pos (keywordEach kws X.env)).filterMap (·.1) = ks := by rfl)
    (hdb : (x == ("__debug__" : Str)) = false := by decide)
    (hpl : ((backTo pos (starEach [] X.env)).any (·.1) || (backToKw pos (keywordEach kws X.env)).any (·.1.isNone)) = false := by rfl) :
    PE X (.Call (.Name x p) [] kws pos) (tCallN 0 ks.length sp gV C8.E0 tNil tk) := by
  obtain ⟨f, fd, ps, g, F, hm, kp, b⟩ := c.ex
  exact pe_callN0 F (hr.mono hk) hg hm kp b C8.pass0 hkw hall hks hdb hpl
end

/-! ### promises by the number of parameters -/
def sp1 (f : V → Hp → VK → Prop) : Sp := fun vs H Q _ => ∃ a, vs = [a] ∧ f a H Q
def sp2 (f : V → V → Hp → VK → Prop) : Sp := fun vs H Q _ => ∃ a b, vs = [a, b] ∧ f a b H Q
def sp3 (f : V → V → V → Hp → VK → Prop) : Sp := fun vs H Q _ => ∃ a b c, vs = [a, b, c] ∧ f a b c H Q
def sp4 (f : V → V → V → V → Hp → VK → Prop) : Sp := fun vs H Q _ => ∃ a b c d, vs = [a, b, c, d] ∧ f a b c d H Q
/-- whatever heap comes that keeps this one -/
def Then (H : Hp) (Q : VK) (v : V) : Prop := ∀ H', Same H H' → Q v H'
theorem Then.here {H : Hp} {Q : VK} {v : V} (h : Then H Q v) : Q v H := h H (Same.refl H)
theorem Then.mono {H H' : Hp} {Q : VK} {v : V} (h : Then H Q v) (e : Same H H') : Then H' Q v := fun H2 e2 => h H2 (e.trans e2)
section
variable {P : Program} {w : World} {K : PySem.W.Frag} {mg : Str → Option Value} {base : Heap} {x : Str} {st : Stmt} {f : Addr} {fd : FuncData} {N : List Str} {k : Nat} {p1 p2 p3 p4 : Str}
theorem fn1 {g : V → Hp → VK → Prop} (F : Def K mg x st f fd) (S : FnScope N [p1] (fnScope st))
    (body : ∀ (cdv : Value) (A : Around) (outer : List Env) (s : Shared) (H : Hp) (a : V) (Q : VK) (E : XK), Room k (A.deeper (envOfC x (fnScope st) s.heap.objs.size f cdv)) → g a H Q →
      ∃ t, PSs (cxOf C8.CX0 P w K mg base N x (fnScope st) f cdv A outer s H E).nox (fnBody st) t ∧ t { nx := fun _ H' => Q .non H', rt := Q } (start N [a]) H) : FnOk P w K mg base C8.CX0 (k + 1) f fd [p1] (sp1 g) := by
  refine C8.fn0 F.fn S ?_ ?_
  · rintro vs H Q E ⟨a, rfl, _⟩
    rfl
  · rintro cdv A outer s H vs Q E hr ⟨a, rfl, h⟩
    exact body cdv A outer s H a Q E hr h
theorem fn2 {g : V → V → Hp → VK → Prop} (F : Def K mg x st f fd) (S : FnScope N [p1, p2] (fnScope st))
    (body : ∀ (cdv : Value) (A : Around) (outer : List Env) (s : Shared) (H : Hp) (a b : V) (Q : VK) (E : XK), Room k (A.deeper (envOfC x (fnScope st) s.heap.objs.size f cdv)) → g a b H Q →
      ∃ t, PSs (cxOf C8.CX0 P w K mg base N x (fnScope st) f cdv A outer s H E).nox (fnBody st) t ∧ t { nx := fun _ H' => Q .non H', rt := Q } (start N [a, b]) H) : FnOk P w K mg base C8.CX0 (k + 1) f fd [p1, p2] (sp2 g) := by
  refine C8.fn0 F.fn S ?_ ?_
  · rintro vs H Q E ⟨a, b, rfl, _⟩
    rfl
  · rintro cdv A outer s H vs Q E hr ⟨a, b, rfl, h⟩
    exact body cdv A outer s H a b Q E hr h
theorem fn3 {g : V → V → V → Hp → VK → Prop} (F : Def K mg x st f fd) (S : FnScope N [p1, p2, p3] (fnScope st))
    (body : ∀ (cdv : Value) (A : Around) (outer : List Env) (s : Shared) (H : Hp) (a b c : V) (Q : VK) (E : XK), Room k (A.deeper (envOfC x (fnScope st) s.heap.objs.size f cdv)) → g a b c H Q →
      ∃ t, PSs (cxOf C8.CX0 P w K mg base N x (fnScope st) f cdv A outer s H E).nox (fnBody st) t ∧ t { nx := fun _ H' => Q .non H', rt := Q } (start N [a, b, c]) H) : FnOk P w K mg base C8.CX0 (k + 1) f fd [p1, p2, p3] (sp3 g) := by
  refine C8.fn0 F.fn S ?_ ?_
  · rintro vs H Q E ⟨a, b, c, rfl, _⟩
    rfl
  · rintro cdv A outer s H vs Q E hr ⟨a, b, c, rfl, h⟩
    exact body cdv A outer s H a b c Q E hr h
theorem cal_of {ps : List Str} {sp : Sp} (F : Def K mg x st f fd) (df : fd.defaults = .none) (ok : FnOk P w K mg base C8.CX0 k f fd ps sp)
    (h : ∀ (kV doc pm : Value) (an : Option Addr) (cdv ct : Value) (us : List Value), us.length = ps.length → bindArgs (PySem.W.fnOf x x (fnArgs st) (fnBody st) (fnScope st) .none kV doc pm an cdv ct) ⟨us, []⟩ = pure (ps.zip us)) : Cal P w K mg base k x sp [] :=
  ⟨f, fd, ps, [], ok, F.mgf, F.kp, F.fn.binds df h, .nil⟩
end

/-! ### defaults and keywords: which value goes where -/
def pick {α : Type} (us its ws : List α) : List (Nat × Nat) → List α
  | [] => []
  | (0, i) :: r => (us[i]?).toList ++ pick us its ws r
  | (1, i) :: r => (its[i]?).toList ++ pick us its ws r
  | (_, i) :: r => (ws[i]?).toList ++ pick us its ws r
theorem vals_at {vs : List V} {us : List Value} (r : Vals vs us) (i : Nat) : Vals (vs[i]?).toList (us[i]?).toList := by
  cases e : vs[i]? with
  | none =>
    rw [r.none_of e]
    exact .nil
  | some v =>
    obtain ⟨u, h, rv⟩ := r.get e
    rw [h]
    exact .cons rv .nil
theorem pick_rel {vs ds zs : List V} {us its ws : List Value} (r1 : Vals vs us) (r2 : Vals ds its) (r3 : Vals zs ws) : ∀ l : List (Nat × Nat), Vals (pick vs ds zs l) (pick us its ws l)
  | [] => .nil
  | (0, i) :: r => (vals_at r1 i).append (pick_rel r1 r2 r3 r)
  | (1, i) :: r => (vals_at r2 i).append (pick_rel r1 r2 r3 r)
  | (_ + 2, i) :: r => (vals_at r3 i).append (pick_rel r1 r2 r3 r)
section
variable {K : PySem.W.Frag} {mg : Str → Option Value} {x : Str} {st : Stmt} {f : Addr} {fd : FuncData} {ps ks : List Str} {dvs : List V}
theorem dfl_binds (F : Def K mg x st f fd) (D : DflV K fd.defaults dvs) (hd : dvs ≠ []) (n j : Nat) (hn : n + (dvs.length - j) = ps.length)
    (h : ∀ (T : Addr) (kV doc pm : Value) (an : Option Addr) (cdv ct : Value) (us its : List Value), us.length = n → its.length = dvs.length →
      ∃ k, bindArgs (PySem.W.fnOf x x (fnArgs st) (fnBody st) (fnScope st) (.ref T) kV doc pm an cdv ct) ⟨us, []⟩ = seqItems? (.ref T) >>= k ∧ k (some its.toArray) = pure (ps.zip (us ++ its.drop j))) :
    ∃ ds, Vals (dvs.drop j) ds ∧ Binds K fd ps ds := by
  obtain ⟨oc, od, dV, kV, doc, pm, an, cdv, ct, osl, rfl, lk, hcd⟩ := F.fn.ex
  rcases D with ⟨e, _⟩ | ⟨_, T, o, its, m, e, lT, oT, rT⟩
  · exact absurd e hd
  · have e : dV = .ref T := e
    subst e
    refine ⟨its.drop j, rT.drop j, ?_⟩
    intro s us X hlen
    have l1 : its.length = dvs.length := rT.length.symm
    have l2 : us.length = n := by
      rw [List.length_append, List.length_drop, l1] at hlen
      omega
    obtain ⟨k, e1, e2⟩ := h T kV doc pm an cdv ct us its l2 l1
    refine BindsTo.of_looks fun M => ?_
    rw [e1]
    exact looks_items X lT oT (.of_pure e2)
theorem dfl_kbn (F : Def K mg x st f fd) (D : DflV K fd.defaults dvs) (hd : dvs ≠ []) (n : Nat) (sel : List (Nat × Nat))
    (h : ∀ (T : Addr) (kV doc pm : Value) (an : Option Addr) (cdv ct : Value) (us its ws : List Value), us.length = n → its.length = dvs.length → ws.length = ks.length →
      ∃ k, bindArgs (PySem.W.fnOf x x (fnArgs st) (fnBody st) (fnScope st) (.ref T) kV doc pm an cdv ct) ⟨us, ks.zip ws⟩ = seqItems? (.ref T) >>= k ∧ k (some its.toArray) = pure (ps.zip (pick us its ws sel))) :
    ∃ its, KBn K fd ps n ks (fun us ws => pick us its ws sel) (fun vs zs => pick vs dvs zs sel) := by
  obtain ⟨oc, od, dV, kV, doc, pm, an, cdv, ct, osl, rfl, lk, hcd⟩ := F.fn.ex
  rcases D with ⟨e, _⟩ | ⟨_, T, o, its, m, e, lT, oT, rT⟩
  · exact absurd e hd
  · have e : dV = .ref T := e
    subst e
    refine ⟨its, ?_, fun r1 r2 => pick_rel r1 rT r2 sel⟩
    intro s us ws X l1 l2
    obtain ⟨k, e1, e2⟩ := h T kV doc pm an cdv ct us its ws l1 rT.length.symm l2
    refine BindsTo.of_looks fun M => ?_
    rw [e1]
    exact looks_items X lT oT (.of_pure e2)
theorem nod_kbn (F : Def K mg x st f fd) (df : fd.defaults = .none) (n : Nat) (sel : List (Nat × Nat))
    (h : ∀ (kV doc pm : Value) (an : Option Addr) (cdv ct : Value) (us ws : List Value), us.length = n → ws.length = ks.length →
      bindArgs (PySem.W.fnOf x x (fnArgs st) (fnBody st) (fnScope st) .none kV doc pm an cdv ct) ⟨us, ks.zip ws⟩ = pure (ps.zip (pick us [] ws sel))) :
    KBn K fd ps n ks (fun us ws => pick us [] ws sel) (fun vs zs => pick vs [] zs sel) := by
  obtain ⟨oc, od, dV, kV, doc, pm, an, cdv, ct, osl, rfl, lk, hcd⟩ := F.fn.ex
  have e : dV = .none := df
  subst e
  exact ⟨fun s us ws _ l1 l2 => .of_eq (h kV doc pm an cdv ct us ws l1 l2), fun r1 r2 => pick_rel r1 .nil r2 sel⟩
end

/-! ### the bag, from a caller's side -/
def BagAt (H : Hp) (p : Addr) : Prop := ∃ (q : Addr) (ns : List Int), H p = some (bagO q p) ∧ H q = some (.lst (ns.map V.int))
theorem BagAt.mono {H H' : Hp} {p : Addr} (h : BagAt H p) (e : Same H H') : BagAt H' p := by
  obtain ⟨q, ns, a, b⟩ := h
  exact ⟨q, ns, e _ _ a, e _ _ b⟩
theorem rd_bag {K : PySem.W.Frag} {H : Hp} {p : Addr} {xs : List V} {j : Int} {v : V} {Q : VK} (e : atI xs j = some v) (k : Q v (upd H p (.lst xs))) : rIx K (.ref p) (.int j) (upd H p (.lst xs)) Q :=
  .inl ⟨p, xs, j, v, rfl, rfl, SqL.of upd_same, e, k⟩
theorem set_bag {H : Hp} {p : Addr} {xs : List V} {k : Int} {j : Nat} {v : V} {Q : Hp → Prop} (e : ixN xs.length k = some j) (q : Q (upd H p (.lst (xs.set j v)))) : rSetL (.ref p) (.int k) v (upd H p (.lst xs)) Q :=
  ⟨p, xs, k, j, rfl, rfl, upd_same, e, by rw [upd_upd]; exact q⟩
theorem shut_bag {H : Hp} {p q : Addr} {F : Hp → Prop} {i c st t : Int} (hp : H p = some (bagO q p)) (b : BagOk i st) (f : F H) : shutAt q p F (upd H p (.lst (bagL q i c st t))) :=
  ⟨i, c, st, t, b, upd_same, by rw [upd_upd, upd_self hp]; exact f⟩
end Fb

set_option Elab.async false
set_option linter.all false
set_option maxRecDepth 100000
set_option maxHeartbeats 4000000
namespace Fb
open PySem PySem.Spec L2
open PyProof.Rows hiding St
open C8 (Cal Met Mak Def cal0 met0 mak0 pe_c pe_mk pe_mt pe_mt0 fnScope fnBody fnArgs)

/-! ### comprehensions by what each element is -/
theorem same_mut {H H' : Hp} {p : Addr} {o : HO} (e : Same H H') (h : H p = none) : Same H (upd H' p o) := by
  intro a u ha
  rw [upd_ne (ne_of_none ha h)]
  exact e a u ha
theorem size5 {n : Nat} (h : n ≤ 100000) : n < sizeLine := Nat.lt_of_le_of_lt h (by decide)
theorem size5' {n : Nat} (h : n ≤ 100000) : n ≤ sizeLine := Nat.le_of_lt (size5 h)
section
variable {J : It} {n : Nat} {G : Hp → Prop} {Y : Nat → Hp → V → Hp → Prop} {g : TG} {tt : TT} {te : TE} {vs : List Nat} {σ : L2.St} {H1 : Hp} {D : Addr} {Qd : Hp → Prop}
/-- what a turn gives only makes the heap grow -/
def YGrow (Y : Nat → Hp → V → Hp → Prop) : Prop := ∀ i H x H', Y i H x H' → Same H H'
theorem grow_at {xs : List V} : YGrow (YAt xs) := by
  rintro i H x H' ⟨rfl, _⟩
  exact Same.refl _
theorem grow_fn {f : Nat → V} : YGrow (YFn f) := by
  rintro i H x H' ⟨rfl, _⟩
  exact Same.refl _
theorem grow_pair {xs ys : Nat → Option V} : YGrow (YPair xs ys) := by
  rintro i H x H' ⟨T, a, b, _, h, rfl, _⟩
  exact grow h

theorem upd_same_of {H H' : Hp} {p : Addr} {o : HO} (e : Same H H') : Same (upd H p o) (upd H' p o) := by
  intro b u h
  by_cases q : b = p
  · subst q
    rw [upd_same] at h
    rw [upd_same]
    exact h
  · rw [upd_ne q] at h
    rw [upd_ne q]
    exact e b u h
/-- each element of its kind, told by P, which does not lean on the new list -/
theorem lc_some (w : Walk J n G Y) (P : Nat → V → Hp → Prop) (hy : YGrow Y) (hn : n ≤ 100000) (hD : H1 D = none) (st : ∀ i v H H', Same H H' → P i v H → P i v H') (hG : ∀ H, Same H1 H → G H)
    (hs : ∀ i x H H', i < n → Same H1 H → (∃ xs, H D = some (.lst xs)) → Y i H x H' → ∀ R : V → Hp → Prop, (∀ v H2, Same H' H2 → (∀ o, P i v (upd H2 D o)) → R v H2) → g x (wipe σ vs) H' fun σ2 H2 => wipe σ2 vs = wipe σ vs ∧ te σ2 H2 R)
    (hd : ∀ xs H, Same H1 H → H D = some (.lst xs) → xs.length = n → (∀ i v, xs[i]? = some v → P i v H) → Qd H) :
    ∃ W : Nat → Nat → Hp → Prop, (∃ m, W 0 m (upd H1 D (.lst []))) ∧ ∀ i m H, W i m H →
      (J.stop i H ∧ Qd H) ∨ (J.go i H ∧ ∃ Nx : Hp → Prop, (∀ H', Nx H' → ∃ m', m' < m ∧ W (i + 1) m' H') ∧ ∀ x H', J.yld i H x H' → g x (wipe σ vs) H' fun σ2 H2 => wipe σ2 vs = wipe σ vs ∧ tYes σ2 H2 fun b H3 =>
        if b = true then te σ2 H3 fun y H4 => ∃ acc, H4 D = some (.lst acc) ∧ acc.length < sizeLine ∧ Nx (upd H4 D (.lst (acc ++ [y]))) else Nx H3) := by
  refine lc_it w (fun i H => Same H1 H ∧ ∃ xs : List V, H D = some (.lst xs) ∧ xs.length = i ∧ ∀ j v, xs[j]? = some v → ∀ o, P j v (upd H D o)) ?_ ?_ ?_ ?_
  · refine ⟨grow hD, [], upd_same, rfl, ?_⟩
    intro j v h
    cases h
  · rintro i H _ ⟨e, _⟩
    exact hG H e
  · rintro i x H H' hi ⟨e, xs, hx, hl, hp⟩ y
    have e2 := hy _ _ _ _ y
    refine hs i x H H' hi e ⟨xs, hx⟩ y _ ?_
    intro v H4 e4 p
    have e3 := e2.trans e4
    refine ⟨xs, e3 _ _ hx, size5 (by omega), same_mut (e.trans e3) hD, xs ++ [v], upd_same, by rw [List.length_append, hl]; rfl, ?_⟩
    intro j u hj o
    rw [upd_upd]
    by_cases q : j < xs.length
    · rw [List.getElem?_append_left q] at hj
      exact st _ _ _ _ (upd_same_of e3) (hp j u hj o)
    · rw [List.getElem?_append_right (by omega)] at hj
      have ej : j - xs.length = 0 := by
        cases h0 : j - xs.length with
        | zero => rfl
        | succ m =>
          rw [h0] at hj
          cases hj
      rw [ej] at hj
      cases hj
      rw [show j = i by omega]
      exact p o
  · rintro H ⟨e, xs, hx, hl, hp⟩
    refine hd xs H e hx hl ?_
    intro i v hv
    have := hp i v hv (.lst xs)
    rw [upd_self hx] at this
    exact this
/-- each element a value that is known -/
theorem lc_map (w : Walk J n G Y) (f : Nat → V) (hy : YGrow Y) (hn : n ≤ 100000) (hD : H1 D = none) (hG : ∀ H, Same H1 H → G H)
    (hs : ∀ i x H H', i < n → Same H1 H → Y i H x H' → ∀ R : V → Hp → Prop, (∀ H2, Same H' H2 → R (f i) H2) → g x (wipe σ vs) H' fun σ2 H2 => wipe σ2 vs = wipe σ vs ∧ te σ2 H2 R)
    (hd : ∀ H, Same H1 H → H D = some (.lst ((List.range n).map f)) → Qd H) :
    ∃ W : Nat → Nat → Hp → Prop, (∃ m, W 0 m (upd H1 D (.lst []))) ∧ ∀ i m H, W i m H →
      (J.stop i H ∧ Qd H) ∨ (J.go i H ∧ ∃ Nx : Hp → Prop, (∀ H', Nx H' → ∃ m', m' < m ∧ W (i + 1) m' H') ∧ ∀ x H', J.yld i H x H' → g x (wipe σ vs) H' fun σ2 H2 => wipe σ2 vs = wipe σ vs ∧ tYes σ2 H2 fun b H3 =>
        if b = true then te σ2 H3 fun y H4 => ∃ acc, H4 D = some (.lst acc) ∧ acc.length < sizeLine ∧ Nx (upd H4 D (.lst (acc ++ [y]))) else Nx H3) := by
  refine lc_some w (fun i v _ => v = f i) hy hn hD (fun _ _ _ _ _ h => h) hG ?_ ?_
  · intro i x H H' hi e _ y R h
    exact hs i x H H' hi e y R fun H2 e2 => h _ H2 e2 fun _ => rfl
  · intro xs H e hx hl hp
    have ex : xs = (List.range n).map f := by
      refine List.ext_getElem? fun i => ?_
      by_cases q : i < n
      · rw [List.getElem?_map, List.getElem?_range q, List.getElem?_eq_getElem (by omega)]
        exact congrArg some (hp i _ (List.getElem?_eq_getElem (by omega)))
      · rw [List.getElem?_eq_none (by omega), List.getElem?_eq_none (by simp; omega)]
    rw [ex] at hx
    exact hd H e hx
/-- the same with a test -/
theorem lc_filt (w : Walk J n G Y) (b : Nat → Bool) (f : Nat → V) (hy : YGrow Y) (hn : n ≤ 100000) (hD : H1 D = none) (hG : ∀ H, Same H1 H → G H)
    (hs : ∀ i x H H', i < n → Same H1 H → Y i H x H' → ∀ (F : Hp → Prop) (R : V → Hp → Prop), (∀ H2, Same H' H2 → b i = true → R (f i) H2) → (∀ H2, Same H' H2 → b i = false → F H2) →
      g x (wipe σ vs) H' fun σ2 H2 => wipe σ2 vs = wipe σ vs ∧ tt σ2 H2 fun c H3 => if c = true then te σ2 H3 R else F H3)
    (hd : ∀ H, Same H1 H → H D = some (.lst (((List.range n).filter b).map f)) → Qd H) :
    ∃ W : Nat → Nat → Hp → Prop, (∃ m, W 0 m (upd H1 D (.lst []))) ∧ ∀ i m H, W i m H →
      (J.stop i H ∧ Qd H) ∨ (J.go i H ∧ ∃ Nx : Hp → Prop, (∀ H', Nx H' → ∃ m', m' < m ∧ W (i + 1) m' H') ∧ ∀ x H', J.yld i H x H' → g x (wipe σ vs) H' fun σ2 H2 => wipe σ2 vs = wipe σ vs ∧ tt σ2 H2 fun b H3 =>
        if b = true then te σ2 H3 fun y H4 => ∃ acc, H4 D = some (.lst acc) ∧ acc.length < sizeLine ∧ Nx (upd H4 D (.lst (acc ++ [y]))) else Nx H3) := by
  refine lc_it w (fun i H => Same H1 H ∧ H D = some (.lst (((List.range i).filter b).map f))) ?_ ?_ ?_ ?_
  · exact ⟨grow hD, upd_same⟩
  · rintro i H _ ⟨e, _⟩
    exact hG H e
  · rintro i x H H' hi ⟨e, hx⟩ y
    have e2 := hy _ _ _ _ y
    have len : (((List.range i).filter b).map f).length ≤ 100000 := by
      rw [List.length_map]
      refine Nat.le_trans (List.length_filter_le _ _) ?_
      rw [List.length_range]
      omega
    refine hs i x H H' hi e y (fun H3 => Same H1 H3 ∧ H3 D = some (.lst (((List.range (i + 1)).filter b).map f))) _ ?_ ?_
    · intro H4 e4 hb
      refine ⟨_, (e2.trans e4) _ _ hx, size5 len, same_mut (e.trans (e2.trans e4)) hD, ?_⟩
      rw [upd_same, List.range_succ, List.filter_append, List.map_append, List.filter_cons_of_pos hb]
      rfl
    · intro H4 e4 hb
      refine ⟨e.trans (e2.trans e4), ?_⟩
      rw [(e2.trans e4) _ _ hx, List.range_succ, List.filter_append, List.map_append, List.filter_cons_of_neg (by rw [hb]; exact Bool.false_ne_true)]
      rw [List.filter_nil, List.map_nil, List.append_nil]
  · rintro H ⟨e, hx⟩
    exact hd H e hx
end

theorem small_log {n : Int} (h0 : 0 ≤ n) (h : n ≤ 1000000000000) : n.natAbs.log2 < 9000 :=
  Nat.lt_of_lt_of_le (PySem.Flt.log2_lt_of (show 0 < 50 by decide) (by omega)) (by decide)

/-- a value of any kind: a text, or none -/
theorem AnyV.strOr {K : PySem.W.Frag} {H : Hp} {v : V} (h : AnyV K H v) : (∃ z : Str, v = .str z ∧ z.length ≤ 100000) ∨ ((∀ z, v ≠ .str z) ∧ ∃ t, TyX K H v (.type t) ∧ kitB t "str" = some false) := by
  rcases h with h | ⟨b, h⟩ | ⟨i, h⟩ | ⟨z, h, l⟩ | ⟨a, xs, h, g⟩ | ⟨a, xs, h, g⟩ | ⟨a, xs, h, g⟩
  all_goals subst h
  · exact .inr ⟨(fun _ e => nomatch e), _, .base .non, by decide +kernel⟩
  · exact .inr ⟨(fun _ e => nomatch e), _, .base (.bl b), by decide +kernel⟩
  · exact .inr ⟨(fun _ e => nomatch e), _, .base (.int i), by decide +kernel⟩
  · exact .inl ⟨z, rfl, l⟩
  · exact .inr ⟨(fun _ e => nomatch e), _, .base (.lst g), by decide +kernel⟩
  · exact .inr ⟨(fun _ e => nomatch e), _, .base (.tup g), by decide +kernel⟩
  · exact .inr ⟨(fun _ e => nomatch e), _, .base (.dK g), by decide +kernel⟩
theorem AnyV.intOr {K : PySem.W.Frag} {H : Hp} {v : V} (h : AnyV K H v) : (∃ i, v = .int i) ∨ (∃ b, v = .bl b) ∨ ((∀ z, v ≠ .int z) ∧ ∃ t, TyX K H v (.type t) ∧ kitB t "int" = some false) := by
  rcases h with h | ⟨b, h⟩ | ⟨i, h⟩ | ⟨z, h, l⟩ | ⟨a, xs, h, g⟩ | ⟨a, xs, h, g⟩ | ⟨a, xs, h, g⟩
  all_goals subst h
  · exact .inr (.inr ⟨(fun _ e => nomatch e), _, .base .non, by decide +kernel⟩)
  · exact .inr (.inl ⟨b, rfl⟩)
  · exact .inl ⟨i, rfl⟩
  · exact .inr (.inr ⟨(fun _ e => nomatch e), _, .base (.str z), by decide +kernel⟩)
  · exact .inr (.inr ⟨(fun _ e => nomatch e), _, .base (.lst g), by decide +kernel⟩)
  · exact .inr (.inr ⟨(fun _ e => nomatch e), _, .base (.tup g), by decide +kernel⟩)
  · exact .inr (.inr ⟨(fun _ e => nomatch e), _, .base (.dK g), by decide +kernel⟩)

theorem map_range_get {α β : Type} (d : α) (f : α → β) : ∀ l : List α, (List.range l.length).map (fun i => f (l.getD i d)) = l.map f
  | [] => rfl
  | a :: r => by
    rw [List.length_cons, List.range_succ_eq_map, List.map_cons, List.map_map, List.map_cons]
    exact congrArg (f a :: ·) (map_range_get d f r)
theorem str_len (z : Str) : z.cps.size = z.cps.toList.length := (Array.length_toList).symm

/-! ### data on the heap -/
mutual
theorem dp_mono {K : PySem.W.Frag} {H H' : Hp} (e : Same H H') : ∀ (d : PyData) {v : V}, Dp K H v d → Dp K H' v d
  | .none, _, h => by cases h; exact .non
  | .bool _, _, h => by cases h; exact .bl _
  | .int _, _, h => by cases h; exact .int _
  | .str _, _, h => by cases h; exact .str _
  | .list ds, _, h => by
    cases h with
    | lst s a => exact .lst (e.seq s) (dpAll_mono e ds a)
  | .tuple ds, _, h => by
    cases h with
    | tup s a => exact .tup (same_tup e s) (dpAll_mono e ds a)
  | .dict _, _, h => by cases h
theorem dpAll_mono {K : PySem.W.Frag} {H H' : Hp} (e : Same H H') : ∀ (ds : List PyData) {vs : List V}, DpAll K H vs ds → DpAll K H' vs ds
  | [], _, h => by cases h; exact .nil
  | d :: ds, _, h => by
    cases h with
    | cons a b => exact .cons (dp_mono e d a) (dpAll_mono e ds b)
end
theorem dpAll_map {K : PySem.W.Frag} {H : Hp} {α : Type} {f : α → V} {g : α → PyData} : ∀ {l : List α}, (∀ x ∈ l, Dp K H (f x) (g x)) → DpAll K H (l.map f) (l.map g)
  | [], _ => .nil
  | x :: r, h => .cons (h x (List.mem_cons_self ..)) (dpAll_map fun y hy => h y (List.mem_cons_of_mem _ hy))
theorem dpAll_len {K : PySem.W.Frag} {H : Hp} : ∀ {vs : List V} {ds : List PyData}, DpAll K H vs ds → vs.length = ds.length
  | _, _, .nil => rfl
  | _, _, .cons _ b => congrArg Nat.succ (dpAll_len b)
theorem dpAll_get {K : PySem.W.Frag} {H : Hp} : ∀ {vs : List V} {ds : List PyData} {i : Nat} {v : V}, DpAll K H vs ds → vs[i]? = some v → ∃ d, ds[i]? = some d ∧ Dp K H v d
  | _, _, _, _, .nil, h => by cases h
  | _, _, 0, _, .cons (d := d) a _, h => by
    cases h
    exact ⟨d, rfl, a⟩
  | _, _, i + 1, v, .cons _ b, h => dpAll_get (i := i) b h
/-- the type's name -/
def dName : PyData → String
  | .none => "NoneType"
  | .bool _ => "bool"
  | .int _ => "int"
  | .str _ => "str"
  | .list _ => "list"
  | .tuple _ => "tuple"
  | .dict _ => "dict"
theorem sql_ty {K : PySem.W.Frag} {H : Hp} {a : Addr} {xs : List V} (h : SqL K H a xs) : TyX K H (.ref a) (.type "list") := by
  rcases h with (h | ⟨o, h⟩) | ⟨o, its, n, h, c, _⟩
  · exact .base (.lst h)
  · exact .base (.frz h)
  · exact .kList h c
theorem sqt_ty {K : PySem.W.Frag} {H : Hp} {a : Addr} {xs : List V} (h : SqT K H a xs) : TyX K H (.ref a) (.type "tuple") := by
  rcases h with (h | ⟨o, h⟩) | ⟨o, its, n, h, c, _⟩
  · exact .base (.tup h)
  · exact .fTuple h
  · exact .kTuple h c
theorem dp_ty {K : PySem.W.Frag} {H : Hp} {v : V} {d : PyData} (h : Dp K H v d) : TyX K H v (.type (dName d)) := by
  cases h with
  | non => exact .base .non
  | bl b => exact .base (.bl b)
  | int i => exact .base (.int i)
  | str x => exact .base (.str x)
  | lst s _ => exact sql_ty s
  | tup s _ => exact sqt_ty s
theorem ty_mono {K : PySem.W.Frag} {H H' : Hp} {v : V} {d : PyData} (h : Dp K H v d) (e : Same H H') : TyX K H' v (.type (dName d)) := dp_ty (dp_mono e d h)
/-- data of less than n levels, no list longer than 100000 -/
def Lk : Nat → PyData → Prop
  | 0, _ => False
  | n + 1, .list ds => ds.length ≤ 100000 ∧ ∀ d ∈ ds, Lk n d
  | n + 1, .tuple ds => ds.length ≤ 100000 ∧ ∀ d ∈ ds, Lk n d
  | _ + 1, .dict _ => False
  | _ + 1, _ => True

theorem walk_zipT {K : PySem.W.Frag} {a b : Addr} {xs ys : List V} {n : Nat} (hn : n = min xs.length ys.length) :
    Walk (RZ.ItzT K a b) n (fun H => SqT K H a xs ∧ SqT K H b ys) (YPair (fun i => xs[i]?) (fun i => ys[i]?)) := by
  subst hn
  constructor
  · rintro i H hi ⟨p, q⟩
    have h1 : i < xs.length := by omega
    have h2 : i < ys.length := by omega
    exact ⟨xs, ys, xs[i], ys[i], p, q, List.getElem?_eq_getElem h1, List.getElem?_eq_getElem h2⟩
  · rintro H ⟨p, q⟩
    exact ⟨xs, ys, p, q, by omega⟩
  · rintro i H v H' _ ⟨p, q⟩ ⟨T, x, z, h1, h2, h3, h4, h5⟩
    exact ⟨T, x, z, h1, h2, h3, h4 xs p, h5 ys q⟩
theorem lk_item {n : Nat} {ds : List PyData} {i : Nat} {d : PyData} (h : ∀ d ∈ ds, Lk n d) (e : ds[i]? = some d) : Lk n d := h d (List.mem_of_getElem? e)
theorem all_true (n : Nat) : ((List.range n).map fun _ => true).all id = true := by
  rw [List.all_eq_true]
  intro b h
  obtain ⟨_, _, rfl⟩ := List.mem_map.mp h
  rfl
end Fb

set_option Elab.async false
set_option linter.all false
set_option maxRecDepth 100000
set_option maxHeartbeats 4000000
namespace Fb
open PySem PySem.Spec L2
open PyProof.Rows hiding St
/-! ### names and numbers, without a heap -/
def letC (c : Nat) : Bool := decide (97 ≤ c) && decide (c ≤ 122)
def nameB : V → Bool
  | .str z => decide (1 ≤ z.length) && decide (z.length ≤ 8) && z.cps.toList.all letC
  | _ => false
theorem nameB_no {v : V} (h : ∀ z, v ≠ .str z) : nameB v = false := by
  cases v with
  | str z => exact absurd rfl (h z)
  | _ => rfl
theorem lt1 (a b : Nat) : decide ((#[a] : Array Nat).toList < (#[b] : Array Nat).toList) = decide (a < b) := by
  refine decide_eq_decide.mpr ?_
  show ([a] : List Nat) < [b] ↔ a < b
  rw [List.cons_lt_cons_iff]
  constructor
  · rintro (h | ⟨_, h⟩)
    · exact h
    · exact absurd h (List.not_lt_nil _)
  · exact fun h => .inl h
def numB (v : V) (l : Int) (h : Option Int) : Bool := match v with
  | .int i => decide (l ≤ i) && (match h with | none => true | some m => decide (i ≤ m))
  | _ => false
theorem numB_no {v : V} {l : Int} {h : Option Int} (no : ∀ z, v ≠ .int z) : numB v l h = false := by
  cases v with
  | int z => exact absurd rfl (no z)
  | _ => rfl
theorem numB_hi {a : V} {l : Int} {h : Option Int} (e : numB a l none = false) : numB a l h = false := by
  cases a with
  | int i =>
    have e : (decide (l ≤ i) && true) = false := e
    rw [Bool.and_true] at e
    show (decide (l ≤ i) && _) = false
    rw [e, Bool.false_and]
  | _ => rfl
theorem numB_int {a : V} {l : Int} (e : numB a l none = true) : ∃ i, a = .int i ∧ l ≤ i := by
  cases a with
  | int i =>
    have e : (decide (l ≤ i) && true) = true := e
    rw [Bool.and_true] at e
    exact ⟨i, rfl, of_decide_eq_true e⟩
  | _ => cases e
def az : Str := "abcdefghijklmnopqrstuvwxyz"
theorem az_in (c : Nat) : decide (c ∈ az.cps.toList) = letC c := by
  have e : az.cps.toList = (List.range 26).map (· + 97) := by decide +kernel
  rw [e]
  unfold letC
  rw [← Bool.decide_and]
  refine decide_eq_decide.mpr ?_
  rw [List.mem_map]
  constructor
  · rintro ⟨k, hk, rfl⟩
    have := List.mem_range.mp hk
    omega
  · intro h
    exact ⟨c - 97, List.mem_range.mpr (by omega), by omega⟩

theorem eqv_list_nil (ds : List PyData) : PyData.eqv (.list ds) (.list []) = ds.isEmpty := by
  cases ds <;> rfl

theorem filt_none (l : List Nat) : ((List.range l.length).filter fun i => !letC (l.getD i 0)).isEmpty = l.all letC := by
  induction l with
  | nil => rfl
  | cons a r ih =>
    rw [List.length_cons, List.range_succ_eq_map, List.filter_cons, List.all_cons, List.filter_map]
    show (if (!letC a) = true then _ else _ : List Nat).isEmpty = _
    cases h : letC a with
    | true =>
      rw [if_neg (by decide), List.isEmpty_map, Bool.true_and]
      exact ih
    | false =>
      rw [if_pos (by decide), Bool.false_and]
      rfl

/-- values that are all of one form are the images of what tells them -/
theorem all_of {α : Type} (f : α → V) : ∀ xs : List V, (∀ (i : Nat) v, xs[i]? = some v → ∃ c, v = f c) → ∃ cs : List α, xs = cs.map f
  | [], _ => ⟨[], rfl⟩
  | x :: r, h => by
    obtain ⟨c, hc⟩ := h 0 x rfl
    obtain ⟨cs, hcs⟩ := all_of f r fun i v e => h (i + 1) v e
    exact ⟨c :: cs, by rw [hc, hcs]; rfl⟩

theorem ones_sum : ∀ cs : List Nat, ((cs.map fun c => (⟨#[c]⟩ : Str)).map (·.length)).sum = cs.length
  | [] => rfl
  | c :: r => by
    rw [List.map_cons, List.map_cons, List.sum_cons, ones_sum r, List.length_cons]
    exact Nat.add_comm 1 _
theorem one_join (cs : List Nat) : (Txt.join "" (cs.map fun c => (⟨#[c]⟩ : Str))).length = cs.length := by
  have h := size_glued "" (cs.map fun c => (⟨#[c]⟩ : Str))
  rw [ones_sum] at h
  exact h

theorem num_text {i : Int} (h : i.natAbs < 10 ^ 20) : i.natAbs.log2 < 1920 ∧ (Str.ofString (toString i)).length ≤ 100000 := by
  have e := int_text_length_le10 (k := 20) (by decide) h
  refine ⟨Nat.lt_of_lt_of_le (PySem.Flt.log2_lt_of (k := 67) (by decide) (by omega)) (by decide), ?_⟩
  rw [PySem.ofString_length]
  omega

theorem str_cat (a b : Str) : (a ++ b).length = a.length + b.length := PySem.Str.length_append a b
end Fb

set_option Elab.async false
set_option linter.all false
set_option maxRecDepth 100000
set_option maxHeartbeats 4000000
/-! enumerate over a tuple -/
namespace PySem
open Sem (wp)
set_option maxHeartbeats 1000000 in
theorem fb_enum_new {v : Value} {o : Obj} {G : Heap → Prop} (B : Begins v o G) :
    Meets (Builtin.«enumerate.__new__» ⟨[.type "enumerate", v], []⟩) (fun _ R s => G s.heap ∧
      R (.ok (.ret (.ref (s.heap.push o).objs.size))) { s with heap := (s.heap.push o).push { cls := .type "enumerate", data := .fields #[.none, .bool false, .ref s.heap.objs.size, rawInt 0, .none, .none] } }) := by
  refine .of_wp fun prog w A R s h => ?_
  obtain ⟨h0, g, d, tk, os⟩ := s
  obtain ⟨h1, h⟩ := h
  have sb := sub_enumerate
  have go : ∀ {A' : Around} {E Q : Value → Shared → Prop}, Q (.ref h0.objs.size) ⟨h0.push o, g, d, tk, os⟩ → wpAny (model prog w) A' (pyIter v) Q E ⟨h0, g, d, tk, os⟩ := by
    intro A' E Q q
    exact B.iter prog w _ _ ⟨h0, g, d, tk, os⟩ _ h1 q
  wp_walk using go
  refine wpAny_stack_any fun stk => wpAny_pure ?_
  split
  · rename_i c _ _ _ _ _
    cases (c == Value.type "enumerate") <;> (wp_walk using go; exact ⟨_, rfl, h⟩)
  · wp_walk using go
    exact ⟨_, rfl, h⟩
theorem fb_enum {prog : Program} {w : World} {A : Around} {E Q : Value → Shared → Prop} {s : Shared} {v : Value} {o : Obj} {G : Heap → Prop} (B : Begins v o G) (h1 : G s.heap)
    (h : ∀ h', IsEnum h' (s.heap.objs.size + 1) s.heap.objs.size 0 .none → h'.get? s.heap.objs.size = some o → (∀ b u, s.heap.get? b = some u → h'.get? b = some u) → Q (.ref (s.heap.objs.size + 1)) { s with heap := h' }) :
    wpAny (model prog w) A (call (.type "enumerate") [v]) Q E s := by
  refine callType_new F.called_enumerate (by decide) (F.typeCall_enumerate_1 _) (F.newCall_enumerate_1 _) (fun _ => F.args_object_init_2 _ _) F.entry_enumerate_new (fb_enum_new B) ⟨h1, ?_⟩
  have z : (s.heap.push o).objs.size = s.heap.objs.size + 1 := Heap.size_push ..
  have he : IsEnum ((s.heap.push o).push { cls := .type "enumerate", data := .fields #[.none, .bool false, .ref s.heap.objs.size, rawInt 0, .none, .none] }) (s.heap.objs.size + 1) s.heap.objs.size 0 .none := by
    rw [← z]
    exact Heap.get?_push_size _ rfl
  show _ ∧ _
  rw [z]
  exact ⟨⟨_, he, rfl⟩, h _ he (Heap.get?_push_of_some _ (Heap.get?_push_size _ B.free)) fun b u e => Heap.get?_push_of_some _ (Heap.get?_push_of_some _ e)⟩
end PySem
namespace Fb
open PySem PySem.Spec L2
open PyProof.Rows hiding St
/-- the tuple at a, each item behind its place in a new pair -/
def IteT (K : PySem.W.Frag) (a : Addr) : It where
  go := fun i H => ∃ (xs : List V) (x : V), SqT K H a xs ∧ xs[i]? = some x
  yld := fun i H v H' => ∃ T x, v = .ref T ∧ H T = none ∧ H' = upd H T (.tup [.int (i : Nat), x]) ∧ ∀ xs, SqT K H a xs → xs[i]? = some x
  stop := fun i H => ∃ xs : List V, SqT K H a xs ∧ xs.length = i
theorem turn_enumT {P : Program} {w : World} {K : PySem.W.Frag} {elts : List Expr} {kk : Nat} {tpos : Pos} (a e it : Addr) :
    Turn P w K (.Tuple elts kk tpos) (IteT K a) [e, it] e (fun i h => (∃ old, IsEnum h e it ((i : Nat) : Int) old) ∧ h.IsTupleIter it a i ∧ e ≠ it) where
  mem := List.mem_cons_self ..
  obj := by
    rintro i h ⟨⟨old, h1⟩, ⟨o, h2, _, h3⟩, _⟩ b hb
    rcases List.mem_cons.mp hb with rfl | hb
    · exact ⟨_, h1, fun v q => nomatch q⟩
    · cases List.mem_singleton.mp hb
      exact ⟨o, h2, fun v q => by rw [h3] at q; cases q⟩
  keep := by
    rintro i h h' ⟨⟨old, h1⟩, h2, h3⟩ k
    exact ⟨⟨old, k e (List.mem_cons_self ..) _ h1⟩, h2.at fun o q => k it (List.mem_cons_of_mem _ (List.mem_singleton.mpr rfl)) o q, h3⟩
  item := by
    intro X hP hw hK hc i pins s σ H E I hf st hg
    subst hP hw hK
    obtain ⟨⟨old, h1⟩, h2, h3⟩ := st
    obtain ⟨xs, x, hq, hx⟩ := hg
    obtain ⟨its, rv, p, hz⟩ := I.tuple hq
    obtain ⟨u, hu, ru⟩ := rv.get hx
    have le : e < s.heap.objs.size := Heap.lt_size h1
    have li : it < s.heap.objs.size := by
      obtain ⟨_, q, _⟩ := h2
      exact Heap.lt_size q
    have ea : e ≠ a := by
      rintro rfl
      obtain ⟨o, q, c, _⟩ := p
      rw [h1] at q
      cases q
      exact absurd (Value.type.inj c) (by decide)
    have ia : a ≠ it := by
      rintro rfl
      obtain ⟨o, q, c, _⟩ := p
      obtain ⟨o2, q2, c2, _⟩ := h2
      rw [q] at q2
      cases q2
      rw [c] at c2
      exact absurd (Value.type.inj c2) (by decide)
    have lt : i < its.toArray.size := by
      rw [List.size_toArray]
      exact (List.getElem?_eq_some_iff.mp hu).1
    have nf : e ∉ ([it, a] : List Addr) := by
      intro q
      rcases List.mem_cons.mp q with q | q
      · exact h3 q
      · exact ea (List.mem_singleton.mp q)
    refine wpAny_pyNext_enum_itemD (Draws.tuple (prog := X.prog) (w := X.w) (A := X.A.in1) (I.ok.hd hc) it a ia its.toArray) h1 ⟨h2, p⟩ lt h3 nf fun y h' tk hy ho hs hT hsz hk => ?_
    have ey : y = u := by
      have hy : its.toArray[i]? = some y := hy
      rw [List.getElem?_toArray, hu] at hy
      exact (Option.some.inj hy).symm
    subst ey
    refine ⟨_, rfl, wpAny_letOwnedTupleGo_enum (s := { s with heap := h', toks := tk + 1 }) ho fun g he sb => ?_⟩
    have hT2 := (sb.2 _ (Nat.ne_of_gt le)).trans hT
    have hk2 : ∀ b ob, b ∉ [e, it] → s.heap.get? b = some ob → g.get? b = some ob := by
      intro b ob nb q
      have n1 : b ≠ e := fun z => nb (by rw [z]; exact List.mem_cons_self ..)
      have n2 : b ≠ it := fun z => nb (by rw [z]; exact List.mem_cons_of_mem _ (List.mem_singleton.mpr rfl))
      exact (sb.2 b n1).trans (hk b ob n1 n2 q)
    have new : ObjOk X.prog X.w (upd H s.heap.objs.size (.tup [.int (i : Nat), x])) g s.heap.objs.size (.tup [.int (i : Nat), x]) :=
      ⟨by show 2 ≤ sizeLine; decide, [.int i tk, y], .cons ⟨_, rfl⟩ (.cons ru .nil), ⟨_, hT2, rfl, _, rfl⟩⟩
    have I1 : Inv X pins σ (upd H s.heap.objs.size (.tup [.int (i : Nat), x])) { s with heap := g, toks := tk + 1 } := I.turnedNew (ch := [e, it]) hk2 hf (Nat.le_refl _) new
    refine ⟨.ref s.heap.objs.size, _, I1, rfl, ⟨_, x, rfl, I.hok.fresh (Nat.le_refl _), rfl, fun ys hys => by rw [I.tuple_inj hys hq]; exact hx⟩, ⟨⟨y, ?_⟩, hs.1.at fun o q => (sb.2 it (Ne.symm h3)).trans q, h3⟩, fun b hb => ?_⟩
    · rw [show ((i + 1 : Nat) : Int) = (i : Int) + 1 by omega]
      exact he
    · rw [upd_ne ?_]
      · exact (hf b hb).1
      · rcases List.mem_cons.mp hb with rfl | hb
        · exact Nat.ne_of_lt le
        · cases List.mem_singleton.mp hb
          exact Nat.ne_of_lt li
  done := by
    intro X hP hw hK hc i pins s σ H E I hf st hg
    subst hP hw hK
    obtain ⟨⟨old, h1⟩, h2, h3⟩ := st
    obtain ⟨xs, hq, hx⟩ := hg
    obtain ⟨its, rv, p, hz⟩ := I.tuple hq
    have ia : a ≠ it := by
      rintro rfl
      obtain ⟨o, q, c, _⟩ := p
      obtain ⟨o2, q2, c2, _⟩ := h2
      rw [q] at q2
      cases q2
      rw [c] at c2
      exact absurd (Value.type.inj c2) (by decide)
    have en : i = its.toArray.size := by
      rw [List.size_toArray, ← rv.length]
      exact hx.symm
    obtain ⟨f0, f1, f2, f3, f4, f5⟩ := hf it (List.mem_cons_of_mem _ (List.mem_singleton.mpr rfl))
    refine wpAny_pyNext_enum_endD (Draws.tuple (prog := X.prog) (w := X.w) (A := X.A.in1) (I.ok.hd hc) it a ia its.toArray) h1 ⟨en ▸ h2, p⟩ fun h' eb => ⟨rfl, ?_⟩
    exact I.turned (t' := s.toks) (fun b o hb q => eb b o hb q) f0 f1 f3 f4 f5
  self := by
    rintro A i s Q E ⟨⟨_, h1⟩, _⟩ h
    exact wpAny_pyIter_enum h1 h
def iEnumT (K : PySem.W.Frag) (ta : TA) : TI := fun σ H R => ta σ H fun vs H1 => ∃ a xs, vs = [.ref a] ∧ SqT K H1 a xs ∧ R (IteT K a) H1
theorem pi_enumT {X : Cx} {K : PySem.W.Frag} (eK : X.K = K) {e : Expr} {ta : TA} {p pos tpos : Pos} {elts : List Expr} {kk : Nat} (hg : Gl X "enumerate") (hm : X.mg "enumerate" = none) (ha : PA X [e] ta) (hs : starEach [e] X.env = [(false, eval e X.env)] := by rfl) :
    PI X (.Tuple elts kk tpos) (.Call (.Name "enumerate" p) [e] [] pos) (iEnumT K ta) := by
  subst eK
  constructor
  intro pins s σ H R I h
  refine Call_ (ld_blt I hg hm boot_enumerate (PyProof.Rows.callWith_type1 (thn (ha.run pos pins s σ H _ I h) ?_) hs rfl))
  rintro us s1 ⟨vs, H1, I1, r1, a, xs, rfl, hq, q⟩
  cases r1 with
  | cons r rr =>
    cases rr
    cases r
    obtain ⟨its, rv, p', hz⟩ := I1.tuple hq
    refine fb_enum (begins_tuple a its.toArray) p' fun h' he ho hk => wpAny_pyIter_enum he ?_
    have I2 : Inv X pins σ H1 { s1 with heap := h' } := I1.kept (t' := s1.toks) hk
    refine ⟨s1.heap.objs.size + 1, [s1.heap.objs.size + 1, s1.heap.objs.size], _, _, H1, rfl, I2, turn_enumT a _ _, ⟨⟨.none, he⟩, ⟨_, ho, rfl, rfl⟩, Nat.succ_ne_self _⟩, fun b hb => ?_, q⟩
    have le : s1.heap.objs.size ≤ b := by
      rcases List.mem_cons.mp hb with rfl | hb
      · exact Nat.le_succ _
      · cases List.mem_singleton.mp hb
        exact Nat.le_refl _
    exact I1.fpOk le (I1.hok.fresh le)
theorem walk_enumT {K : PySem.W.Frag} {a : Addr} {xs : List V} : Walk (IteT K a) xs.length (fun H => SqT K H a xs) (YPair (fun i => some (.int (i : Nat))) (fun i => xs[i]?)) := by
  constructor
  · intro i H hi q
    exact ⟨xs, xs[i], q, List.getElem?_eq_getElem hi⟩
  · intro H q
    exact ⟨xs, q, rfl⟩
  · rintro i H v H' _ q ⟨T, x, h1, h2, h3, h4⟩
    exact ⟨T, .int (i : Nat), x, h1, h2, h3, rfl, h4 xs q⟩
section
variable {X : Cx} {K : PySem.W.Frag} (e : X.K = K)
include e
theorem max_K (hc : X.calm = true) : CallR X (.builtin "max") (rMax K) := e ▸ cr_max hc
theorem slT_K : SlR X (rSlT K) := e ▸ sl_tup
end
theorem tup_inj {X : Cx} {pins : List (Addr × Obj)} {σ : L2.St} {H : Hp} {s : Shared} {a : Addr} {xs ys : List V} (I : Inv X pins σ H s) (h1 : SqT X.K H a xs) (h2 : SqT X.K H a ys) : xs = ys := I.tuple_inj h1 h2
end Fb

set_option Elab.async false
set_option linter.all false
set_option maxRecDepth 100000
set_option maxHeartbeats 4000000
namespace Fb
open PySem PySem.Spec L2
open PyProof.Rows hiding St
/-! ### methods by their body -/
section
variable {P : Program} {w : World} {K : PySem.W.Frag} {mg : Str → Option Value} {base : Heap} {m qual : Str} {st : Stmt} {f : Addr} {fd : FuncData} {N : List Str} {k : Nat} {p1 p2 p3 : Str}
theorem fm1 {g : V → Hp → VK → Prop} (F : C8.Fun K m qual st f fd) (S : FnScope N [p1] (C8.fnScope st))
    (body : ∀ (cdv : Value) (A : Around) (outer : List Env) (s : Shared) (H : Hp) (a : V) (Q : VK) (E : XK), Room k (A.deeper (envOfC qual (C8.fnScope st) s.heap.objs.size f cdv)) → g a H Q →
      ∃ t, PSs (cxOf C8.CX0 P w K mg base N qual (C8.fnScope st) f cdv A outer s H E).nox (C8.fnBody st) t ∧ t { nx := fun _ H' => Q .non H', rt := Q } (start N [a]) H) : FnOk P w K mg base C8.CX0 (k + 1) f fd [p1] (sp1 g) := by
  refine C8.fn0 F S ?_ ?_
  · rintro vs H Q E ⟨a, rfl, _⟩
    rfl
  · rintro cdv A outer s H vs Q E hr ⟨a, rfl, h⟩
    exact body cdv A outer s H a Q E hr h
theorem fm2 {g : V → V → Hp → VK → Prop} (F : C8.Fun K m qual st f fd) (S : FnScope N [p1, p2] (C8.fnScope st))
    (body : ∀ (cdv : Value) (A : Around) (outer : List Env) (s : Shared) (H : Hp) (a b : V) (Q : VK) (E : XK), Room k (A.deeper (envOfC qual (C8.fnScope st) s.heap.objs.size f cdv)) → g a b H Q →
      ∃ t, PSs (cxOf C8.CX0 P w K mg base N qual (C8.fnScope st) f cdv A outer s H E).nox (C8.fnBody st) t ∧ t { nx := fun _ H' => Q .non H', rt := Q } (start N [a, b]) H) : FnOk P w K mg base C8.CX0 (k + 1) f fd [p1, p2] (sp2 g) := by
  refine C8.fn0 F S ?_ ?_
  · rintro vs H Q E ⟨a, b, rfl, _⟩
    rfl
  · rintro cdv A outer s H vs Q E hr ⟨a, b, rfl, h⟩
    exact body cdv A outer s H a b Q E hr h
theorem fm3 {g : V → V → V → Hp → VK → Prop} (F : C8.Fun K m qual st f fd) (S : FnScope N [p1, p2, p3] (C8.fnScope st))
    (body : ∀ (cdv : Value) (A : Around) (outer : List Env) (s : Shared) (H : Hp) (a b c : V) (Q : VK) (E : XK), Room k (A.deeper (envOfC qual (C8.fnScope st) s.heap.objs.size f cdv)) → g a b c H Q →
      ∃ t, PSs (cxOf C8.CX0 P w K mg base N qual (C8.fnScope st) f cdv A outer s H E).nox (C8.fnBody st) t ∧ t { nx := fun _ H' => Q .non H', rt := Q } (start N [a, b, c]) H) : FnOk P w K mg base C8.CX0 (k + 1) f fd [p1, p2, p3] (sp3 g) := by
  refine C8.fn0 F S ?_ ?_
  · rintro vs H Q E ⟨a, b, c, rfl, _⟩
    rfl
  · rintro cdv A outer s H vs Q E hr ⟨a, b, c, rfl, h⟩
    exact body cdv A outer s H a b c Q E hr h
end
/-! ### hours of a day, without a heap -/
/-- can it be entered at t -/
def openM (ws : Option (List (Int × Int))) (t : Int) : Bool := match ws with
  | none => true
  | some l => l.any fun p => decide (p.1 ≤ t) && decide (t < p.2)
/-- what is read at any time -/
def readM (f : List Int) (t : Int) : Int := f.getD (t % (f.length : Int)).toNat 0 + t / (f.length : Int) * f.length
/-! ### windows on the heap -/
def dW (l : List (Int × Int)) : List PyData := l.map fun p => .tuple [.int p.1, .int p.2]
def WinV (K : PySem.W.Frag) (H : Hp) (v : V) (ws : Option (List (Int × Int))) : Prop :=
  (ws = none ∧ v = .non) ∨ ∃ l, ws = some l ∧ l.length ≤ 1000 ∧ (Dp K H v (.list (dW l)) ∨ Dp K H v (.tuple (dW l)))
theorem WinV.mono {K : PySem.W.Frag} {H H' : Hp} {v : V} {ws : Option (List (Int × Int))} (h : WinV K H v ws) (e : Same H H') : WinV K H' v ws := by
  rcases h with h | ⟨l, h1, h2, h | h⟩
  · exact .inl h
  · exact .inr ⟨l, h1, h2, .inl (dp_mono e _ h)⟩
  · exact .inr ⟨l, h1, h2, .inr (dp_mono e _ h)⟩
theorem dp_pair {K : PySem.W.Frag} {H : Hp} {v : V} {a b : Int} (h : Dp K H v (.tuple [.int a, .int b])) : ∃ T, v = .ref T ∧ SqT K H T [.int a, .int b] := by
  cases h with
  | tup s x =>
    cases x with
    | cons p q =>
      cases q with
      | cons r u =>
        cases u
        cases p
        cases r
        exact ⟨_, rfl, s⟩
theorem dW_get {K : PySem.W.Frag} {H : Hp} {xs : List V} {l : List (Int × Int)} {i : Nat} {x : V} (h : DpAll K H xs (dW l)) (e : xs[i]? = some x) : ∃ p T, l[i]? = some p ∧ x = .ref T ∧ SqT K H T [.int p.1, .int p.2] := by
  obtain ⟨d, hd, hx⟩ := dpAll_get h e
  unfold dW at hd
  rw [List.getElem?_map] at hd
  cases hl : l[i]? with
  | none =>
    rw [hl] at hd
    cases hd
  | some p =>
    rw [hl] at hd
    cases hd
    obtain ⟨T, e1, e2⟩ := dp_pair hx
    exact ⟨p, T, rfl, e1, e2⟩
/-- a tuple of ints -/
def TupI (K : PySem.W.Frag) (H : Hp) (v : V) (f : List Int) : Prop := ∃ a, v = .ref a ∧ SqT K H a (f.map V.int)
theorem TupI.mono {K : PySem.W.Frag} {H H' : Hp} {v : V} {f : List Int} (h : TupI K H v f) (e : Same H H') : TupI K H' v f := by
  obtain ⟨a, h1, h2⟩ := h
  exact ⟨a, h1, same_tup e h2⟩
/-- the i-th of what a comprehension over a list makes -/
theorem map_get {α β : Type} (d : α) (f : α → β) (l : List α) {n : Nat} (h : n = l.length) : (List.range n).map (fun i => f (l.getD i d)) = l.map f := by
  rw [h]
  exact map_range_get d f l
theorem getD_of {α : Type} {l : List α} {i : Nat} {x d : α} (h : l[i]? = some x) : l.getD i d = x := by
  rw [List.getD_eq_getElem?_getD, h]
  rfl
theorem int_get {f : List Int} {i : Nat} {x : V} (h : (f.map V.int)[i]? = some x) : ∃ z, f[i]? = some z ∧ x = .int z := by
  rw [List.getElem?_map] at h
  cases e : f[i]? with
  | none =>
    rw [e] at h
    cases h
  | some z =>
    rw [e] at h
    exact ⟨z, rfl, (Option.some.inj h).symm⟩
/-! ### the walk, time by time -/
def walkM (n : Int) (ws : Option (List (Int × Int))) : Int → Nat → Int
  | t, 0 => t
  | t, m + 1 => if openM ws (t % n) = true then t else walkM n ws (t + 1) m
def anyO (n : Nat) (ws : Option (List (Int × Int))) : Bool := (List.range n).any fun i => openM ws (i : Nat)
def hoursM (n : Nat) (ws : Option (List (Int × Int))) (k : Int) : Option (List Int) :=
  if anyO n ws = true then some ((List.range n).map fun i => walkM n ws (i : Nat) n + k) else none
/-- u is the next open time from t -/
structure PB (n : Nat) (ws : Option (List (Int × Int))) (t u : Int) : Prop where
  le : t ≤ u
  op : openM ws (u % n) = true
  no : ∀ s, t ≤ s → s < u → openM ws (s % n) = false
  hi : u ≤ t + n
theorem walk_pb {n : Nat} {ws : Option (List (Int × Int))} {u : Int} (hop : openM ws (u % n) = true) : ∀ (m : Nat) (t : Int), t ≤ u → (∀ s, t ≤ s → s < u → openM ws (s % n) = false) → u ≤ t + m → walkM n ws t m = u
  | 0, t, h1, _, h3 => by
    show t = u
    omega
  | m + 1, t, h1, h2, h3 => by
    show (if openM ws (t % n) = true then t else walkM n ws (t + 1) m) = u
    by_cases e : t = u
    · subst e
      rw [if_pos hop]
    · have h := h2 t (Int.le_refl _) (by omega)
      rw [if_neg (by rw [h]; exact Bool.false_ne_true)]
      exact walk_pb hop m (t + 1) (by omega) (fun s a b => h2 s (by omega) b) (by omega)
theorem PB.walk {n : Nat} {ws : Option (List (Int × Int))} {t u : Int} (p : PB n ws t u) : walkM n ws t n = u := walk_pb p.op n t p.le p.no p.hi
/-- from the day's end backward -/
def bM (n : Nat) (ws : Option (List (Int × Int))) (a : Nat) : Nat → Int
  | 0 => (a : Int) + n
  | j + 1 => if openM ws ((n : Int) - 1 - j) = true then (n : Int) - 1 - j else bM n ws a j
theorem bM_pb {n a : Nat} {ws : Option (List (Int × Int))} (ha : a < n) (hop : openM ws (a : Nat) = true) (hno : ∀ s : Nat, s < a → openM ws (s : Nat) = false) : ∀ j : Nat, j ≤ n → PB n ws ((n : Int) - j) (bM n ws a j)
  | 0, _ => by
    have e : ((a : Int) + n) % n = a := by
      rw [Int.add_emod_right]
      exact Int.emod_eq_of_lt (by omega) (by omega)
    refine ⟨by show (n : Int) - (0 : Nat) ≤ a + n; omega, by show openM ws (((a : Int) + n) % n) = true; rw [e]; exact hop, ?_, by show (a : Int) + n ≤ _; omega⟩
    intro s h1 h2
    have h2 : s < (a : Int) + n := h2
    obtain ⟨k, rfl⟩ : ∃ k : Nat, s = (k : Int) + n := ⟨(s - n).toNat, by omega⟩
    rw [Int.add_emod_right, Int.emod_eq_of_lt (by omega) (by omega)]
    exact hno k (by omega)
  | j + 1, h => by
    have p := bM_pb ha hop hno j (by omega)
    have e : ((n : Int) - 1 - j) % n = (n : Int) - 1 - j := Int.emod_eq_of_lt (by omega) (by omega)
    show PB n ws ((n : Int) - (j + 1 : Nat)) (if openM ws ((n : Int) - 1 - j) = true then (n : Int) - 1 - j else bM n ws a j)
    by_cases o : openM ws ((n : Int) - 1 - j) = true
    · rw [if_pos o]
      exact ⟨by omega, by rw [e]; exact o, fun s a b => by omega, by omega⟩
    · rw [if_neg o]
      have hle := p.le
      have hhi := p.hi
      have o : openM ws ((n : Int) - 1 - j) = false := by
        cases q : openM ws ((n : Int) - 1 - j) with
        | false => rfl
        | true => exact absurd q o
      refine ⟨by omega, p.op, ?_, ?_⟩
      · intro s h1 h2
        by_cases q : s = (n : Int) - 1 - j
        · rw [q, e]
          exact o
        · exact p.no s (by omega) h2
      · by_cases q : bM n ws a j = (n : Int) - j + n
        · exfalso
          have h1 := p.op
          rw [q, Int.add_emod_right] at h1
          have h2 := p.no ((n : Int) - j) (Int.le_refl _) (by omega)
          rw [h1] at h2
          cases h2
        · omega
theorem first_open {n a : Nat} {p : Nat → Bool} {r : List Nat} (h : (List.range n).filter p = a :: r) : a < n ∧ p a = true ∧ ∀ s, s < a → p s = false := by
  have e : (List.range n).find? p = some a := by
    rw [← List.head?_filter, h]
    rfl
  obtain ⟨h1, h2, h3⟩ := List.find?_range_eq_some.mp e
  refine ⟨List.mem_range.mp h2, h1, fun s hs => ?_⟩
  have := h3 s hs
  cases q : p s with
  | false => rfl
  | true =>
    rw [q] at this
    cases this
theorem none_open {n : Nat} {p : Nat → Bool} (h : (List.range n).filter p = []) : (List.range n).any p = false := by
  cases e : (List.range n).any p with
  | false => rfl
  | true =>
    obtain ⟨x, hx, px⟩ := List.any_eq_true.mp e
    have := List.mem_filter.mpr ⟨hx, px⟩
    rw [h] at this
    cases this
theorem some_open {n a : Nat} {p : Nat → Bool} {r : List Nat} (h : (List.range n).filter p = a :: r) : (List.range n).any p = true := by
  obtain ⟨h1, h2, _⟩ := first_open h
  exact List.any_eq_true.mpr ⟨a, List.mem_range.mpr h1, h2⟩
/-- what is told of a day with an open time -/
structure Day (n : Nat) (ws : Option (List (Int × Int))) (E : Nat → Int) : Prop where
  lo : ∀ i, i < n → (i : Int) ≤ E i
  hi : ∀ i, i < n → E i ≤ i + n
  up : ∀ i, i + 1 < n → E i ≤ E (i + 1)
  last : E (n - 1) ≤ E 0 + n
theorem day_of {n a : Nat} {ws : Option (List (Int × Int))} (ha : a < n) (hop : openM ws (a : Nat) = true) (hno : ∀ s : Nat, s < a → openM ws (s : Nat) = false) :
    (∀ i, i < n → walkM n ws (i : Nat) n = bM n ws a (n - i)) ∧ Day n ws (fun i => walkM n ws (i : Nat) n) := by
  have pb : ∀ i, i < n → PB n ws (i : Nat) (bM n ws a (n - i)) := fun i hi => by
    have p := bM_pb ha hop hno (n - i) (by omega)
    rw [show (n : Int) - (n - i : Nat) = (i : Nat) by omega] at p
    exact p
  have w : ∀ i, i < n → walkM n ws (i : Nat) n = bM n ws a (n - i) := fun i hi => (pb i hi).walk
  refine ⟨w, ⟨fun i hi => ?_, fun i hi => ?_, fun i hi => ?_, ?_⟩⟩
  · show (i : Int) ≤ walkM n ws (i : Nat) n
    rw [w i hi]
    exact (pb i hi).le
  · show walkM n ws (i : Nat) n ≤ _
    rw [w i hi]
    exact (pb i hi).hi
  · show walkM n ws (i : Nat) n ≤ walkM n ws (i + 1 : Nat) n
    rw [w i (by omega), w (i + 1) hi, show n - i = (n - (i + 1)) + 1 by omega]
    have p := (pb (i + 1) hi).le
    show (if openM ws ((n : Int) - 1 - (n - (i + 1) : Nat)) = true then (n : Int) - 1 - (n - (i + 1) : Nat) else bM n ws a (n - (i + 1))) ≤ bM n ws a (n - (i + 1))
    by_cases o : openM ws ((n : Int) - 1 - (n - (i + 1) : Nat)) = true
    · rw [if_pos o]
      omega
    · rw [if_neg o]
      exact Int.le_refl _
  · show walkM n ws (n - 1 : Nat) n ≤ walkM n ws (0 : Nat) n + n
    rw [w (n - 1) (by omega), w 0 (by omega), show n - (n - 1) = 0 + 1 by omega]
    have p0 := pb 0 (by omega)
    have q : (a : Int) ≤ bM n ws a (n - 0) := by
      by_cases h : (a : Int) ≤ bM n ws a (n - 0)
      · exact h
      · exfalso
        have h1 := p0.le
        have h2 := p0.op
        generalize bM n ws a (n - 0) = u at *
        rw [Int.emod_eq_of_lt (by omega) (by omega)] at h2
        have h3 := hno u.toNat (by omega)
        rw [show ((u.toNat : Nat) : Int) = u by omega, h2] at h3
        cases h3
    show (if openM ws ((n : Int) - 1 - (0 : Nat)) = true then (n : Int) - 1 - (0 : Nat) else (a : Int) + n) ≤ _
    by_cases o : openM ws ((n : Int) - 1 - (0 : Nat)) = true
    · rw [if_pos o]
      omega
    · rw [if_neg o]
      omega
/-! ### tuples of ints as data -/
def optD : Option (List Int) → PyData
  | none => .none
  | some f => .tuple (f.map .int)
theorem TupI.dp {K : PySem.W.Frag} {H : Hp} {v : V} {f : List Int} (h : TupI K H v f) : Dp K H v (.tuple (f.map .int)) := by
  obtain ⟨a, rfl, s⟩ := h
  exact .tup s (dpAll_map fun x _ => .int x)
theorem tup_at {f : List Int} {i : Int} (h0 : 0 ≤ i) (h1 : i < f.length) : atI (f.map V.int) i = some (.int (f.getD i.toNat 0)) := by
  obtain ⟨j, rfl⟩ := Int.eq_ofNat_of_zero_le h0
  have hj : j < f.length := by omega
  refine (atI_nat ?_).trans rfl
  rw [List.getElem?_map, List.getElem?_eq_getElem hj, Int.toNat_natCast, List.getD_eq_getElem?_getD, List.getElem?_eq_getElem hj]
  rfl
theorem mod_in {t n : Int} (h : 0 < n) : 0 ≤ t % n ∧ t % n < n := ⟨Int.emod_nonneg _ (by omega), Int.emod_lt_of_pos _ h⟩
/-- the greatest time at which one is through by e -/
theorem latest {f : List Int} {e m : Int} (h0 : 0 < f.length) (hm : ∃ i, i < f.length ∧ m = (i : Nat) + (e - f.getD i 0) / (f.length : Int) * f.length) (hx : ∀ i, i < f.length → (i : Nat) + (e - f.getD i 0) / (f.length : Int) * f.length ≤ m) :
    readM f m ≤ e ∧ e < readM f (m + 1) := by
  have hn : (0 : Int) < f.length := by omega
  have key : ∀ t : Int, readM f t ≤ e → t ≤ m := by
    intro t ht
    obtain ⟨h1, h2⟩ := mod_in (t := t) hn
    have h3 := hx (t % f.length).toNat (by omega)
    unfold readM at ht
    rw [Int.toNat_of_nonneg h1] at h3
    have h4 : t / (f.length : Int) ≤ (e - f.getD (t % f.length).toNat 0) / (f.length : Int) := by
      refine (Int.le_ediv_iff_mul_le hn).mpr ?_
      omega
    have h5 := Int.mul_le_mul_of_nonneg_right h4 (Int.le_of_lt hn)
    have h6 := Int.emod_add_mul_ediv t f.length
    rw [Int.mul_comm] at h6
    omega
  constructor
  · obtain ⟨i, hi, rfl⟩ := hm
    unfold readM
    rw [Int.add_mul_emod_self_right, Int.add_mul_ediv_right _ _ (by omega), Int.emod_eq_of_lt (by omega) (by omega), Int.ediv_eq_zero_of_lt (by omega) (by omega), Int.toNat_natCast, Int.zero_add]
    have := Int.ediv_mul_le (e - f.getD i 0) (show (f.length : Int) ≠ 0 by omega)
    omega
  · by_cases h : e < readM f (m + 1)
    · exact h
    · have := key (m + 1) (by omega)
      omega
theorem latest_bound {f : List Int} {e : Int} {i : Nat} (h0 : 0 < f.length) (hl : f.length ≤ 1000) (hi : i < f.length) (b0 : 0 ≤ f.getD i 0) (b1 : f.getD i 0 ≤ 100000) (e0 : -1000000 ≤ e) (e1 : e ≤ 1000000) :
    -2000000 ≤ (i : Nat) + (e - f.getD i 0) / (f.length : Int) * f.length ∧ (i : Nat) + (e - f.getD i 0) / (f.length : Int) * f.length ≤ 2000000 := by
  have hn : (0 : Int) < f.length := by omega
  have h1 := Int.emod_add_mul_ediv (e - f.getD i 0) f.length
  obtain ⟨h2, h3⟩ := mod_in (t := e - f.getD i 0) hn
  rw [Int.mul_comm] at h1
  omega
theorem read_mod (f : List Int) (t : Int) : t - t / (f.length : Int) * f.length = t % (f.length : Int) := by
  have h := Int.emod_add_mul_ediv t f.length
  rw [Int.mul_comm] at h
  omega
theorem bw_any (l : List (Int × Int)) (t : Int) : openM (some l) t = (l.map fun p => decide (p.1 ≤ t) && decide (t < p.2)).any id := by
  rw [List.any_map]
  rfl
/-- windows as what is walked: a list or a tuple of pairs -/
theorem WinV.some {K : PySem.W.Frag} {H : Hp} {v : V} {l : List (Int × Int)} (h : WinV K H v (some l)) : l.length ≤ 1000 ∧ ∃ W xs, v = .ref W ∧ (SqL K H W xs ∨ SqT K H W xs) ∧ DpAll K H xs (dW l) ∧ l.length = xs.length := by
  rcases h with ⟨h, _⟩ | ⟨l', h1, h2, h3⟩
  · cases h
  · cases h1
    have len : ∀ xs, DpAll K H xs (dW l) → l.length = xs.length := fun xs hx => by
      have := dpAll_len hx
      unfold dW at this
      rw [List.length_map] at this
      exact this.symm
    rcases h3 with h | h
    · cases h with
      | lst s x => exact ⟨h2, _, _, rfl, .inl s, x, len _ x⟩
    · cases h with
      | tup s x => exact ⟨h2, _, _, rfl, .inr s, x, len _ x⟩
theorem WinV.none {K : PySem.W.Frag} {H : Hp} {v : V} (h : WinV K H v none) : v = .non := by
  rcases h with ⟨_, h⟩ | ⟨l', h1, _⟩
  · exact h
  · cases h1
/-- an object of the class Hours -/
def hfl (d : Int) (t : Addr) : List (Str × V) := putF "stay" (.ref t) (putF "day" (.int d) [])
def HoursAt (CH : Addr) (H : Hp) (p : Addr) (d : Nat) : Prop := ∃ dx t, H p = some (.ins CH dx (hfl d t)) ∧ H t = some (.tup (rgV 0 d))
theorem HoursAt.mono {CH : Addr} {H H' : Hp} {p : Addr} {d : Nat} (h : HoursAt CH H p d) (e : Same H H') : HoursAt CH H' p d := by
  obtain ⟨dx, t, a, b⟩ := h
  exact ⟨dx, t, e _ _ a, e _ _ b⟩
theorem ne_ds : ¬ (("day" : Str) = "stay") := by decide +kernel
theorem hfl_day (d : Int) (t : Addr) : (hfl d t).lookup ("day" : Str) = some (.int d) := by
  unfold hfl
  rw [lookup_putF, if_neg ne_ds, lookup_putF, if_pos rfl]
theorem hfl_stay (d : Int) (t : Addr) : (hfl d t).lookup ("stay" : Str) = some (.ref t) := by
  unfold hfl
  rw [lookup_putF, if_pos rfl]
theorem hfl_no (d : Int) (t : Addr) {m : Str} (h1 : ¬ m = "stay") (h2 : ¬ m = "day") : (hfl d t).lookup m = none := by
  unfold hfl
  rw [lookup_putF, if_neg h1, lookup_putF, if_neg h2]
  rfl
theorem tup_last {f : List Int} (h : 0 < f.length) : atI (f.map V.int) (-1) = some (.int (f.getD (f.length - 1) 0)) := by
  have e : ixN (f.map V.int).length (-1) = some (f.length - 1) := by
    unfold ixN
    rw [List.length_map, if_neg (by decide), if_pos (by omega)]
    exact congrArg some (by omega)
  unfold atI
  rw [e]
  show (f.map V.int)[f.length - 1]? = _
  rw [List.getElem?_map, List.getD_eq_getElem?_getD, List.getElem?_eq_getElem (show f.length - 1 < f.length by omega)]
  rfl
theorem cut_tail {f : List Int} (h : 0 < f.length) : HT.sIx (f.map V.int).length 0 (some 1) = 1 ∧ cutV (f.map V.int) (some 1) none = (f.drop 1).map V.int := by
  have e : HT.sIx (f.map V.int).length 0 (some 1) = 1 := by
    rw [List.length_map]
    refine (HT.sIx_nat f.length 0 1).trans ?_
    exact Nat.min_eq_left (by omega)
  refine ⟨e, ?_⟩
  unfold cutV
  rw [e, HT.sIx_none, List.length_map, ← List.map_drop]
  exact List.take_of_length_le (by rw [List.length_map, List.length_drop]; exact Nat.le_refl _)
theorem rev_bM {n a : Nat} {ws : Option (List (Int × Int))} {k : Int} (w : ∀ i, i < n → walkM n ws (i : Nat) n = bM n ws a (n - i)) :
    ((List.range n).map fun i => V.int (bM n ws a (i + 1) + k)).reverse = ((List.range n).map fun i => walkM n ws (i : Nat) n + k).map V.int := by
  rw [List.map_map]
  refine List.ext_getElem (by simp) fun i h1 h2 => ?_
  have hi : i < n := by simpa using h2
  rw [List.getElem_reverse, List.getElem_map, List.getElem_map, List.getElem_range, List.getElem_range]
  show V.int _ = V.int (walkM n ws (i : Nat) n + k)
  rw [w i hi, List.length_map, List.length_range, show n - 1 - i + 1 = n - i by omega]
theorem at0 {x : V} {xs : List V} : atI (x :: xs) 0 = some x := (show atI (x :: xs) ((0 : Nat) : Int) = some x from atI_nat rfl)
theorem at1 {x y : V} {xs : List V} : atI (x :: y :: xs) 1 = some y := (show atI (x :: y :: xs) ((1 : Nat) : Int) = some y from atI_nat rfl)
theorem filt_open (l : List (Int × Int)) (t : Int) : (!((List.range l.length).filter fun i => decide ((l.getD i (0, 0)).1 ≤ t) && decide (t < (l.getD i (0, 0)).2)).isEmpty) = openM (some l) t := by
  show _ = l.any fun p => decide (p.1 ≤ t) && decide (t < p.2)
  generalize e : (fun p : Int × Int => decide (p.1 ≤ t) && decide (t < p.2)) = b
  have e2 : (fun i => decide ((l.getD i (0, 0)).1 ≤ t) && decide (t < (l.getD i (0, 0)).2)) = fun i => b (l.getD i (0, 0)) := by
    funext i
    rw [← e]
  rw [e2]
  clear e e2
  induction l with
  | nil => rfl
  | cons a r ih =>
    rw [List.length_cons, List.range_succ_eq_map, List.filter_cons, List.any_cons, List.filter_map]
    show (!(if b a = true then _ else _ : List Nat).isEmpty) = _
    cases h : b a with
    | true =>
      rw [if_pos rfl, Bool.true_or]
      rfl
    | false =>
      rw [if_neg Bool.false_ne_true, List.isEmpty_map, Bool.false_or]
      exact ih
/-- what the law's loop has found behind j turns: stood at an open time, or still going -/
def stepM (n : Nat) (ws : Option (List (Int × Int))) (t : Int) (j : Nat) : Prop := ∀ m, walkM n ws t (j + m) = walkM n ws (t + j) m
theorem stepM_zero {n : Nat} {ws : Option (List (Int × Int))} {t : Int} : stepM n ws t 0 := fun m => by
  rw [Nat.zero_add, show t + ((0 : Nat) : Int) = t by omega]
theorem stepM_succ {n : Nat} {ws : Option (List (Int × Int))} {t : Int} {j : Nat} (h : stepM n ws t j) (o : openM ws ((t + j) % n) = false) : stepM n ws t (j + 1) := fun m => by
  have h1 := h (m + 1)
  rw [show j + (m + 1) = j + 1 + m by omega] at h1
  rw [h1, show t + ((j + 1 : Nat) : Int) = t + j + 1 by omega]
  exact if_neg (by rw [o]; exact Bool.false_ne_true)
theorem stepM_end {n : Nat} {ws : Option (List (Int × Int))} {t : Int} (h : stepM n ws t n) : t + n = walkM n ws t n := (h 0).symm
theorem stepM_stop {n : Nat} {ws : Option (List (Int × Int))} {t : Int} {j : Nat} (h : stepM n ws t j) (hj : j < n) (o : openM ws ((t + j) % n) = true) : t + j = walkM n ws t n := by
  have h1 := h (n - j - 1 + 1)
  rw [show j + (n - j - 1 + 1) = n by omega] at h1
  rw [h1]
  exact (if_pos o).symm
theorem sqt_upd {K : PySem.W.Frag} {H : Hp} {q U : Addr} {xs ys : List V} {o : HO} (hq : H q = some (.lst ys)) (h : SqT K H U xs) : SqT K (upd H q o) U xs := by
  rcases h with (h | ⟨o2, h⟩) | h
  · refine .inl (.inl ?_)
    rw [upd_ne fun e => by rw [e, hq] at h; cases h]
    exact h
  · refine .inl (.inr ⟨o2, ?_⟩)
    rw [upd_ne fun e => by rw [e, hq] at h; cases h]
    exact h
  · exact .inr h
theorem dW_upd {K : PySem.W.Frag} {H : Hp} {q : Addr} {ys : List V} {o : HO} (hq : H q = some (.lst ys)) : ∀ {l : List (Int × Int)} {xs : List V}, DpAll K H xs (dW l) → DpAll K (upd H q o) xs (dW l)
  | [], _, h => by
    cases h
    exact .nil
  | p :: r, _, h => by
    have h : DpAll K H _ (.tuple [.int p.1, .int p.2] :: dW r) := h
    cases h with
    | cons a b =>
      obtain ⟨U, rfl, s⟩ := dp_pair a
      exact .cons (.tup (sqt_upd hq s) (.cons (.int _) (.cons (.int _) .nil))) (dW_upd hq b)
theorem dW_snoc (l : List (Int × Int)) (a b : Int) : dW (l ++ [(a, b)]) = dW l ++ [.tuple [.int a, .int b]] := List.map_append
theorem dpAll_snoc {K : PySem.W.Frag} {H : Hp} : ∀ {xs : List V} {ds : List PyData} {x : V} {d : PyData}, DpAll K H xs ds → Dp K H x d → DpAll K H (xs ++ [x]) (ds ++ [d])
  | _, _, _, _, .nil, h => .cons h .nil
  | _, _, _, _, .cons a b, h => .cons a (dpAll_snoc b h)
theorem cut_mem (cs : List Int) (lo hi : Option Int) : ∃ ms : List Int, cutV (cs.map V.int) lo hi = ms.map V.int ∧ (∀ z ∈ ms, z ∈ cs) ∧ ms.length ≤ cs.length := by
  unfold cutV
  rw [← List.map_drop, ← List.map_take]
  refine ⟨_, rfl, fun z hz => List.mem_of_mem_drop (List.mem_of_mem_take hz), ?_⟩
  rw [List.length_take, List.length_drop]
  omega
/-- what the law's own windows are: None or a new list of pairs -/
def WinL (K : PySem.W.Frag) (H : Hp) (v : V) (ws : Option (List (Int × Int))) : Prop :=
  (ws = none ∧ v = .non) ∨ ∃ l D xs, ws = some l ∧ l.length ≤ 1000 ∧ v = .ref D ∧ H D = some (.lst xs) ∧ DpAll K H xs (dW l)
theorem WinL.mono {K : PySem.W.Frag} {H H' : Hp} {v : V} {ws : Option (List (Int × Int))} (h : WinL K H v ws) (e : Same H H') : WinL K H' v ws := by
  rcases h with h | ⟨l, D, xs, h1, h2, h3, h4, h5⟩
  · exact .inl h
  · exact .inr ⟨l, D, xs, h1, h2, h3, e _ _ h4, dpAll_mono e _ h5⟩
theorem WinL.win {K : PySem.W.Frag} {H : Hp} {v : V} {ws : Option (List (Int × Int))} (h : WinL K H v ws) : WinV K H v ws := by
  rcases h with h | ⟨l, D, xs, h1, h2, rfl, h4, h5⟩
  · exact .inl h
  · exact .inr ⟨l, h1, h2, .inl (.lst (SqL.of h4) h5)⟩
def OkF (n : Nat) (f : List Int) : Prop := f.length = n ∧ ∀ i, i < n → 0 ≤ f.getD i 0 ∧ f.getD i 0 ≤ 2000
theorem okF_of {n : Nat} {f : List Int} (h : f.length = n) (p : ∀ x ∈ f, 0 ≤ x ∧ x ≤ 2000) : OkF n f := by
  refine ⟨h, fun i hi => ?_⟩
  rw [getD_of (List.getElem?_eq_getElem (show i < f.length by omega))]
  exact p _ (List.getElem_mem _)
theorem okF_stay {n : Nat} (h : n ≤ 96) : OkF n ((List.range n).map fun i => ((i : Nat) : Int)) := by
  refine okF_of (by rw [List.length_map, List.length_range]) fun x hx => ?_
  obtain ⟨i, hi, rfl⟩ := List.mem_map.mp hx
  have := List.mem_range.mp hi
  omega
theorem rg_nat (n : Nat) : rgV 0 (n : Int) = ((List.range n).map fun i => ((i : Nat) : Int)).map V.int := by
  unfold rgV
  rw [show ((n : Int) - 0).toNat = n by omega, List.map_map]
  refine List.map_congr_left fun i _ => ?_
  show V.int (0 + (i : Nat)) = V.int (i : Nat)
  rw [Int.zero_add]
def FoundAt (K : PySem.W.Frag) (H : Hp) (q : Addr) (n m : Nat) : Prop := ∃ us : List V, H q = some (.lst us) ∧ 0 < us.length ∧ us.length ≤ m ∧ ∀ u ∈ us, ∃ f, TupI K H u f ∧ OkF n f
theorem FoundAt.mono {K : PySem.W.Frag} {H H' : Hp} {q : Addr} {n m m' : Nat} (h : FoundAt K H q n m) (e : Same H H') (hm : m ≤ m') : FoundAt K H' q n m' := by
  obtain ⟨us, h1, h2, h3, h4⟩ := h
  refine ⟨us, e _ _ h1, h2, by omega, fun u hu => ?_⟩
  obtain ⟨f, t, o⟩ := h4 u hu
  exact ⟨f, t.mono e, o⟩
theorem tupI_upd {K : PySem.W.Frag} {H : Hp} {q : Addr} {ys : List V} {o : HO} {v : V} {f : List Int} (hq : H q = some (.lst ys)) (h : TupI K H v f) : TupI K (upd H q o) v f := by
  obtain ⟨a, h1, h2⟩ := h
  exact ⟨a, h1, sqt_upd hq h2⟩
theorem span_in {z : V} (h : z ∈ ([.int 1, .int 2, .int 3, .int 4, .int 5, .int 6, .int 7, .int 8, .int 8, .int 24, .int 96] : List V)) : ∃ n : Nat, z = .int n ∧ 1 ≤ n ∧ n ≤ 96 := by
  simp only [List.mem_cons, List.not_mem_nil, or_false] at h
  rcases h with rfl | rfl | rfl | rfl | rfl | rfl | rfl | rfl | rfl | rfl | rfl
  · exact ⟨1, rfl, by decide, by decide⟩
  · exact ⟨2, rfl, by decide, by decide⟩
  · exact ⟨3, rfl, by decide, by decide⟩
  · exact ⟨4, rfl, by decide, by decide⟩
  · exact ⟨5, rfl, by decide, by decide⟩
  · exact ⟨6, rfl, by decide, by decide⟩
  · exact ⟨7, rfl, by decide, by decide⟩
  · exact ⟨8, rfl, by decide, by decide⟩
  · exact ⟨8, rfl, by decide, by decide⟩
  · exact ⟨24, rfl, by decide, by decide⟩
  · exact ⟨96, rfl, by decide, by decide⟩
/-- what hours tell keeps what a value must keep -/
theorem hours_ok {n : Nat} {ws : Option (List (Int × Int))} {k : Int} {f : List Int} (h : hoursM n ws k = some f) (n0 : 1 ≤ n) (n1 : n ≤ 96) (k0 : 0 ≤ k) (k1 : k ≤ 961) :
    OkF n f ∧ (∀ i, i < f.length → (i : Int) ≤ f.getD i 0) ∧ (∀ i, i + 1 < f.length → f.getD i 0 ≤ f.getD (i + 1) 0) ∧ f.getD (f.length - 1) 0 ≤ f.getD 0 0 + f.length := by
  unfold hoursM at h
  cases hA : anyO n ws with
  | false =>
    rw [hA] at h
    cases h
  | true =>
    rw [hA, if_pos rfl] at h
    cases h
    cases hF : (List.range n).filter (fun i => openM ws (i : Nat)) with
    | nil =>
      have := none_open hF
      unfold anyO at hA
      rw [hA] at this
      cases this
    | cons a r =>
      obtain ⟨ha, hop, hno⟩ := first_open hF
      obtain ⟨_, D⟩ := day_of ha hop hno
      have ln : ((List.range n).map fun i => walkM n ws (i : Nat) n + k).length = n := by rw [List.length_map, List.length_range]
      have g : ∀ i, i < n → ((List.range n).map fun i => walkM n ws (i : Nat) n + k).getD i 0 = walkM n ws (i : Nat) n + k := fun i hi => by
        rw [List.getD_eq_getElem?_getD, List.getElem?_map, List.getElem?_range hi]
        rfl
      have lo := D.lo
      have hi := D.hi
      have up := D.up
      have la := D.last
      refine ⟨⟨ln, fun i hi' => ?_⟩, fun i hi' => ?_, fun i hi' => ?_, ?_⟩
      · rw [g i hi']
        have a1 := lo i hi'
        have a2 := hi i hi'
        constructor <;> omega
      · rw [ln] at hi'
        rw [g i hi']
        have a1 := lo i hi'
        omega
      · rw [ln] at hi'
        rw [g i (by omega), g (i + 1) hi']
        have a1 := up i hi'
        omega
      · rw [ln, g (n - 1) (by omega), g 0 (by omega)]
        have a1 := la
        omega
theorem dpAll_rep {K : PySem.W.Frag} {H : Hp} {d : PyData} : ∀ {us : List V}, (∀ u ∈ us, Dp K H u d) → DpAll K H us (List.replicate us.length d)
  | [], _ => .nil
  | u :: r, h => .cons (h u (List.mem_cons_self ..)) (dpAll_rep fun x hx => h x (List.mem_cons_of_mem _ hx))
theorem lk_optD {m : Nat} {o : Option (List Int)} (h : ∀ f, o = some f → f.length ≤ 100000) : Lk (m + 2) (optD o) := by
  cases o with
  | none => trivial
  | some f =>
    refine ⟨by rw [List.length_map]; exact h f rfl, fun d hd => ?_⟩
    obtain ⟨z, _, rfl⟩ := List.mem_map.mp hd
    trivial
theorem optD_upd {K : PySem.W.Frag} {H : Hp} {q : Addr} {ys : List V} {o : HO} {v : V} {r : Option (List Int)} (hq : H q = some (.lst ys)) (h : Dp K H v (optD r)) : Dp K (upd H q o) v (optD r) := by
  cases r with
  | none =>
    cases h
    exact .non
  | some f =>
    cases h with
    | tup s x => exact .tup (sqt_upd hq s) (ints_free x)
where ints_free {K : PySem.W.Frag} {H H' : Hp} : ∀ {f : List Int} {xs : List V}, DpAll K H xs (f.map .int) → DpAll K H' xs (f.map .int)
  | [], _, h => by
    cases h
    exact .nil
  | z :: r, _, h => by
    cases h with
    | cons a b =>
      cases a
      exact .cons (.int _) (ints_free b)
theorem optD_tup {K : PySem.W.Frag} {H : Hp} {v : V} {f : List Int} (h : Dp K H v (optD (some f))) : TupI K H v f := by
  cases h with
  | tup s x =>
    refine ⟨_, rfl, ?_⟩
    rw [← ints_are x]
    exact s
where ints_are {K : PySem.W.Frag} {H : Hp} : ∀ {f : List Int} {xs : List V}, DpAll K H xs (f.map .int) → xs = f.map V.int
  | [], _, h => by
    cases h
    rfl
  | z :: r, _, h => by
    cases h with
    | cons a b =>
      cases a
      rw [ints_are b]
      rfl
theorem dpAll_rep2 {K : PySem.W.Frag} {H : Hp} {d : PyData} {v : V} (h : Dp K H v d) : ∀ {m : Nat}, DpAll K H ((List.range m).map fun _ => v) (List.replicate m d) := fun {m} => by
  rw [List.map_const', List.length_range]
  induction m with
  | zero => exact .nil
  | succ m ih => exact .cons h ih
theorem lk_dW {l : List (Int × Int)} {m : Nat} (h : l.length ≤ 1000) : Lk (m + 3) (.list (dW l)) := by
  refine ⟨by unfold dW; rw [List.length_map]; omega, fun d hd => ?_⟩
  obtain ⟨z, _, rfl⟩ := List.mem_map.mp hd
  refine ⟨Nat.le_of_ble_eq_true rfl, fun d hd => ?_⟩
  simp only [List.mem_cons, List.not_mem_nil, or_false] at hd
  rcases hd with rfl | rfl
  · trivial
  · trivial
def BdM (f : List Int) : Prop := 0 < f.length ∧ f.length ≤ 96 ∧ ∀ i, i < f.length → 0 ≤ f.getD i 0 ∧ f.getD i 0 ≤ 10000
theorem bd_of {n : Nat} {f : List Int} (h : OkF n f) (n0 : 1 ≤ n) (n1 : n ≤ 96) : BdM f := by
  obtain ⟨rfl, p⟩ := h
  refine ⟨n0, n1, fun i hi => ?_⟩
  have := p i hi
  omega
theorem bd_joined {n : Nat} {f g : List Int} (h : OkF n f) (h2 : OkF n g) (n0 : 1 ≤ n) (n1 : n ≤ 96) : BdM (f.map (readM g)) := by
  obtain ⟨lf, p⟩ := h
  obtain ⟨lg, p2⟩ := h2
  refine ⟨by rw [List.length_map]; omega, by rw [List.length_map]; omega, fun i hi => ?_⟩
  rw [List.length_map] at hi
  have e : (f.map (readM g)).getD i 0 = readM g (f.getD i 0) := by
    rw [List.getD_eq_getElem?_getD, List.getD_eq_getElem?_getD, List.getElem?_map, List.getElem?_eq_getElem hi]
    rfl
  rw [e]
  have a := p i (by omega)
  generalize f.getD i 0 = t at a
  have hn : (0 : Int) < g.length := by omega
  obtain ⟨m0, m1⟩ := mod_in (t := t) hn
  have b := p2 (t % g.length).toNat (by omega)
  have c := Int.emod_add_mul_ediv t g.length
  rw [Int.mul_comm] at c
  have d : 0 ≤ t / (g.length : Int) * g.length := Int.mul_nonneg (Int.ediv_nonneg a.1 (by omega)) (by omega)
  unfold readM
  constructor <;> omega
theorem bd_lower {n : Nat} {f g : List Int} (h : OkF n f) (h2 : OkF n g) (n0 : 1 ≤ n) (n1 : n ≤ 96) : BdM ((List.range f.length).map fun i => if g.getD i 0 < f.getD i 0 then g.getD i 0 else f.getD i 0) := by
  obtain ⟨lf, p⟩ := h
  obtain ⟨lg, p2⟩ := h2
  refine ⟨by rw [List.length_map, List.length_range]; omega, by rw [List.length_map, List.length_range]; omega, fun i hi => ?_⟩
  rw [List.length_map, List.length_range] at hi
  have e : ((List.range f.length).map fun i => if g.getD i 0 < f.getD i 0 then g.getD i 0 else f.getD i 0).getD i 0 = if g.getD i 0 < f.getD i 0 then g.getD i 0 else f.getD i 0 := by
    rw [List.getD_eq_getElem?_getD, List.getElem?_map, List.getElem?_range hi]
    rfl
  rw [e]
  have a := p i (by omega)
  have b := p2 i (by omega)
  split <;> omega
end Fb

set_option Elab.async false
set_option linter.all false
set_option maxRecDepth 100000
set_option maxHeartbeats 4000000
/-! sorted of data, out of a list or a tuple -/
namespace PySem.W
open PySem PyProof.Rows
section
variable {prog : Program} {w : World} {A : Around} {E : Value → Shared → Prop} {s : Shared}
theorem fb_collect {T : String} (hT : T = "list" ∨ T = "tuple") {l : Addr} {o : Obj} {vs : List Value} {n : Nat} {Q : List Value → Shared → Prop} (g : s.heap.get? l = some o) (c : o.cls = .type T) (d : o.data = .seq vs.toArray n)
    (q : Q vs { s with heap := (s.heap.push (seqObj "list" #[] 0)).update s.heap.objs.size (Obj.mapSeq (· ++ vs.toArray)) }) (z : vs.length ≤ sizeLine) :
    wpAny (model prog w) A (collect (.ref l)) Q E s := by
  unfold collect
  refine wpAny_bind (wpAny_runValue (codeAny_builtin entry_proto_collect' ?_))
  show wpAny _ _ (newList [] >>= fun l1 => again (.builtin "list.__iadd__" ⟨[l1, .ref l], []⟩)) _ _ s
  refine wpAny_bind (wpAny_newList ?_)
  refine wpAny_pure ⟨Code.quiet_builtin _ (by decide +kernel), codeAny_builtin entry_list_iadd' ?_⟩
  show wpAny _ _ (Builtin.List.listExtendWith (.ref s.heap.objs.size) (.ref l) (.ref s.heap.objs.size)) _ _ { heap := s.heap.push (seqObj "list" #[] 0), gens := s.gens, drawn := s.drawn, toks := s.toks, os := s.os }
  unfold Builtin.List.listExtendWith
  have g' : (s.heap.push (seqObj "list" #[] 0)).get? l = some o := Heap.get?_push_of_some _ g
  refine wpAny_bind (wpAny_typeOf (T := T) ⟨o, g', c⟩ ?_)
  have ht : (Value.type T == Value.type "list" || Value.type T == Value.type "tuple") = true := by
    rcases hT with rfl | rfl <;> rfl
  rw [if_pos (by rcases hT with rfl | rfl <;> simp)]
  refine wpAny_bind (listItems_at g' d ?_)
  refine wpAny_bind (listItems_at (n := 0) (xs := #[]) (Heap.get?_push_size _ rfl) rfl ?_)
  rw [if_neg (show ¬ _ by simp)]
  have room : (#[] ++ vs.toArray).size ≤ sizeLine + 1 := by
    rw [Array.size_append, List.size_toArray]
    show 0 + vs.length ≤ _
    omega
  refine wpAny_bind (listUpdate_at (n := 0) (xs := #[]) (Heap.get?_push_size _ rfl) rfl ?_ (Nat.zero_le _) room)
  refine wpAny_pure ?_
  show wpAny (model prog w) A (load s.heap.objs.size >>= _) Q E { s with heap := (s.heap.push (seqObj "list" #[] 0)).update s.heap.objs.size (Obj.mapSeq (· ++ vs.toArray)) }
  refine wpAny_bind (wpAny_load (get?_update_seq (Heap.get?_push_size _ rfl) _) ?_)
  show wpAny _ _ (pure (#[] ++ vs.toArray : Array Value).toList) Q E _
  have e : (#[] ++ vs.toArray : Array Value).toList = vs := by simp
  rw [e]
  exact wpAny_pure q
theorem fb_sort {T : String} (hT : T = "list" ∨ T = "tuple") {l : Addr} {o : Obj} {vs : List Value} {n : Nat} {Q : Value → Shared → Prop} (g : s.heap.get? l = some o) (c : o.cls = .type T) (d : o.data = .seq vs.toArray n) (z : vs.length ≤ sizeLine)
    (body : ∀ E' : Value → Shared → Prop, wpAny (model prog w) A.in1.in1 (Builtin.«list.sort» ⟨[.ref (s.heap.objs.size + 1)], []⟩) (fun f s' => f = .done (.ret .none) ∧ Q (.ref (s.heap.objs.size + 1)) s') E' { s with heap := copyHeap s.heap vs }) :
    wpAny (model prog w) A (call (.builtin "sorted") [.ref l]) Q E s := by
  refine call_function_entry_kw kind_sorted plain_sorted entry_sorted (args_sorted1 _) ?_
  unfold Builtin.«sorted»
  refine wpAny_bind (m := checkCount "sorted" 1 1 _) (wpAny_pure ?_)
  refine wpAny_bind (fb_collect hT g c d ?_ z)
  refine wpAny_bind (wpAny_newList ?_ z)
  have sz : ((s.heap.push (seqObj "list" #[] 0)).update s.heap.objs.size (Obj.mapSeq (· ++ vs.toArray))).objs.size = s.heap.objs.size + 1 := (Heap.size_update ..).trans (size_push' ..)
  show wpAny _ _ _ _ _ { heap := copyHeap s.heap vs, gens := s.gens, drawn := s.drawn, toks := s.toks, os := s.os }
  rw [sz]
  refine wpAny_bind (wpAny_holding (wpAny_call_entry_kw slot_list_sort ⟨_, copyHeap_at s.heap vs, rfl⟩ entry_list_sort ?_ (args_list_sort _)))
  refine wpAny_mono (body _) ?_ fun _ _ e => e
  rintro f s' ⟨rfl, hq⟩
  exact ⟨_, rfl, wpAny_pure ⟨_, rfl, hq⟩⟩
theorem fb_sorted {β : Type} {R : Value → β → Prop} {enc : β → PyData} {bs : List β} {T : String} (hT : T = "list" ∨ T = "tuple") {l : Addr} {o : Obj} {vs : List Value} {n : Nat} {Q : Value → Shared → Prop} (g : s.heap.get? l = some o) (c : o.cls = .type T) (d : o.data = .seq vs.toArray n)
    (e : EachIs R vs bs) (er : EachIs (fun v b => ∃ as, Reads s.heap v (enc b) as) vs bs) (al : AllAlike (bs.map enc)) (so : Sortable (bs.map enc)) (z : bs.length ≤ sizeLine) (hu : ∀ b, b ∈ bs → A.units + 2 + (enc b).depth < cLine)
    (h : ∀ out, out.length = bs.length → EachIs R out (bs.mergeSort (dataLe false enc)) → Q (.ref (s.heap.objs.size + 1)) { s with heap := sortedAll s.heap vs (List.toArray out) }) :
    wpAny (model prog w) A (call (.builtin "sorted") [.ref l]) Q E s := by
  have er2 : EachIs (fun v b => ∃ as, Reads (sortingHeap (copyHeap s.heap vs) (s.heap.objs.size + 1) vs) v (enc b) as) vs bs := by
    refine er.mono ?_
    rintro v b ⟨as, r⟩
    exact ⟨as, PyProof.Rows.Reads.keeps (fun _ _ => sorting_copy_old) r⟩
  have zl : vs.length ≤ sizeLine := by
    rw [e.length]
    exact z
  refine fb_sort hT g c d zl fun E' => ?_
  refine list_sort_vals (s := { s with heap := copyHeap s.heap vs }) (copyHeap_at s.heap vs) (SortsAt.data (s := { s with heap := sortingHeap (copyHeap s.heap vs) (s.heap.objs.size + 1) vs }) (each_map (R := fun v d => ∃ as, Reads (sortingHeap (copyHeap s.heap vs) (s.heap.objs.size + 1) vs) v d as) enc er2) al so (bound_map hu)) zl ⟨rfl, ?_⟩
  refine h _ ?_ (sortVals_data false e er2 al)
  rw [sortVals_length false rfl]
  exact e.length
end
end PySem.W
namespace Fb
open PySem PySem.Spec L2
open PyProof.Rows hiding St
/-- values and what they read as, sorted -/
abbrev sortD (zs : List (V × PyData)) : List (V × PyData) := zs.mergeSort (PySem.W.dataLe false Prod.snd)
def rSortD (K : PySem.W.Frag) : List V → Hp → VK → Prop := fun vs H Q => ∃ (a : Addr) (zs : List (V × PyData)), vs = [.ref a] ∧ (SqL K H a (zs.map Prod.fst) ∨ SqT K H a (zs.map Prod.fst)) ∧ (∀ z ∈ zs, Dp K H z.1 z.2 ∧ z.2.depth ≤ 60) ∧
  PySem.W.AllAlike (zs.map Prod.snd) ∧ PySem.W.Sortable (zs.map Prod.snd) ∧ ∀ p, H p = none → Q (.ref p) (upd H p (.lst ((sortD zs).map Prod.fst)))
theorem each_vals : ∀ {zs : List (V × PyData)} {us : List Value}, Vals (zs.map Prod.fst) us → PySem.W.EachIs (fun u (z : V × PyData) => RelV z.1 u) us zs
  | [], _, h => by
    cases h
    exact .nil
  | z :: r, _, h => by
    cases h with
    | cons a b => exact .cons a (each_vals b)
theorem vals_each : ∀ {zs : List (V × PyData)} {us : List Value}, PySem.W.EachIs (fun u (z : V × PyData) => RelV z.1 u) us zs → Vals (zs.map Prod.fst) us
  | _, _, .nil => .nil
  | _, _, .cons a b => .cons a (vals_each b)
theorem each_reads {X : Cx} {pins : List (Addr × Obj)} {σ : L2.St} {H : Hp} {s : Shared} (I : Inv X pins σ H s) : ∀ {zs : List (V × PyData)} {us : List Value}, Vals (zs.map Prod.fst) us → (∀ z ∈ zs, Dp X.K H z.1 z.2) → PySem.W.EachIs (fun u (z : V × PyData) => ∃ as, Reads s.heap u z.2 as) us zs
  | [], _, h, _ => by
    cases h
    exact .nil
  | z :: r, _, h, hd => by
    cases h with
    | cons a b => exact .cons (Dp.reads I z.2 z.1 _ (hd z (List.mem_cons_self ..)) a) (each_reads I b fun x hx => hd x (List.mem_cons_of_mem _ hx))
theorem cr_sortD {X : Cx} {k : Nat} (hr : Room k X.A) : CallR X (.builtin "sorted") (rSortD X.K) := by
  rintro pins s σ H vs us Q I r ⟨a, zs, rfl, hs, hd, al, so, q⟩
  have hu := hr.units
  rw [Vals.ref1 r]
  have fin : ∀ {T : String} (hT : T = "list" ∨ T = "tuple") {o : Obj} {its : List Value} {n : Nat}, s.heap.get? a = some o → o.cls = .type T → o.data = .seq its.toArray n → Vals (zs.map Prod.fst) its → (zs.map Prod.fst).length ≤ sizeLine →
      wpAny (model X.prog X.w) X.A (call (.builtin "sorted") [.ref a]) (EP X pins σ Q) X.xe s := by
    intro T hT o its n g c d rv hz
    rw [List.length_map] at hz
    refine PySem.W.fb_sorted hT g c d (each_vals rv) (each_reads I rv fun z m => (hd z m).1) al so hz (fun z m => ?_) fun out lo eo => ?_
    · have := (hd z m).2
      omega
    · obtain ⟨ep, he⟩ := PyProof.Rows.sortedAll_at s.heap its out.toArray
      have len : ((sortD zs).map Prod.fst).length ≤ sizeLine := by
        rw [List.length_map, List.length_mergeSort]
        exact hz
      exact ⟨.ref _, upd H (s.heap.objs.size + 1) (.lst ((sortD zs).map Prod.fst)), I.laid (t' := s.toks) (fun _ _ => PyProof.Rows.sortedAll_old) (Nat.le_succ _) ⟨len, out, ep, vals_each eo, he⟩, rfl, q _ (I.hok.fresh (Nat.le_succ _))⟩
  rcases hs with hs | hs
  · obtain ⟨its, rv, hl, hz⟩ := I.list hs
    obtain ⟨o, g, c, n, d⟩ := hl.isList
    exact fin (.inl rfl) g c d rv hz
  · obtain ⟨its, rv, hl, hz⟩ := I.tuple hs
    obtain ⟨o, g, c, n, d⟩ := hl
    exact fin (.inr rfl) g c d rv hz
end Fb

set_option Elab.async false
set_option linter.all false
set_option maxRecDepth 100000
set_option maxHeartbeats 4000000
/-! list(text) -/
namespace PySem
open PySem.W
section
variable {prog : Program} {w : World} {A : Around} {E : Value → Shared → Prop} {s : Shared}
theorem fb_hint_str {z : Str} {t : Tok} {Q : Bool → Shared → Prop} (h : Q false s) : wpAny (model prog w) A (Builtin.List.listLengthHint (.str z t)) Q E s := by
  unfold Builtin.List.listLengthHint
  refine wpAny_bind (wpAny_specialOf (typeIs_str s z t) PySem.F.slot_str_len.lookup ?_)
  generalize hid : ("str.__len__" : String) = id0
  wp_delta
  rw [show splitId id0 = some ("str", "__len__") from by subst hid; decide +kernel]
  subst hid
  refine wpAny_bind (wpAny_isInstance (T := "str") (b := true) (typeIs_str s z t) (by rw [isSubtype_type]; kernel_rfl) ?_)
  refine wpAny_ite_split (fun hab => absurd hab (by decide)) (fun _ => ?_)
  refine wpAny_ite_split (fun _ => ?_) (fun hab => absurd (by decide +kernel) hab)
  refine wpAny_bind (wpAny_typeOf (typeIs_str s z t) ?_)
  exact wpAny_pure h
def FbSame (S : Addr) (h h' : Heap) : Prop := ∀ b o, b ≠ S → h.get? b = some o → h'.get? b = some o
def fbLst (acc : Array Value) (c : Nat) : Obj := { cls := .type "list", dict := none, data := .seq acc c, slots := #[] }
theorem fb_ext_str {R : Result → Shared → Prop} {z : Str} {t : Tok} (hh : A.handled = none) (S : Addr) (res : Value) (c0 : Nat) (hS : s.heap.get? S = some (fbLst #[] c0)) (hn : z.cps.size ≤ sizeLine)
    (hR : ∀ h' tk acc c, FbSame S s.heap h' → h'.get? S = some (fbLst acc c) → ItemsOf (SignAt z) acc z.cps.size → R (.ok (.ret res)) { s with heap := h', toks := tk }) :
    wpAny (model prog w) A.in1 (Builtin.List.listExtendWith (.ref S) (.str z t) res)
      (fun fin s' => match fin with | .done f => R (.ok f) s' | .again c' => c'.quiet = true ∧ codeAny (model prog w) A c' R s') (fun e s' => R (.error e) s') s := by
  have hSlt := Heap.lt_size hS
  have hSI : S ≠ s.heap.objs.size := Nat.ne_of_lt hSlt
  unfold Builtin.List.listExtendWith
  refine wpAny_bind (wpAny_typeOf (typeIs_str s z t) ?_)
  rw [if_neg (by simp [Builtin.List.listSameRef])]
  refine wpAny_bind (wpAny_pyIter_str fun oI St W st => ?_)
  have key : ∀ (h : Heap) (c1 tk : Nat), St 0 h → FbSame S s.heap h → h.get? S = some (fbLst #[] c1) →
      codeAny (model prog w) A (.builtin "list.extend.loop" ⟨[.ref S, .ref s.heap.objs.size, res], []⟩) R { s with heap := h, toks := tk } := by
    intro h c1 tk st1 k1 hS1
    have W1 : Walks prog w A.in1 s.heap.objs.size [s.heap.objs.size] [s.heap.objs.size] z.cps.size (SignAt z) St := W A.in1 hh
    refine codeAny_extend_loopS W1.toS hn S (by simp [hSI]) res z.cps.size 0 _ #[] c1 rfl (Nat.zero_le _) st1 hS1 (ItemsOf.nil _) fun s' acc c m h2 ia => ?_
    rw [Moved.eq_with m]
    refine hR s'.heap s'.toks acc c (fun b o hb e => m.heap b o (fun q => ?_) (k1 b o hb e)) h2 ia
    rcases List.mem_cons.mp q with q | q
    · exact hb q
    · rw [List.mem_singleton.mp q] at e
      exact absurd (Heap.lt_size e) (Nat.lt_irrefl _)
  have k0 : FbSame S s.heap (s.heap.push oI) := fun b o _ e => Heap.get?_push_of_some _ e
  have hS0 := Heap.get?_push_of_some oI hS
  refine wpAny_bind (wpAny_holding (fb_hint_str ?_))
  refine wpAny_ite_split (fun _ => ?_) (fun _ => wpAny_pure ⟨plainId_quiet PySem.F.plain_extend_loop _, key _ c0 _ st k0 hS0⟩)
  refine wpAny_bind (wpAny_rule ?_)
  refine wpAny_bind ?_
  show wpAny _ _ (updateSeq S (·.push .none) >>= fun _ => updateSeq S (·.pop)) _ _ _
  refine wpAny_bind (wpAny_updateSeq hS0 rfl ?_)
  have hS2 := Heap.get?_update_self (Obj.mapSeq (·.push Value.none)) hS0 rfl
  refine wpAny_updateSeq (hz := by seq_fits) hS2 rfl ?_
  have hS3 := Heap.get?_update_self (Obj.mapSeq (·.pop)) hS2 rfl
  have oth : ∀ b o, b ≠ S → (s.heap.push oI).get? b = some o → (((s.heap.push oI).update S (Obj.mapSeq (·.push Value.none))).update S (Obj.mapSeq (·.pop))).get? b = some o := fun b o hb e =>
    (Heap.get?_update_other _ _ (Ne.symm hb)).trans ((Heap.get?_update_other _ _ (Ne.symm hb)).trans e)
  refine wpAny_pure ⟨plainId_quiet PySem.F.plain_extend_loop _, key _ _ _ ?_ (fun b o hb e => oth b o hb (k0 b o hb e)) hS3⟩
  refine (W A.in1 hh).frame 0 _ _ st fun b hb o e => oth b o ?_ e
  rw [List.mem_singleton.mp hb]
  exact hSI.symm
theorem fb_list_str {z : Str} {t : Tok} {Q : Value → Shared → Prop} (hh : A.handled = none) (hn : z.cps.size ≤ sizeLine)
    (hQ : ∀ h' tk acc c, (∀ b o, s.heap.get? b = some o → h'.get? b = some o) → h'.get? s.heap.objs.size = some (fbLst acc c) → ItemsOf (SignAt z) acc z.cps.size → Q (.ref s.heap.objs.size) { s with heap := h', toks := tk }) :
    wpAny (model prog w) A (call (.type "list") [.str z t]) Q E s := by
  refine callType_codes (Q₁ := fun obj s1 => obj = .ref s.heap.objs.size ∧ s1 = { s with heap := s.heap.push (fbLst #[] 0) }) PySem.F.called_list (PySem.F.typeCall_list_1 _) PySem.F.entry_list_init
    (code_list_new _ ⟨rfl, rfl⟩) ?_
  rintro obj s1 ⟨rfl, rfl⟩
  have hS : (s.heap.push (fbLst #[] 0)).get? s.heap.objs.size = some (fbLst #[] 0) := Heap.get?_push_size _ rfl
  refine ⟨⟨_, hS, rfl⟩, PySem.F.args_list_init_2 _ _, ?_⟩
  show wpAny _ _ (Builtin.List.listItems (.ref s.heap.objs.size) >>= fun old => Builtin.List.listUpdate (.ref s.heap.objs.size) (fun _ => #[]) >>= fun _ => letGo old.toList.reverse >>= fun _ => Builtin.List.listExtendWith (.ref s.heap.objs.size) (.str z t) .none) _ _ _
  refine wpAny_bind ?_
  unfold Builtin.List.listItems
  refine wpAny_bind (wpAny_seqItems hS rfl (wpAny_pure ?_))
  show wpAny _ _ (updateSeq s.heap.objs.size (fun _ => #[]) >>= fun _ => letGo (#[] : Array Value).toList.reverse >>= fun _ => Builtin.List.listExtendWith (.ref s.heap.objs.size) (.str z t) .none) _ _ _
  refine wpAny_bind (wpAny_updateSeq hS rfl ?_)
  have hS2 := Heap.get?_update_self (Obj.mapSeq (fun _ => (#[] : Array Value))) hS rfl
  refine wpAny_bind (wpAny_letGo ?_)
  refine fb_ext_str (A := A.in1) hh _ .none _ hS2 hn fun h' tk acc c k hS' ia => ?_
  refine ⟨rfl, hQ h' tk acc c (fun b o e => ?_) hS' ia⟩
  have hb := Nat.ne_of_lt (Heap.lt_size e)
  exact k b o hb ((Heap.get?_update_other _ _ (Ne.symm hb)).trans (Heap.get?_push_of_some _ e))
end
end PySem
namespace Fb
open PySem PySem.Spec L2
open PyProof.Rows hiding St
open C8 (Cal Met Mak Def cal0 met0 mak0 pe_c pe_mk pe_mt pe_mt0 fnScope fnBody fnArgs)
def rListStr : List V → Hp → VK → Prop := fun xs H Q => ∃ z : Str, xs = [.str z] ∧ z.length ≤ 100000 ∧ ∀ p, H p = none → Q (.ref p) (upd H p (.lst (z.cps.toList.map fun c => V.str ⟨#[c]⟩)))
theorem call_listStr {X : Cx} (hc : X.calm = true) : CallR X (.type "list") rListStr := by
  rintro pins s σ H xs us Q I r ⟨z, rfl, hz, q⟩
  obtain ⟨u, rfl, ⟨t, rfl⟩⟩ := vals1 r
  have hz2 : z.cps.size ≤ sizeLine := size5' hz
  refine fb_list_str (I.ok.hd hc) hz2 fun h' tk acc c k hS ia => ?_
  refine ⟨.ref s.heap.objs.size, _, I.laid (t' := tk) (o := .lst (z.cps.toList.map fun c => V.str ⟨#[c]⟩)) k (Nat.le_refl _) ?_, rfl, q _ (I.hok.fresh (Nat.le_refl _))⟩
  refine ⟨by rw [List.length_map, Array.length_toList]; exact hz2, acc.toList, c, ?_, by rw [Array.toArray_toList]; exact hS⟩
  refine vals_of_at (by rw [List.length_map, Array.length_toList, Array.length_toList, ia.1]) fun j x w h1 h2 => ?_
  obtain ⟨d, u, e1, e2⟩ := ia.2 j w (by rw [← Array.getElem?_toList]; exact h2)
  rw [List.getElem?_map, Array.getElem?_toList, e1] at h1
  cases h1
  exact ⟨u, e2⟩
/-! ### in, by a class's own __contains__ -/
def rInOwn (C : Addr) (sp : Sp) (f : Bool → Bool) : R2 := fun x y H Q => ∃ a dx fs, y = .ref a ∧ H a = some (.ins C dx fs) ∧ sp [y, x] H (fun v H' => ∃ b, v = .bl b ∧ Q (.bl (f b)) H') C8.E0
section
variable {X : Cx} {k j : Nat} {C : Addr} {sp : Sp}
theorem own_in {pins : List (Addr × Obj)} {s : Shared} {σ : L2.St} {H : Hp} {x : V} {a dx : Addr} {fs : List (Str × V)} {u : Value} {f : Bool → Bool} {Q : VK} (c : Met X.prog X.w X.K X.mg X.base k C "__contains__" sp []) (hr : Room j X.A) (hk : k ≤ j) (I : Inv X pins σ H s) (ru : RelV x u)
    (ha : H a = some (.ins C dx fs)) (hs : sp [.ref a, x] H (fun v H' => ∃ b, v = .bl b ∧ Q (.bl (f b)) H') C8.E0) :
    ∃ od m fa, PySem.W.InstAt s.heap a (PySem.W.instObj C dx) C od ∧ Fr X.base X.env.locals s.heap m ∧ PySem.W.findIn X.K (.ref C) "__contains__" = some (some (.ref fa)) ∧ PySem.W.isFn X.K (.ref fa) = true ∧
      wpAny (model X.prog X.w) X.A (call (.ref fa) [.ref a, u]) (fun r s' => wpAny (model X.prog X.w) X.A (truthy r) (fun b s' => EP X pins σ Q (.bool (f b)) s') X.xe s') X.xe s := by
  obtain ⟨fa, fd, ps, ds, hc, hm, F, b, d⟩ := c.ex
  cases d
  obtain ⟨mA, J, _⟩ := ins_get I.hok ha
  obtain ⟨od, J, _⟩ := J.look
  obtain ⟨m, hF⟩ := I.fr
  refine ⟨_, m, fa, J, hF, hm.at_, hm.fn, ?_⟩
  refine thn (run_fn F (hr.mono hk) b .nil C8.pass0 I (vs := [.ref a, x]) (.cons rfl (.cons ru .nil)) hs) ?_
  rintro r s' ⟨v, H', I', rv, bb, rfl, q⟩
  cases rv
  exact wpAny_truthy_bool ⟨.bl (f bb), H', I', rfl, q⟩
theorem op_inOwn (c : Met X.prog X.w X.K X.mg X.base k C "__contains__" sp []) (hr : Room j X.A) (hk : k ≤ j) : OpR X (compareOp .In) (rInOwn C sp fun b => b) := by
  rintro pins s σ H x y v u Q I rx ry ⟨a, dx, fs, rfl, ha, hs⟩
  cases ry
  obtain ⟨od, m, fa, J, hF, h1, h2, h3⟩ := own_in (f := fun b => b) c hr hk I rx ha hs
  exact PySem.W.in_K hF I.ok.mod.kin J h1 h2 h3
theorem op_notInOwn (c : Met X.prog X.w X.K X.mg X.base k C "__contains__" sp []) (hr : Room j X.A) (hk : k ≤ j) : OpR X (compareOp .NotIn) (rInOwn C sp fun b => !b) := by
  rintro pins s σ H x y v u Q I rx ry ⟨a, dx, fs, rfl, ha, hs⟩
  cases ry
  obtain ⟨od, m, fa, J, hF, h1, h2, h3⟩ := own_in (f := fun b => !b) c hr hk I rx ha hs
  exact PySem.W.notIn_K hF I.ok.mod.kin J h1 h2 h3
end
/-! ### min of data -/
def rMinD (K : PySem.W.Frag) : List V → Hp → VK → Prop := fun vs H Q => ∃ (a : Addr) (xs : List V) (y : PyData) (ys : List PyData), vs = [.ref a] ∧ SqL K H a xs ∧ DpAll K H xs (y :: ys) ∧ PySem.W.AlikeAll (y :: ys) ∧ PyData.depthAll (y :: ys) ≤ 60 ∧
  ∀ (i : Nat) (x : V), xs[i]? = some x → (y :: ys)[i]? = some (PySem.W.minD y ys) → Q x H
theorem cr_minD {X : Cx} {k : Nat} (hr : Room k X.A) (hc : X.calm = true) : CallR X (.builtin "min") (rMinD X.K) := by
  rintro pins s σ H vs us Q I r ⟨a, xs, y, ys, rfl, hs, hd, al, dp, q⟩
  have hu := hr.units
  rw [Vals.ref1 r]
  obtain ⟨its, rv, hl, hz⟩ := I.list hs
  obtain ⟨as, ra⟩ := Dp.readsAll I _ _ _ hd rv
  have ra2 : ReadsAll s.heap its.toArray.toList (y :: ys) as := by
    rw [List.toList_toArray]
    exact ra
  refine PySem.W.min_list_data (I.ok.hd hc) hl.isList ra2 al (by omega) fun i v h' tk bs hv rd kp => ?_
  have hv2 : its[i]? = some v := by
    rw [← List.getElem?_toArray]
    exact hv
  obtain ⟨b2, r2, lt, _⟩ := PySem.W.readsAll_at ra i v hv2
  have e := (Reads.unique (PySem.W.reads_keeps kp r2) _ _ rd).1
  have li : i < xs.length := by
    rw [rv.length]
    exact (List.getElem?_eq_some_iff.mp hv2).1
  have hx := List.getElem?_eq_getElem li
  obtain ⟨u2, hu2, rx⟩ := rv.get hx
  rw [hv2] at hu2
  cases hu2
  refine ⟨xs[i], H, I.kept kp, rx, q i _ hx ?_⟩
  rw [← e, List.getElem?_eq_getElem lt, List.getD_eq_getElem?_getD, List.getElem?_eq_getElem lt]
  rfl
end Fb

set_option Elab.async false
set_option linter.all false
set_option maxRecDepth 100000
set_option maxHeartbeats 4000000
/-! a dict comprehension whose keys are tuples -/
namespace Fb
open PySem PySem.Spec L2
open PyProof.Rows hiding St
section
variable {X : Cx}
theorem d_setT {pins : List (Addr × Obj)} {σ : L2.St} {H : Hp} {s : Shared} {E : Value → Shared → Prop} {D b : Addr} {kvs : List (List Key × V)} {k : List Key} {v : V} {r : Value} {Q : Unit → Shared → Prop} (hu : X.A.units + 1 < cLine) (I : Inv X pins σ H s)
    (hD : H D = some (.dT kvs)) (hz : kvs.length < sizeLine) (hb : H b = some (.tup (k.map kV))) (rv : RelV v r) (h : ∀ s', Inv X pins σ (upd H D (.dT (putK kvs k v))) s' → Q () s') :
    wpAny (model X.prog X.w) X.A (dictSet D (.ref b) r) Q E s := by
  obtain ⟨z, hd, xs, rel, dd⟩ := dt_of I.hok hD
  have lx := Paired.length rel
  have lp := length_putK kvs k v
  refine wpAny_dictSet_heap (hsz := by omega) (show (tupleKind (mixKind X.prog X.w)).room X.A from (by show X.A.units < cLine; omega)) (key_of I.hok hb) dd fun h' dd' hs => h _ ?_
  obtain ⟨q, es, ep, hq, h2, h3, h4, _, h5⟩ := dd'
  have kt : KT (upd H D (.dT (putK kvs k v))) (putK kvs k v) (storedH xs k b r) := (rel.put k hb rv).keeps fun c ys ec => by
    rw [upd_ne (ne_of ec hD fun z => nomatch z)]
    exact ec
  exact d_write I (by rw [hD]; trivial) hs ⟨q, hq⟩ ⟨by omega, hd, _, kt, q, es, ep, hq, h2, h3, h4, h5⟩
/-- {k: v for target in iter if ..}, keys tuples; D the new dict -/
def tDcT (wi : TI) (g : TG) (tt : TT) (tk tv : TE) (vs : List Nat) : TE := fun σ H Q => wi σ H fun J H1 => ∀ D, H1 D = none → ∃ W : Nat → Nat → Hp → Prop, (∃ m, W 0 m (upd H1 D (.dT []))) ∧ ∀ i m H, W i m H →
  (J.stop i H ∧ Q (.ref D) H) ∨ (J.go i H ∧ ∃ Nx : Hp → Prop, (∀ H', Nx H' → ∃ m', m' < m ∧ W (i + 1) m' H') ∧ ∀ x H', J.yld i H x H' → g x (wipe σ vs) H' fun σ2 H2 => wipe σ2 vs = wipe σ vs ∧ tt σ2 H2 fun b H3 =>
    if b = true then tk σ2 H3 fun y H4 => tv σ2 H4 fun z H5 => ∃ kvs k b, y = .ref b ∧ H5 b = some (.tup (k.map kV)) ∧ H5 D = some (.dT kvs) ∧ kvs.length < sizeLine ∧ Nx (upd H5 D (.dT (putK kvs k z))) else Nx H3)
theorem pe_dcT {kx vx tg iter : Expr} {ifs : List Expr} {scope : Scope} {own : List (Str × Nat)} {pos : Pos} {wi : TI} {g : TG} {tt : TT} {tk tv : TE} (hu : X.A.units + 1 < cLine) (hc : X.calm = true) (hN : X.N.Nodup) (hi : PI X tg iter wi) (ok : BlkOk X.N X.env.scope scope own)
    (hg : ∀ s H C cl fp, PG (X.blk s H scope (compEnvC scope cl C X.env) fp) tg g) (ht : ∀ s H C cl fp, PTs (X.blk s H scope (compEnvC scope cl C X.env) fp) ifs tt)
    (hk : ∀ s H C cl fp, PE (X.blk s H scope (compEnvC scope cl C X.env) fp) kx tk)
    (he : ∀ s H C cl fp, PE (X.blk s H scope (compEnvC scope cl C X.env) fp) vx tv) (hs : ∀ x, foldedSetIterable iter X.env x = pure x := by intro _; rfl) :
    PE X (.DictComp kx vx [⟨tg, iter, ifs, 0⟩] scope pos) (tDcT wi g tt tk tv (own.map (·.2))) := by
  refine ⟨fun pins s σ H Q I h => ?_⟩
  rw [arm_eval_DictComp]
  have hfree : ∀ y ∈ scope.names, y.2 = .free → ∃ c, X.env.cells.lookup y.1 = some c := by
    intro y hy e
    rcases ok.free y hy e with k | k
    · exact I.ok.has _ (.inl k)
    · exact I.ok.has _ (.inr k)
  refine wpAny_comprehension_free rfl hs (closure_ok hfree) ok.kind (fun y hy e => by rw [ok.uniq y hy, e]) ?_
  refine thn (hi.run pins s σ H _ I h) fun xv s1 hx => thn hx ?_
  rintro itv s2 ⟨it, fp, tn, J, H2, rfl, I2, T, st2, f2, q⟩
  refine wpAny_newObj_type (newEnv_comp ?_)
  -- the new dict, at D
  generalize hD : s2.heap.objs.size = D
  have hDn : H2 D = none := I2.hok.fresh (Nat.le_of_eq hD)
  obtain ⟨W, ⟨m0, w0⟩, turn⟩ := q D hDn
  generalize hs3 : ({ s2 with heap := s2.heap.push { cls := .type "dict", data := .dict #[] } } : Shared) = s3
  have h3 : s3.heap = s2.heap.push { cls := .type "dict", data := .dict #[] } := by rw [← hs3]
  have I3 : Inv X pins σ (upd H2 D (.dT [])) s3 := by
    rw [← hs3]
    refine I2.laid (t' := s2.toks) (fun b o e => Heap.get?_push_of_some _ e) (Nat.le_of_eq hD) ?_
    rw [← hD]
    exact dt_empty s2.heap I2.big
  have f3 : ∀ b ∈ fp, FpOk X pins (upd H2 D (.dT [])) b ∧ b < s3.heap.objs.size := by
    intro b hb
    obtain ⟨o, e, _⟩ := T.obj _ _ st2 b hb
    have lt := Heap.lt_size e
    refine ⟨⟨?_, (f2 b hb).2⟩, ?_⟩
    · rw [upd_ne (by rw [← hD]; exact Nat.ne_of_lt lt)]
      exact (f2 b hb).1
    · rw [h3, Heap.size_push]
      exact Nat.lt_succ_of_lt lt
  have st3 : tn 0 s3.heap := T.keep _ _ _ st2 fun b _ o e => by
    rw [h3]
    exact Heap.get?_push_of_some _ e
  have I4 := block_start I3 ok hN f3
  generalize hcl : cellsFrom (s3.heap.objs.size + 1) scope.names (cloFrom X.env.cells scope.names []) = cl at I4
  have pg := hg s3 (upd H2 D (.dT [])) s3.heap.objs.size cl fp
  have pt := ht s3 (upd H2 D (.dT [])) s3.heap.objs.size cl fp
  have pk := hk s3 (upd H2 D (.dT [])) s3.heap.objs.size cl fp
  have pe := he s3 (upd H2 D (.dT [])) s3.heap.objs.size cl fp
  have nfp : ∀ b ∈ fp, (upd H2 D (.dT [])) b = none := fun b hb => (f3 b hb).1.1
  show codeAny _ _ (.compStart (.DictComp kx vx [⟨tg, iter, ifs, 0⟩] scope pos) 0 (.ref it) (.ref D) (compEnvC scope cl s3.heap.objs.size X.env)) _ { s3 with heap := pushCells (s3.heap.push { cls := .type "dict", data := .dict #[] }) scope.names }
  generalize hce : compEnvC scope cl s3.heap.objs.size X.env = ce at I4 pg pt pk pe ⊢
  have cL : ce.locals = s3.heap.objs.size := by
    subst hce
    rfl
  generalize hH3 : upd H2 D (.dT []) = H3 at I3 I4 pg pt pk pe w0 nfp f3
  generalize hs4 : ({ s3 with heap := pushCells (s3.heap.push { cls := .type "dict", data := .dict #[] }) scope.names } : Shared) = s4 at I4 ⊢
  have st4 : tn 0 s4.heap := T.keep _ _ _ st3 fun b _ o e => by
    rw [← hs4]
    exact pushCells_keeps _ _ _ _ (Heap.get?_push_of_some _ e)
  have stat : ∀ {σ' : L2.St} {H' : Hp} {s' : Shared}, Inv (X.blk s3 H3 scope ce fp) [] σ' H' s' → (∀ b ∈ fp, H' b = none) → ∀ b ∈ fp, FpOk (X.blk s3 H3 scope ce fp) [] H' b := by
    intro σ' H' s' I' hn b hb
    refine ⟨hn b hb, (I'.ok.exf b hb).1, I'.ok.exfs b hb, .inl hb, fun x c e => (I'.ok.exf b hb).2 x c e, fun p hp => ?_⟩
    have hp : p ∈ ([] : List (Addr × Obj)) ++ [] := hp
    cases hp
  refine codeAny_compStart_dict ?_ (T.self X.A 0 _ _ _ st4 ?_)
  all_goals
    refine compLoop_anyD (fun n s' => ∃ i H', Inv (X.blk s3 H3 scope ce fp) [] (wipe σ (own.map (·.2))) H' s' ∧ tn i s'.heap ∧ (∀ b ∈ fp, H' b = none) ∧ W i n H') ?_ m0 ⟨0, H3, I4, st4, nfp, w0⟩
    rintro n s5 ⟨i, H5, I5, st5, n5, w5⟩
    rcases turn i n H5 w5 with ⟨stop, qq⟩ | ⟨go, Nx, hNx, step⟩
    · -- the walk is over: back in the def
      refine thnF (T.done (X.blk s3 H3 scope ce fp) rfl rfl rfl hc i [] s5 _ H5 (fun _ _ => False) I5 (stat I5 n5) st5 stop) ?_
      rintro r s6 ⟨rfl, I6⟩
      have I7 : Inv X pins σ H5 s6 := I3.call' (ch := fp) I6.os I6.base I6.hok I6.bare fun b hb =>
        let ⟨a, b, c, d, e, f⟩ := (f3 b hb).1
        ⟨d, b, e, f⟩
      have nC : H5 s3.heap.objs.size = none := by
        have z : H5 ce.locals = none := I6.free
        rw [cL] at z
        exact z
      obtain ⟨m, hn, _⟩ := I6.loc
      have hn : s6.heap.Ns ce.locals m := hn
      rw [cL] at hn
      obtain ⟨f0, f1, f2, f3, f4, f5⟩ := I3.fpOk (Nat.le_refl _) nC
      refine ⟨m, hn, fun h'' sb => ?_⟩
      refine ⟨.ref D, H5, ?_, rfl, qq⟩
      exact I7.turned (t' := s6.toks) (fun b o hb e => (sb.2 b hb).trans e) nC f1 f3 f4 f5
    · refine thnF (T.item (X.blk s3 H3 scope ce fp) rfl rfl rfl hc i [] s5 _ H5 (fun _ _ => False) I5 (stat I5 n5) st5 go) ?_
      rintro r s6 ⟨u, rfl, h6⟩
      refine thnF h6 ?_
      rintro _ s7 ⟨x, H7, I7, r7, y7, st7, n7⟩
      have I7' := I7.pinned (stat I7 n7) (T.obj _ _ st7)
      refine thnF (pg.run _ s7 _ H7 x u _ I7' r7 (step x H7 y7)) ?_
      rintro _ s8 ⟨σ8, H8, I8, hw8, q8⟩
      refine thnF (pt.run _ s8 σ8 H8 _ I8 q8) ?_
      rintro b s9 ⟨H9, I9, q9⟩
      -- how a turn ends
      have fin : ∀ {s' : Shared} {H' : Hp}, Inv (X.blk s3 H3 scope ce fp) ([] ++ pinsAt fp s7.heap) σ8 H' s' → Nx H' →
          ∃ m, m < n ∧ ∃ i H', Inv (X.blk s3 H3 scope ce fp) [] (wipe σ (own.map (·.2))) H' s' ∧ tn i s'.heap ∧ (∀ b ∈ fp, H' b = none) ∧ W i m H' := by
        intro s' H' I' nx
        obtain ⟨m', hm, w'⟩ := hNx H' nx
        have held : ∀ b ∈ fp, ∀ o, s7.heap.get? b = some o → s'.heap.get? b = some o ∧ H' b = none := by
          intro b hb o e
          have z := I'.pin (b, o) (List.mem_append_right _ (List.mem_append_right _ (mem_pinsAt hb e)))
          exact ⟨z.1, z.2.1⟩
        have hl : (wipe σ (own.map (·.2))).length = σ8.length := by rw [← hw8, wipe_length]
        refine ⟨m', hm, i + 1, H', (I'.unpinned (pins := [])).weak hl ?_, T.keep _ _ _ st7 fun b hb o e => (held b hb o e).1, fun b hb => ?_, w'⟩
        · intro j v e
          rw [← hw8] at e
          exact (wipe_some e).1
        · obtain ⟨o, e, _⟩ := T.obj _ _ st7 b hb
          exact (held b hb o e).2
      cases b with
      | false =>
        simp only [Bool.false_eq_true, if_false] at q9 ⊢
        exact fin I9 q9
      | true =>
        simp only [if_true] at q9 ⊢
        refine thnF (pk.run _ s9 σ8 H9 _ I9 q9) ?_
        rintro z s10 ⟨yk, H10, I10, r10, q10⟩
        refine thnF (pe.run _ s10 σ8 H10 _ I10 q10) ?_
        rintro z2 s11 ⟨yv, H11, I11, r11, kvs, k, b, rfl, hb, hD11, hz11, nx⟩
        cases r10
        exact d_setT (X := X.blk s3 H3 scope ce fp) hu I11 hD11 hz11 hb r11 fun s12 I12 => fin I12 nx
end
/-- over what is walked -/
theorem dcT_it {J : It} {n : Nat} {G : Hp → Prop} {Y : Nat → Hp → V → Hp → Prop} (w : Walk J n G Y) {g : TG} {tt : TT} {tk tv : TE} {vs : List Nat} {σ : L2.St} {H1 : Hp} {D : Addr} {Qd : Hp → Prop} (Pv : Nat → Hp → Prop) (h0 : Pv 0 (upd H1 D (.dT []))) (hG : ∀ i H, i ≤ n → Pv i H → G H)
    (hs : ∀ i x H H', i < n → Pv i H → Y i H x H' → g x (wipe σ vs) H' fun σ2 H2 => wipe σ2 vs = wipe σ vs ∧ tt σ2 H2 fun b H3 =>
      if b = true then tk σ2 H3 fun y H4 => tv σ2 H4 fun z H5 => ∃ kvs k b, y = .ref b ∧ H5 b = some (.tup (k.map kV)) ∧ H5 D = some (.dT kvs) ∧ kvs.length < sizeLine ∧ Pv (i + 1) (upd H5 D (.dT (putK kvs k z))) else Pv (i + 1) H3) (hd : ∀ H, Pv n H → Qd H) :
    ∃ W : Nat → Nat → Hp → Prop, (∃ m, W 0 m (upd H1 D (.dT []))) ∧ ∀ i m H, W i m H →
      (J.stop i H ∧ Qd H) ∨ (J.go i H ∧ ∃ Nx : Hp → Prop, (∀ H', Nx H' → ∃ m', m' < m ∧ W (i + 1) m' H') ∧ ∀ x H', J.yld i H x H' → g x (wipe σ vs) H' fun σ2 H2 => wipe σ2 vs = wipe σ vs ∧ tt σ2 H2 fun b H3 =>
        if b = true then tk σ2 H3 fun y H4 => tv σ2 H4 fun z H5 => ∃ kvs k b, y = .ref b ∧ H5 b = some (.tup (k.map kV)) ∧ H5 D = some (.dT kvs) ∧ kvs.length < sizeLine ∧ Nx (upd H5 D (.dT (putK kvs k z))) else Nx H3) := by
  refine ⟨fun i m H => m = n - i ∧ i ≤ n ∧ Pv i H, ⟨n, rfl, Nat.zero_le _, h0⟩, ?_⟩
  rintro i m H ⟨rfl, hi, p⟩
  rcases Nat.lt_or_ge i n with lt | ge
  · refine .inr ⟨w.goes i H lt (hG i H hi p), Pv (i + 1), fun H' p' => ⟨n - (i + 1), by omega, rfl, lt, p'⟩, fun x H' y => ?_⟩
    exact hs i x H H' lt p (w.yields i H x H' lt (hG i H hi p) y)
  · obtain rfl : i = n := Nat.le_antisymm hi ge
    exact .inl ⟨w.stops H (hG i H hi p), hd H p⟩
/-- keys ints or texts -/
theorem dc_it {J : It} {n : Nat} {G : Hp → Prop} {Y : Nat → Hp → V → Hp → Prop} (w : Walk J n G Y) {g : TG} {tt : TT} {tk tv : TE} {vs : List Nat} {σ : L2.St} {H1 : Hp} {D : Addr} {Qd : Hp → Prop} (Pv : Nat → Hp → Prop) (h0 : Pv 0 (upd H1 D (.dK []))) (hG : ∀ i H, i ≤ n → Pv i H → G H)
    (hs : ∀ i x H H', i < n → Pv i H → Y i H x H' → g x (wipe σ vs) H' fun σ2 H2 => wipe σ2 vs = wipe σ vs ∧ tt σ2 H2 fun b H3 =>
      if b = true then tk σ2 H3 fun y H4 => tv σ2 H4 fun z H5 => ∃ kvs k, y = kV k ∧ H5 D = some (.dK kvs) ∧ kvs.length < sizeLine ∧ Pv (i + 1) (upd H5 D (.dK (putK kvs k z))) else Pv (i + 1) H3) (hd : ∀ H, Pv n H → Qd H) :
    ∃ W : Nat → Nat → Hp → Prop, (∃ m, W 0 m (upd H1 D (.dK []))) ∧ ∀ i m H, W i m H →
      (J.stop i H ∧ Qd H) ∨ (J.go i H ∧ ∃ Nx : Hp → Prop, (∀ H', Nx H' → ∃ m', m' < m ∧ W (i + 1) m' H') ∧ ∀ x H', J.yld i H x H' → g x (wipe σ vs) H' fun σ2 H2 => wipe σ2 vs = wipe σ vs ∧ tt σ2 H2 fun b H3 =>
        if b = true then tk σ2 H3 fun y H4 => tv σ2 H4 fun z H5 => ∃ kvs k, y = kV k ∧ H5 D = some (.dK kvs) ∧ kvs.length < sizeLine ∧ Nx (upd H5 D (.dK (putK kvs k z))) else Nx H3) := by
  refine ⟨fun i m H => m = n - i ∧ i ≤ n ∧ Pv i H, ⟨n, rfl, Nat.zero_le _, h0⟩, ?_⟩
  rintro i m H ⟨rfl, hi, p⟩
  rcases Nat.lt_or_ge i n with lt | ge
  · refine .inr ⟨w.goes i H lt (hG i H hi p), Pv (i + 1), fun H' p' => ⟨n - (i + 1), by omega, rfl, lt, p'⟩, fun x H' y => ?_⟩
    exact hs i x H H' lt p (w.yields i H x H' lt (hG i H hi p) y)
  · obtain rfl : i = n := Nat.le_antisymm hi ge
    exact .inl ⟨w.stops H (hG i H hi p), hd H p⟩
end Fb

set_option Elab.async false
set_option linter.all false
set_option maxRecDepth 100000
set_option maxHeartbeats 4000000
/-! orders; texts and pairs of texts on the heap -/
namespace Fb
open PySem PySem.Spec L2
open PyProof.Rows hiding St
section
variable {X : Cx} {K : PySem.W.Frag} {k : Nat}
theorem room_65 {A : Around} (hr : Room k A) : A.units + 65 < cLine := by
  have := hr.un
  omega
theorem ix_D (e : X.K = K) (hu : X.A.units + 65 < cLine) : MtR X "list.index" (rIndexD K) := e ▸ mt_indexD hu
theorem inD_K (e : X.K = K) (hu : X.A.units + 65 < cLine) : OpR X (compareOp .In) (rInD K) := e ▸ op_inD hu
theorem notInD_K (e : X.K = K) (hu : X.A.units + 65 < cLine) : OpR X (compareOp .NotIn) (rNotInD K) := e ▸ op_notInD hu
theorem fld_K {o : Expr} {f : Str} {pos : Pos} {ta : TE} (e : X.K = K) (ho : PE X o ta) (hb : attributeBase o f X.env (eval o X.env) = eval o X.env) : PE X (.Attribute o f pos) (tFld K ta f) := e ▸ pe_fld ho hb
theorem srt_K (e : X.K = K) (hr : Room k X.A) : CallR X (.builtin "sorted") (rSortD K) := e ▸ cr_sortD hr
theorem minD_K (e : X.K = K) (hr : Room k X.A) (hc : X.calm = true) : CallR X (.builtin "min") (rMinD K) := e ▸ cr_minD hr hc
end
theorem take_snoc {α : Type} {l : List α} {i : Nat} {x : α} (h : l[i]? = some x) : l.take (i + 1) = l.take i ++ [x] := by
  obtain ⟨lt, e⟩ := List.getElem?_eq_some_iff.mp h
  rw [← e, List.take_append_getElem]
theorem erase_perm {α : Type} : ∀ {l : List α} {j : Nat} (h : j < l.length), ([l[j]] ++ l.eraseIdx j).Perm l
  | a :: l, 0, _ => .refl _
  | a :: l, j + 1, h => by
    have h' : j < l.length := Nat.lt_of_succ_lt_succ h
    have ih := erase_perm (l := l) (j := j) h'
    show (l[j] :: a :: l.eraseIdx j).Perm (a :: l)
    exact (List.Perm.swap _ _ _).trans (List.Perm.cons a ih)
/-! ### orders -/
structure LinB {α : Type} (le : α → α → Bool) : Prop where
  tr : ∀ a b c, le a b = true → le b c = true → le a c = true
  to : ∀ a b, (le a b || le b a) = true
  an : ∀ a b, le a b = true → le b a = true → a = b
section
variable {α : Type} {le : α → α → Bool}
theorem LinB.rf (L : LinB le) (a : α) : le a a = true := by
  have := L.to a a
  rwa [Bool.or_self] at this
theorem LinB.sorted (L : LinB le) (l : List α) : (l.mergeSort le).Pairwise (fun a b => le a b = true) := List.pairwise_mergeSort L.tr L.to l
theorem LinB.uniq (L : LinB le) {l m : List α} (h1 : l.Pairwise (fun a b => le a b = true)) (h2 : m.Pairwise (fun a b => le a b = true)) (p : l.Perm m) : l = m :=
  p.eq_of_pairwise (fun a b _ _ x y => L.an a b x y) h1 h2
theorem LinB.perm (L : LinB le) {l m : List α} (p : l.Perm m) : l.mergeSort le = m.mergeSort le :=
  L.uniq (L.sorted l) (L.sorted m) ((List.mergeSort_perm l le).trans (p.trans (List.mergeSort_perm m le).symm))
theorem LinB.fix (L : LinB le) {l : List α} (h : l.Pairwise (fun a b => le a b = true)) : l.mergeSort le = l :=
  L.uniq (L.sorted l) h (List.mergeSort_perm l le)
theorem nodup_perm [DecidableEq α] {l m : List α} (h1 : l.Nodup) (h2 : m.Nodup) (h : ∀ x, x ∈ l ↔ x ∈ m) : l.Perm m := (List.perm_ext_iff_of_nodup h1 h2).mpr h
theorem sort_nodup {l : List α} (h : l.Nodup) : (l.mergeSort le).Nodup := (List.mergeSort_perm l le).nodup_iff.mpr h
end
abbrev Tw := Str × Str
def twD (p : Tw) : PyData := .tuple [.str p.1, .str p.2]
def stLe : Str → Str → Bool := PySem.W.dataLe false PyData.str
def twLe : Tw → Tw → Bool := PySem.W.dataLe false twD
theorem str_ext {a b : Str} (h : a.cps.toList = b.cps.toList) : a = b := by
  obtain ⟨a⟩ := a
  obtain ⟨b⟩ := b
  exact congrArg Str.mk (Array.toList_inj.mp h)
theorem stLe_eq : stLe = fun a b => decide (a.cps.toList ≤ b.cps.toList) := PySem.W.dataLe_str id
theorem lin_st : LinB stLe := by
  rw [stLe_eq]
  refine ⟨fun a b c h1 h2 => ?_, fun a b => ?_, fun a b h1 h2 => ?_⟩
  · exact decide_eq_true (List.le_trans (of_decide_eq_true h1) (of_decide_eq_true h2))
  · rw [← Bool.decide_or]
    exact decide_eq_true (List.le_total _ _)
  · exact str_ext (List.le_antisymm (of_decide_eq_true h1) (of_decide_eq_true h2))
theorem eqv_st (a b : Str) : PyData.eqv (.str a) (.str b) = decide (a = b) := by
  by_cases h : a = b
  · subst h
    rw [decide_eq_true rfl]
    simp [PyData.eqv]
  · rw [decide_eq_false h]
    simp [PyData.eqv, h]
theorem eqv_tw (p q : Tw) : PyData.eqv (twD p) (twD q) = decide (p = q) := by
  obtain ⟨a, b⟩ := p
  obtain ⟨c, d⟩ := q
  show PyData.eqv (.tuple [.str a, .str b]) (.tuple [.str c, .str d]) = _
  simp only [PyData.eqv, PyData.eqvAll, Bool.and_true]
  by_cases h1 : a = c
  · by_cases h2 : b = d
    · simp [h1, h2]
    · simp [h2]
  · simp [h1]
def stLt (a b : Str) : Prop := a.cps.toList < b.cps.toList
theorem stLt_irr (a : Str) : ¬ stLt a a := List.lt_irrefl _
theorem stLt_tr {a b c : Str} (h : stLt a b) (k : stLt b c) : stLt a c := List.lt_trans h k
theorem stLt_tri (a b : Str) : stLt a b ∨ a = b ∨ stLt b a := by
  by_cases h : a.cps.toList < b.cps.toList
  · exact .inl h
  · by_cases k : b.cps.toList < a.cps.toList
    · exact .inr (.inr k)
    · exact .inr (.inl (str_ext (List.le_antisymm (List.not_lt.mp k) (List.not_lt.mp h))))
instance (a b : Str) : Decidable (stLt a b) := by
  unfold stLt
  infer_instance
theorem twLe_iff (p q : Tw) : twLe p q = true ↔ stLt p.1 q.1 ∨ (p.1 = q.1 ∧ ¬ stLt q.2 p.2) := by
  obtain ⟨a, b⟩ := p
  obtain ⟨c, d⟩ := q
  show (!PySem.W.dataLt (.tuple [.str c, .str d]) (.tuple [.str a, .str b])) = true ↔ _
  rw [PySem.W.dataLt_pair (by simp [PySem.W.alike]) (by simp [PySem.W.alike]), PySem.W.dataLt_str, PySem.W.dataLt_str, eqv_st, eqv_st]
  have e1 : (c.cps.toList < a.cps.toList) = stLt c a := rfl
  have e2 : (d.cps.toList < b.cps.toList) = stLt d b := rfl
  rw [show decide (c.cps.toList < a.cps.toList) = decide (stLt c a) from rfl, show decide (d.cps.toList < b.cps.toList) = decide (stLt d b) from rfl]
  by_cases h1 : c = a
  · subst h1
    by_cases h2 : d = b
    · subst h2
      simp [stLt_irr]
    · simp [h2, stLt_irr]
  · have h1' : ¬ a = c := fun e => h1 e.symm
    simp only [h1, h1', decide_false, Bool.false_eq_true, if_false, false_and, or_false, Bool.not_eq_true', decide_eq_false_iff_not]
    rcases stLt_tri a c with h | h | h
    · exact ⟨fun _ => h, fun _ k => stLt_irr _ (stLt_tr h k)⟩
    · exact absurd h h1'
    · exact ⟨fun k => absurd h k, fun k => absurd (stLt_tr h k) (stLt_irr _)⟩
theorem lin_tw : LinB twLe := by
  refine ⟨fun p q r h1 h2 => ?_, fun p q => ?_, fun p q h1 h2 => ?_⟩
  · rw [twLe_iff] at *
    rcases h1 with h1 | ⟨h1, h3⟩ <;> rcases h2 with h2 | ⟨h2, h4⟩
    · exact .inl (stLt_tr h1 h2)
    · exact .inl (h2 ▸ h1)
    · exact .inl (h1 ▸ h2)
    · refine .inr ⟨h1.trans h2, fun h => ?_⟩
      rcases stLt_tri q.2 r.2 with k | k | k
      · exact h3 (stLt_tr k h)
      · exact h3 (k ▸ h)
      · exact h4 k
  · rw [Bool.or_eq_true, twLe_iff, twLe_iff]
    rcases stLt_tri p.1 q.1 with h | h | h
    · exact .inl (.inl h)
    · by_cases k : stLt q.2 p.2
      · exact .inr (.inr ⟨h.symm, fun z => stLt_irr _ (stLt_tr z k)⟩)
      · exact .inl (.inr ⟨h, k⟩)
    · exact .inr (.inl h)
  · rw [twLe_iff] at *
    rcases h1 with h1 | ⟨h1, h3⟩ <;> rcases h2 with h2 | ⟨h2, h4⟩
    · exact absurd (stLt_tr h1 h2) (stLt_irr _)
    · exact absurd (h2 ▸ h1) (stLt_irr _)
    · exact absurd (h1 ▸ h2) (stLt_irr _)
    · refine Prod.ext h1 ?_
      rcases stLt_tri p.2 q.2 with k | k | k
      · exact absurd k h4
      · exact k
      · exact absurd k h3
/-! ### on the heap -/
/-- tuples stand as they stood -/
def Kpt (H H' : Hp) : Prop := ∀ b xs, H b = some (.tup xs) → H' b = some (.tup xs)
theorem Same.kpt {H H' : Hp} (e : Same H H') : Kpt H H' := fun b xs h => e _ _ h
theorem Kpt.trans {H H1 H2 : Hp} (e : Kpt H H1) (f : Kpt H1 H2) : Kpt H H2 := fun b xs h => f _ _ (e _ _ h)
theorem Kpt.refl (H : Hp) : Kpt H H := fun _ _ h => h
theorem kpt_lst {H : Hp} {q : Addr} {ys : List V} {o : HO} (h : H q = some (.lst ys)) : Kpt H (upd H q o) := fun b xs e => by
  rw [upd_ne (ne_of e h fun z => nomatch z)]
  exact e
theorem kpt_dK {H : Hp} {q : Addr} {ys : List (Key × V)} {o : HO} (h : H q = some (.dK ys)) : Kpt H (upd H q o) := fun b xs e => by
  rw [upd_ne (ne_of e h fun z => nomatch z)]
  exact e
def TwV (H : Hp) (v : V) (p : Tw) : Prop := ∃ a, v = .ref a ∧ H a = some (.tup [.str p.1, .str p.2])
abbrev TwsV (H : Hp) : List V → List Tw → Prop := Paired (TwV H)
theorem TwV.kp {H H' : Hp} {v : V} {p : Tw} (e : Kpt H H') (h : TwV H v p) : TwV H' v p := by
  obtain ⟨a, rfl, h⟩ := h
  exact ⟨a, rfl, e _ _ h⟩
theorem TwsV.kp {H H' : Hp} {xs : List V} {ps : List Tw} (e : Kpt H H') (h : TwsV H xs ps) : TwsV H' xs ps := Paired.mapP h fun _ _ h => h.kp e
theorem TwV.dp {K : PySem.W.Frag} {H : Hp} {v : V} {p : Tw} (h : TwV H v p) : Dp K H v (twD p) := by
  obtain ⟨a, rfl, h⟩ := h
  exact .tup (SqT.of h) (.cons (.str _) (.cons (.str _) .nil))
theorem TwsV.dp {K : PySem.W.Frag} {H : Hp} {xs : List V} {ps : List Tw} (h : TwsV H xs ps) : DpAll K H xs (ps.map twD) := by
  induction h with
  | nil => exact .nil
  | cons a _ ih => exact .cons a.dp ih
theorem TwsV.get {H : Hp} : ∀ {xs : List V} {ps : List Tw}, TwsV H xs ps → ∀ {i : Nat} {x : V}, xs[i]? = some x → ∃ p, ps[i]? = some p ∧ TwV H x p
  | _, _, .nil, _, _, h => by cases h
  | _, _, .cons a _, 0, _, h => by
    cases h
    exact ⟨_, rfl, a⟩
  | _, _, .cons _ t, i + 1, x, h => TwsV.get t (i := i) h
theorem TwsV.len {H : Hp} {xs : List V} {ps : List Tw} (h : TwsV H xs ps) : xs.length = ps.length := Paired.length h
theorem TwsV.app {H : Hp} : ∀ {xs : List V} {ps : List Tw}, TwsV H xs ps → ∀ {ys : List V} {qs : List Tw}, TwsV H ys qs → TwsV H (xs ++ ys) (ps ++ qs)
  | _, _, .nil, _, _, h => h
  | _, _, .cons a t, _, _, h => .cons a (TwsV.app t h)
theorem TwsV.zip {H : Hp} : ∀ {xs : List V} {ps : List Tw}, TwsV H xs ps → ∃ zs : List (V × Tw), xs = zs.map Prod.fst ∧ ps = zs.map Prod.snd ∧ ∀ z ∈ zs, TwV H z.1 z.2
  | _, _, .nil => ⟨[], rfl, rfl, fun z m => nomatch m⟩
  | _, _, .cons (a := x) (b := p) a t => by
    obtain ⟨zs, rfl, rfl, h⟩ := TwsV.zip t
    refine ⟨(x, p) :: zs, rfl, rfl, fun z m => ?_⟩
    rcases List.mem_cons.mp m with rfl | m
    · exact a
    · exact h z m
theorem TwsV.of {H : Hp} : ∀ {zs : List (V × Tw)}, (∀ z ∈ zs, TwV H z.1 z.2) → TwsV H (zs.map Prod.fst) (zs.map Prod.snd)
  | [], _ => .nil
  | z :: zs, h => .cons (h z (List.mem_cons_self ..)) (TwsV.of fun y m => h y (List.mem_cons_of_mem _ m))
theorem TwsV.perm {H : Hp} {xs ys : List V} {ps : List Tw} (h : TwsV H xs ps) (p : ys.Perm xs) : ∃ qs, TwsV H ys qs ∧ qs.Perm ps := by
  induction p generalizing ps with
  | nil => exact ⟨ps, h, .refl _⟩
  | cons x _ ih =>
    cases h with
    | cons a t =>
      obtain ⟨qs, h1, h2⟩ := ih t
      exact ⟨_ :: qs, .cons a h1, .cons _ h2⟩
  | swap x y l =>
    cases h with
    | cons a t =>
      cases t with
      | cons b t => exact ⟨_ :: _ :: _, .cons b (.cons a t), .swap _ _ _⟩
  | trans _ _ i1 i2 =>
    obtain ⟨q1, h1, h2⟩ := i2 h
    obtain ⟨q2, h3, h4⟩ := i1 h1
    exact ⟨q2, h3, h4.trans h2⟩
theorem TwsV.sub {H : Hp} {xs ys : List V} {ps : List Tw} (h : TwsV H xs ps) (p : ys.Sublist xs) : ∃ qs, TwsV H ys qs ∧ qs.Sublist ps := by
  induction p generalizing ps with
  | slnil => exact ⟨ps, h, List.Sublist.refl _⟩
  | cons x _ ih =>
    cases h with
    | cons a t =>
      obtain ⟨qs, h1, h2⟩ := ih t
      exact ⟨qs, h1, h2.cons _⟩
  | cons_cons x _ ih =>
    cases h with
    | cons a t =>
      obtain ⟨qs, h1, h2⟩ := ih t
      exact ⟨_ :: qs, .cons a h1, h2.cons_cons _⟩
theorem depth_tw (p : Tw) : (twD p).depth = 1 := by
  simp [twD, PyData.depth, PyData.depthAll]
/-! ### sorted of pairs, of texts -/
theorem sort_zip {α : Type} (enc : α → PyData) (ps : List (V × α)) : ∃ qs : List (V × α), qs.Perm ps ∧ (sortD (ps.map fun p => (p.1, enc p.2))).map Prod.fst = qs.map Prod.fst ∧ qs.map Prod.snd = (ps.map Prod.snd).mergeSort (PySem.W.dataLe false enc) := by
  refine ⟨ps.mergeSort fun p q => PySem.W.dataLe false enc p.2 q.2, List.mergeSort_perm .., ?_, List.map_mergeSort fun a _ b _ => rfl⟩
  have h : (ps.mergeSort fun p q => PySem.W.dataLe false enc p.2 q.2).map (fun p => (p.1, enc p.2)) = (ps.map fun p => (p.1, enc p.2)).mergeSort (PySem.W.dataLe false Prod.snd) := List.map_mergeSort fun a _ b _ => rfl
  rw [sortD, ← h, List.map_map]
  rfl
/-- what sorted asks, of a list of pairs -/
theorem srt_tw {K : PySem.W.Frag} {H : Hp} {a : Addr} {xs : List V} {ps : List Tw} {Q : VK} (hs : SqL K H a xs ∨ SqT K H a xs) (h : TwsV H xs ps) (q : ∀ p ys, H p = none → TwsV (upd H p (.lst ys)) ys (ps.mergeSort twLe) → Q (.ref p) (upd H p (.lst ys))) : rSortD K [.ref a] H Q := by
  obtain ⟨zs, rfl, rfl, hz⟩ := h.zip
  have e1 : (zs.map fun z => (z.1, twD z.2)).map Prod.fst = zs.map Prod.fst := by
    rw [List.map_map]
    rfl
  obtain ⟨qs, pm, e2, e3⟩ := sort_zip twD zs
  refine ⟨a, zs.map fun z => (z.1, twD z.2), rfl, by rw [e1]; exact hs, fun z m => ?_, ?_, ?_, fun p np => ?_⟩
  · obtain ⟨y, my, rfl⟩ := List.mem_map.mp m
    refine ⟨(hz y my).dp, ?_⟩
    rw [depth_tw]
    decide
  · intro d hd e he
    rw [List.map_map] at hd he
    obtain ⟨x, _, rfl⟩ := List.mem_map.mp hd
    obtain ⟨y, _, rfl⟩ := List.mem_map.mp he
    simp [twD, PySem.W.alike, PySem.W.alikeAll]
  · refine .inl fun d hd => ?_
    rw [List.map_map] at hd
    obtain ⟨x, _, rfl⟩ := List.mem_map.mp hd
    exact ⟨_, _, rfl⟩
  · rw [e2]
    refine q p _ np ?_
    have e4 : (zs.map Prod.snd).mergeSort twLe = qs.map Prod.snd := e3.symm
    rw [e4]
    exact TwsV.of fun z m => (hz z (pm.mem_iff.mp m)).kp (Same.kpt (grow np))
theorem srt_st {K : PySem.W.Frag} {H : Hp} {a : Addr} {ws : List Str} {Q : VK} (hs : SqL K H a (ws.map V.str) ∨ SqT K H a (ws.map V.str)) (q : ∀ p, H p = none → Q (.ref p) (upd H p (.lst ((ws.mergeSort stLe).map V.str)))) : rSortD K [.ref a] H Q := by
  have e1 : (ws.map fun z => (V.str z, PyData.str z)).map Prod.fst = ws.map V.str := by
    rw [List.map_map]
    rfl
  have e2 : (sortD (ws.map fun z => (V.str z, PyData.str z))).map Prod.fst = (ws.mergeSort stLe).map V.str := by
    have h : (ws.mergeSort stLe).map (fun z => (V.str z, PyData.str z)) = (ws.map fun z => (V.str z, PyData.str z)).mergeSort (PySem.W.dataLe false Prod.snd) := List.map_mergeSort fun a _ b _ => rfl
    rw [sortD, ← h, List.map_map]
    rfl
  refine ⟨a, ws.map fun z => (V.str z, PyData.str z), rfl, by rw [e1]; exact hs, fun z m => ?_, ?_, ?_, fun p np => ?_⟩
  · obtain ⟨y, _, rfl⟩ := List.mem_map.mp m
    exact ⟨.str y, Nat.zero_le _⟩
  · intro d hd e he
    rw [List.map_map] at hd he
    obtain ⟨x, _, rfl⟩ := List.mem_map.mp hd
    obtain ⟨y, _, rfl⟩ := List.mem_map.mp he
    simp [PySem.W.alike]
  · refine .inr fun d hd => ?_
    rw [List.map_map] at hd
    obtain ⟨x, _, rfl⟩ := List.mem_map.mp hd
    exact ⟨(fun e => nomatch e), fun xs e => nomatch e⟩
  · rw [e2]
    exact q p np
/-! ### in, index -/
/-- a name -/
abbrev Nm (z : Str) : Prop := nameB (.str z) = true
abbrev Nms (ws : List Str) : Prop := ∀ w ∈ ws, Nm w
abbrev NmT (ps : List Tw) : Prop := ∀ p ∈ ps, Nm p.1 ∧ Nm p.2
theorem Nm.len {z : Str} (h : Nm z) : 1 ≤ z.length ∧ z.length ≤ 8 ∧ z.cps.toList.all letC = true := by
  have h : (decide (1 ≤ z.length) && decide (z.length ≤ 8) && z.cps.toList.all letC) = true := h
  rw [Bool.and_eq_true, Bool.and_eq_true, decide_eq_true_eq, decide_eq_true_eq] at h
  exact ⟨h.1.1, h.1.2, h.2⟩
theorem Nm.ok {z : Str} (h : Nm z) : PyData.strOk z = true := by
  obtain ⟨_, _, h⟩ := h.len
  unfold PyData.strOk
  rw [← Array.all_toList, List.all_eq_true]
  intro c m
  have := List.all_eq_true.mp h c m
  unfold letC at this
  rw [Bool.and_eq_true, decide_eq_true_eq, decide_eq_true_eq] at this
  exact decide_eq_true (by omega)
theorem lay_tws : ∀ ps : List Tw, NmT ps → PyData.canLayAll0 (ps.map twD) = true
  | [], _ => by simp [PyData.canLayAll0]
  | p :: l, h => by
    have ih := lay_tws l fun q m => h q (List.mem_cons_of_mem _ m)
    have h := h p (List.mem_cons_self ..)
    simp only [List.map_cons, PyData.canLayAll0, ih, Bool.and_true]
    simp [twD, PyData.canLay0, PyData.canLayAll0, h.1.ok, h.2.ok]
theorem depth_tws : ∀ ps : List Tw, PyData.depthAll (ps.map twD) ≤ 1
  | [] => by simp [PyData.depthAll]
  | p :: l => by
    have ih := depth_tws l
    simp only [List.map_cons, PyData.depthAll, depth_tw]
    exact Nat.max_le.mpr ⟨Nat.le_refl _, ih⟩
theorem shaped_tw {p : Tw} (h : Nm p.1 ∧ Nm p.2) : SeqAt.shaped (twD p) = true := by
  unfold SeqAt.shaped
  rw [depth_tw]
  simp [twD, PyData.canLay0, PyData.canLayAll0, h.1.ok, h.2.ok]
theorem shaped_tws {ps : List Tw} (nm : NmT ps) : SeqAt.shaped (.list (ps.map twD)) = true := by
  unfold SeqAt.shaped
  have h := depth_tws ps
  have h2 : PyData.depth (.list (ps.map twD)) ≤ 64 := by
    simp only [PyData.depth]
    omega
  rw [decide_eq_true h2]
  simp only [PyData.canLay0, lay_tws ps nm, Bool.true_and]
theorem any_tw (p : Tw) (ps : List Tw) : ((ps.map twD).any fun z => PyData.eqv z (twD p)) = decide (p ∈ ps) := by
  induction ps with
  | nil => simp
  | cons q l ih =>
    rw [List.map_cons, List.any_cons, ih, eqv_tw, ← Bool.decide_or]
    exact decide_eq_decide.mpr (by rw [List.mem_cons]; exact or_congr_left eq_comm)
theorem depth_strs' : ∀ l : List Str, PyData.depthAll (l.map .str) = 0
  | [] => by simp [PyData.depthAll]
  | x :: l => by
    rw [List.map_cons]
    simp only [PyData.depthAll, depth_strs' l, PyData.depth]
    rfl
theorem lay_strs : ∀ l : List Str, Nms l → PyData.canLayAll0 (l.map .str) = true
  | [], _ => by simp [PyData.canLayAll0]
  | x :: l, h => by
    rw [List.map_cons]
    simp [PyData.canLayAll0, lay_strs l fun q m => h q (List.mem_cons_of_mem _ m), PyData.canLay0, (h x (List.mem_cons_self ..)).ok]
theorem shaped_strs {l : List Str} (nm : Nms l) : SeqAt.shaped (.list (l.map .str)) = true := by
  unfold SeqAt.shaped
  have h2 : PyData.depth (.list (l.map .str)) ≤ 64 := by
    simp only [PyData.depth, depth_strs']
    decide
  rw [decide_eq_true h2]
  simp only [PyData.canLay0, lay_strs l nm, Bool.true_and]
theorem shaped_st {z : Str} (nm : Nm z) : SeqAt.shaped (.str z) = true := by
  unfold SeqAt.shaped
  simp [PyData.depth, PyData.canLay0, nm.ok]
theorem dp_strs' {K : PySem.W.Frag} {H : Hp} : ∀ l : List Str, DpAll K H (l.map V.str) (l.map .str)
  | [] => .nil
  | x :: l => .cons (.str x) (dp_strs' l)
theorem idx_le {ws : List Str} {z : Str} : ∀ {j : Nat}, ws[j]? = some z → ws.idxOf z ≤ j := by
  induction ws with
  | nil =>
    intro j h
    cases h
  | cons a l ih =>
    intro j h
    rw [List.idxOf_cons]
    cases j with
    | zero =>
      cases h
      simp
    | succ j =>
      have := ih (j := j) h
      by_cases e : (a == z) = true
      · simp [e]
      · simp [e, this]
/-- the place of a text in a list of texts -/
theorem ix_st {K : PySem.W.Frag} {H : Hp} {a : Addr} {ws : List Str} {z : Str} {Q : VK} (nm : Nms ws) (hs : SqL K H a (ws.map V.str)) (m : z ∈ ws) (q : Q (.int (ws.idxOf z : Nat)) H) : rIndexD K (.ref a) [.str z] H Q := by
  have lt := List.idxOf_lt_length_of_mem m
  refine ⟨a, .str z, .str z, ws.map .str, ws.idxOf z, .str z, rfl, rfl, .lst hs (dp_strs' ws), .str z, shaped_strs nm, shaped_st (nm z m), ?_, ?_, fun j z' hj hz => ?_, q⟩
  · rw [List.getElem?_map, List.getElem?_eq_getElem lt, List.getElem_idxOf]
    rfl
  · rw [eqv_st]
    exact decide_eq_true rfl
  · rw [List.getElem?_map] at hz
    have hj2 : j < ws.length := by omega
    rw [List.getElem?_eq_getElem hj2] at hz
    cases hz
    rw [eqv_st]
    refine decide_eq_false fun e => ?_
    have := idx_le (show ws[j]? = some z by rw [List.getElem?_eq_getElem hj2, e])
    omega
end Fb

set_option Elab.async false
set_option linter.all false
set_option maxRecDepth 100000
set_option maxHeartbeats 4000000
/-! ways through placed roads; roads struck one by one -/
namespace Fb
open PySem PySem.Spec L2
open PyProof.Rows hiding St
/-- a way of one turn or more from s to t, all between in P -/
inductive Rch (E : List Tw) (P : Str → Prop) (s : Str) : Str → Prop
  | edge {t : Str} : (s, t) ∈ E → Rch E P s t
  | step {m t : Str} : Rch E P s m → P m → (m, t) ∈ E → Rch E P s t
theorem Rch.mono {E : List Tw} {P P' : Str → Prop} (h : ∀ x, P x → P' x) {s t : Str} (r : Rch E P s t) : Rch E P' s t := by
  induction r with
  | edge e => exact .edge e
  | step _ p e ih => exact .step ih (h _ p) e
theorem Rch.trans {E : List Tw} {P : Str → Prop} {s m t : Str} (r : Rch E P s m) (p : P m) (q : Rch E P m t) : Rch E P s t := by
  induction q with
  | edge e => exact .step r p e
  | step _ h e ih => exact .step ih h e
/-- one road more may lie between -/
theorem Rch.elim {E : List Tw} {P : Str → Prop} {w s t : Str} : Rch E (fun x => P x ∨ x = w) s t ↔ Rch E P s t ∨ (Rch E P s w ∧ Rch E P w t) := by
  constructor
  · intro r
    induction r with
    | edge e => exact .inl (.edge e)
    | step _ p e ih =>
      rcases p with p | rfl
      · rcases ih with h | ⟨h1, h2⟩
        · exact .inl (.step h p e)
        · exact .inr ⟨h1, .step h2 p e⟩
      · rcases ih with h | ⟨h1, _⟩
        · exact .inr ⟨h, .edge e⟩
        · exact .inr ⟨h1, .edge e⟩
  · rintro (h | ⟨h1, h2⟩)
    · exact h.mono fun x => .inl
    · exact (h1.mono fun x => Or.inl).trans (.inr rfl) (h2.mono fun x => Or.inl)
theorem Rch.congr {E E' : List Tw} {P P' : Str → Prop} (he : ∀ p, p ∈ E ↔ p ∈ E') (hp : ∀ x, P x ↔ P' x) {s t : Str} : Rch E P s t ↔ Rch E' P' s t := by
  constructor
  · intro r
    induction r with
    | edge e => exact .edge ((he _).mp e)
    | step _ p e ih => exact .step ih ((hp _).mp p) ((he _).mp e)
  · intro r
    induction r with
    | edge e => exact .edge ((he _).mpr e)
    | step _ p e ih => exact .step ih ((hp _).mpr p) ((he _).mpr e)
theorem Rch.ends {E : List Tw} {P : Str → Prop} {s t : Str} (r : Rch E P s t) : (∃ y, (s, y) ∈ E) ∧ ∃ x, (x, t) ∈ E := by
  induction r with
  | edge e => exact ⟨⟨_, e⟩, _, e⟩
  | step _ _ e ih => exact ⟨ih.1, _, e⟩
theorem nd1 {α : Type} {x : α} : [x].Nodup := by simp
/-! ### the state of links -/
structure LS where
  ins : Str → List Str
  outs : Str → List Str
  found : List Tw
def LS.link (S : LS) (s t : Str) : LS := if t ∈ S.outs s then S else
  ⟨fun r => if r = t then S.ins t ++ [s] else S.ins r, fun r => if r = s then S.outs s ++ [t] else S.outs r, S.found ++ [(s, t)]⟩
def LS.drop (S : LS) (w : Str) : LS := ⟨fun r => (S.ins r).filter fun x => decide (x ≠ w), fun r => (S.outs r).filter fun x => decide (x ≠ w), S.found⟩
def LS.link2 (S : LS) (s t : Str) : LS := if s = t then S else S.link s t
def LS.row (S : LS) (s : Str) (ts : List Str) : LS := ts.foldl (fun S t => S.link2 s t) S
def LS.all (S : LS) (ss ts : List Str) : LS := ss.foldl (fun S s => S.row s ts) S
def LS.settle (S : LS) (w : Str) : LS := (S.drop w).all (S.ins w) (S.outs w)
/-- what holds of it: ws all roads, live those that are not struck -/
structure LS.Ok (S : LS) (ws live : List Str) : Prop where
  ndi : ∀ r ∈ live, (S.ins r).Nodup
  ndo : ∀ r ∈ live, (S.outs r).Nodup
  back : ∀ s ∈ live, ∀ t ∈ live, s ∈ S.ins t ↔ t ∈ S.outs s
  ini : ∀ r ∈ live, ∀ s ∈ S.ins r, s ∈ live ∧ s ≠ r
  ino : ∀ r ∈ live, ∀ s ∈ S.outs r, s ∈ live ∧ s ≠ r
  ndf : S.found.Nodup
  inf : ∀ p ∈ S.found, p.1 ∈ ws ∧ p.2 ∈ ws ∧ p.1 ≠ p.2
  fo : ∀ s ∈ live, ∀ t ∈ live, (s, t) ∈ S.found ↔ t ∈ S.outs s
theorem LS.link_t {S : LS} {s t : Str} (h : t ∈ S.outs s) : S.link s t = S := if_pos h
theorem LS.link_f {S : LS} {s t : Str} (h : ¬ t ∈ S.outs s) : S.link s t = ⟨fun r => if r = t then S.ins t ++ [s] else S.ins r, fun r => if r = s then S.outs s ++ [t] else S.outs r, S.found ++ [(s, t)]⟩ := if_neg h
/-- what is out of s behind a link -/
theorem LS.link_outs {S : LS} {s t r x : Str} : x ∈ (S.link s t).outs r ↔ x ∈ S.outs r ∨ (r = s ∧ x = t) := by
  by_cases h : t ∈ S.outs s
  · rw [LS.link_t h]
    exact ⟨.inl, fun z => z.elim id fun ⟨e1, e2⟩ => by rw [e1, e2]; exact h⟩
  · rw [LS.link_f h]
    show x ∈ (if r = s then S.outs s ++ [t] else S.outs r) ↔ _
    by_cases e : r = s
    · rw [if_pos e, List.mem_append, List.mem_singleton, e]
      simp
    · rw [if_neg e]
      simp [e]
theorem LS.link_found {S : LS} {s t : Str} {p : Tw} : p ∈ (S.link s t).found ↔ p ∈ S.found ∨ (¬ t ∈ S.outs s ∧ p = (s, t)) := by
  by_cases h : t ∈ S.outs s
  · rw [LS.link_t h]
    simp [h]
  · rw [LS.link_f h]
    show p ∈ S.found ++ [(s, t)] ↔ _
    rw [List.mem_append, List.mem_singleton]
    simp [h]
theorem LS.Ok.link {S : LS} {ws live : List Str} (h : S.Ok ws live) (sub : ∀ r ∈ live, r ∈ ws) {s t : Str} (hs : s ∈ live) (ht : t ∈ live) (ne : s ≠ t) : (S.link s t).Ok ws live := by
  by_cases c : t ∈ S.outs s
  · rw [LS.link_t c]
    exact h
  · have nst : s ∉ S.ins t := fun m => c ((h.back s hs t ht).mp m)
    have nf : (s, t) ∉ S.found := fun m => c ((h.fo s hs t ht).mp m)
    have mi : ∀ r x, x ∈ (if r = t then S.ins t ++ [s] else S.ins r) ↔ x ∈ S.ins r ∨ (r = t ∧ x = s) := by
      intro r x
      by_cases e : r = t
      · rw [if_pos e, List.mem_append, List.mem_singleton, e]
        simp
      · rw [if_neg e]
        simp [e]
    have mo : ∀ r x, x ∈ (if r = s then S.outs s ++ [t] else S.outs r) ↔ x ∈ S.outs r ∨ (r = s ∧ x = t) := by
      intro r x
      by_cases e : r = s
      · rw [if_pos e, List.mem_append, List.mem_singleton, e]
        simp
      · rw [if_neg e]
        simp [e]
    rw [LS.link_f c]
    refine ⟨fun r hr => ?_, fun r hr => ?_, fun a ha b hb => ?_, fun r hr x m => ?_, fun r hr x m => ?_, ?_, fun p m => ?_, fun a ha b hb => ?_⟩
    · show (if r = t then S.ins t ++ [s] else S.ins r).Nodup
      by_cases e : r = t
      · rw [if_pos e]
        exact List.nodup_append.mpr ⟨h.ndi t ht, nd1, fun x hx y hy => by rw [List.mem_singleton.mp hy]; exact fun z => nst (z ▸ hx)⟩
      · rw [if_neg e]
        exact h.ndi r hr
    · show (if r = s then S.outs s ++ [t] else S.outs r).Nodup
      by_cases e : r = s
      · rw [if_pos e]
        exact List.nodup_append.mpr ⟨h.ndo s hs, nd1, fun x hx y hy => by rw [List.mem_singleton.mp hy]; exact fun z => c (z ▸ hx)⟩
      · rw [if_neg e]
        exact h.ndo r hr
    · show a ∈ (if b = t then S.ins t ++ [s] else S.ins b) ↔ b ∈ (if a = s then S.outs s ++ [t] else S.outs a)
      rw [mi, mo, h.back a ha b hb]
      exact or_congr_right and_comm
    · rcases (mi r x).mp m with m | ⟨rfl, rfl⟩
      · exact h.ini r hr x m
      · exact ⟨hs, ne⟩
    · rcases (mo r x).mp m with m | ⟨rfl, rfl⟩
      · exact h.ino r hr x m
      · exact ⟨ht, ne.symm⟩
    · exact List.nodup_append.mpr ⟨h.ndf, nd1, fun x hx y hy => by rw [List.mem_singleton.mp hy]; exact fun z => nf (z ▸ hx)⟩
    · rcases List.mem_append.mp m with m | m
      · exact h.inf p m
      · rw [List.mem_singleton.mp m]
        exact ⟨sub s hs, sub t ht, ne⟩
    · show (a, b) ∈ S.found ++ [(s, t)] ↔ b ∈ (if a = s then S.outs s ++ [t] else S.outs a)
      rw [mo, List.mem_append, h.fo a ha b hb, List.mem_singleton]
      exact or_congr_right ⟨fun e => by cases e; exact ⟨rfl, rfl⟩, fun ⟨e1, e2⟩ => by rw [e1, e2]⟩
theorem LS.Ok.link2 {S : LS} {ws live : List Str} (h : S.Ok ws live) (sub : ∀ r ∈ live, r ∈ ws) {s t : Str} (hs : s ∈ live) (ht : t ∈ live) : (S.link2 s t).Ok ws live := by
  unfold LS.link2
  by_cases e : s = t
  · rw [if_pos e]
    exact h
  · rw [if_neg e]
    exact h.link sub hs ht e
theorem LS.link2_outs {S : LS} {s t r x : Str} : x ∈ (S.link2 s t).outs r ↔ x ∈ S.outs r ∨ (r = s ∧ x = t ∧ s ≠ t) := by
  unfold LS.link2
  by_cases e : s = t
  · rw [if_pos e]
    simp [e]
  · rw [if_neg e, LS.link_outs]
    simp [e]
theorem LS.link2_found {S : LS} {s t : Str} {p : Tw} : (p ∈ S.found → p ∈ (S.link2 s t).found) ∧ (p ∈ (S.link2 s t).found → p ∈ S.found ∨ p = (s, t)) := by
  unfold LS.link2
  by_cases e : s = t
  · rw [if_pos e]
    exact ⟨id, .inl⟩
  · rw [if_neg e]
    exact ⟨fun m => LS.link_found.mpr (.inl m), fun m => (LS.link_found.mp m).imp_right And.right⟩
theorem LS.row_found {s : Str} {p : Tw} : ∀ (ts : List Str) {S : LS}, (p ∈ S.found → p ∈ (S.row s ts).found) ∧ (p ∈ (S.row s ts).found → p ∈ S.found ∨ (p.1 = s ∧ p.2 ∈ ts))
  | [], S => ⟨id, .inl⟩
  | t :: ts, S => by
    obtain ⟨i1, i2⟩ := LS.row_found (s := s) (p := p) ts (S := S.link2 s t)
    refine ⟨fun m => i1 (LS.link2_found.1 m), fun m => ?_⟩
    rcases i2 m with m | ⟨e, m⟩
    · rcases LS.link2_found.2 m with m | rfl
      · exact .inl m
      · exact .inr ⟨rfl, List.mem_cons_self ..⟩
    · exact .inr ⟨e, List.mem_cons_of_mem _ m⟩
theorem LS.all_found {ts : List Str} {p : Tw} : ∀ (ss : List Str) {S : LS}, (p ∈ S.found → p ∈ (S.all ss ts).found) ∧ (p ∈ (S.all ss ts).found → p ∈ S.found ∨ (p.1 ∈ ss ∧ p.2 ∈ ts))
  | [], S => ⟨id, .inl⟩
  | s :: ss, S => by
    obtain ⟨i1, i2⟩ := LS.all_found (ts := ts) (p := p) ss (S := S.row s ts)
    refine ⟨fun m => i1 ((LS.row_found ts).1 m), fun m => ?_⟩
    rcases i2 m with m | ⟨m1, m2⟩
    · rcases (LS.row_found ts).2 m with m | ⟨e, m⟩
      · exact .inl m
      · exact .inr ⟨e ▸ List.mem_cons_self .., m⟩
    · exact .inr ⟨List.mem_cons_of_mem _ m1, m2⟩
theorem LS.row_ok {ws live : List Str} (sub : ∀ r ∈ live, r ∈ ws) {s : Str} (hs : s ∈ live) : ∀ (ts : List Str) {S : LS}, S.Ok ws live → (∀ t ∈ ts, t ∈ live) → (S.row s ts).Ok ws live ∧ ∀ r x, x ∈ (S.row s ts).outs r ↔ x ∈ S.outs r ∨ (r = s ∧ x ∈ ts ∧ s ≠ x)
  | [], S, h, _ => ⟨h, fun r x => by simp [LS.row]⟩
  | t :: ts, S, h, ht => by
    obtain ⟨i1, i2⟩ := LS.row_ok sub hs ts (h.link2 sub hs (ht t (List.mem_cons_self ..))) fun u m => ht u (List.mem_cons_of_mem _ m)
    refine ⟨i1, fun r x => ?_⟩
    show x ∈ ((S.link2 s t).row s ts).outs r ↔ _
    rw [i2, LS.link2_outs, or_assoc]
    refine or_congr_right ⟨?_, ?_⟩
    · rintro (⟨e1, rfl, e3⟩ | ⟨e1, m, e3⟩)
      · exact ⟨e1, List.mem_cons_self .., e3⟩
      · exact ⟨e1, List.mem_cons_of_mem _ m, e3⟩
    · rintro ⟨e1, m, e3⟩
      rcases List.mem_cons.mp m with rfl | m
      · exact .inl ⟨e1, rfl, e3⟩
      · exact .inr ⟨e1, m, e3⟩
theorem LS.all_ok {ws live : List Str} (sub : ∀ r ∈ live, r ∈ ws) {ts : List Str} (ht : ∀ t ∈ ts, t ∈ live) : ∀ (ss : List Str) {S : LS}, S.Ok ws live → (∀ s ∈ ss, s ∈ live) → (S.all ss ts).Ok ws live ∧ ∀ r x, x ∈ (S.all ss ts).outs r ↔ x ∈ S.outs r ∨ (r ∈ ss ∧ x ∈ ts ∧ r ≠ x)
  | [], S, h, _ => ⟨h, fun r x => by simp [LS.all]⟩
  | s :: ss, S, h, hs => by
    obtain ⟨j1, j2⟩ := LS.row_ok sub (hs s (List.mem_cons_self ..)) ts h ht
    obtain ⟨i1, i2⟩ := LS.all_ok sub ht ss j1 fun u m => hs u (List.mem_cons_of_mem _ m)
    refine ⟨i1, fun r x => ?_⟩
    show x ∈ ((S.row s ts).all ss ts).outs r ↔ _
    rw [i2, j2, or_assoc]
    refine or_congr_right ⟨?_, ?_⟩
    · rintro (⟨rfl, m, e3⟩ | ⟨m1, m, e3⟩)
      · exact ⟨List.mem_cons_self .., m, e3⟩
      · exact ⟨List.mem_cons_of_mem _ m1, m, e3⟩
    · rintro ⟨m1, m, e3⟩
      rcases List.mem_cons.mp m1 with rfl | m1
      · exact .inl ⟨rfl, m, e3⟩
      · exact .inr ⟨m1, m, e3⟩
theorem LS.Ok.drop {S : LS} {ws live : List Str} (h : S.Ok ws live) (w : Str) (nd : live.Nodup) : (S.drop w).Ok ws (live.erase w) := by
  have ml : ∀ {r}, r ∈ live.erase w → r ∈ live ∧ r ≠ w := fun m => by
    have := (nd.mem_erase_iff).mp m
    exact ⟨this.2, this.1⟩
  have lm : ∀ {r}, r ∈ live → r ≠ w → r ∈ live.erase w := fun m n => (nd.mem_erase_iff).mpr ⟨n, m⟩
  refine ⟨fun r hr => (h.ndi r (ml hr).1).filter _, fun r hr => (h.ndo r (ml hr).1).filter _, fun a ha b hb => ?_, fun r hr x m => ?_, fun r hr x m => ?_, h.ndf, h.inf, fun a ha b hb => ?_⟩
  · show a ∈ (S.ins b).filter _ ↔ b ∈ (S.outs a).filter _
    rw [List.mem_filter, List.mem_filter, h.back a (ml ha).1 b (ml hb).1, decide_eq_true (ml ha).2, decide_eq_true (ml hb).2]
  · obtain ⟨m1, m2⟩ := List.mem_filter.mp m
    obtain ⟨k1, k2⟩ := h.ini r (ml hr).1 x m1
    exact ⟨lm k1 (of_decide_eq_true m2), k2⟩
  · obtain ⟨m1, m2⟩ := List.mem_filter.mp m
    obtain ⟨k1, k2⟩ := h.ino r (ml hr).1 x m1
    exact ⟨lm k1 (of_decide_eq_true m2), k2⟩
  · show (a, b) ∈ S.found ↔ b ∈ (S.outs a).filter _
    rw [List.mem_filter, h.fo a (ml ha).1 b (ml hb).1, decide_eq_true (ml hb).2]
    simp
theorem LS.Ok.settle {S : LS} {ws live : List Str} (h : S.Ok ws live) (sub : ∀ r ∈ live, r ∈ ws) (nd : live.Nodup) {w : Str} (hw : w ∈ live) : (S.settle w).Ok ws (live.erase w) ∧
    ∀ r x, r ∈ live.erase w → (x ∈ (S.settle w).outs r ↔ (x ∈ S.outs r ∧ x ≠ w) ∨ (w ∈ S.outs r ∧ x ∈ S.outs w ∧ r ≠ x)) := by
  have lm : ∀ {r}, r ∈ live → r ≠ w → r ∈ live.erase w := fun m n => (nd.mem_erase_iff).mpr ⟨n, m⟩
  obtain ⟨i1, i2⟩ := LS.all_ok (S := S.drop w) (fun r m => sub r (List.mem_of_mem_erase m)) (ts := S.outs w) (fun t m => lm (h.ino w hw t m).1 (h.ino w hw t m).2) (S.ins w) (h.drop w nd) fun s m => lm (h.ini w hw s m).1 (h.ini w hw s m).2
  refine ⟨i1, fun r x hr => ?_⟩
  show x ∈ ((S.drop w).all (S.ins w) (S.outs w)).outs r ↔ _
  rw [i2]
  show x ∈ (S.outs r).filter _ ∨ _ ↔ _
  rw [List.mem_filter, decide_eq_true_eq, h.back r (List.mem_of_mem_erase hr) w hw]
/-- what is linked, by the ways through the placed roads -/
structure LS.Sem (S : LS) (E : List Tw) (ws order : List Str) (k : Nat) : Prop where
  so : ∀ s, s ∈ ws → s ∉ order.take k → ∀ t, t ∈ ws → t ∉ order.take k → (t ∈ S.outs s ↔ s ≠ t ∧ Rch E (fun x => x ∈ order.take k) s t)
  sf : ∀ s t, (s, t) ∈ S.found ↔ s ∈ ws ∧ t ∈ ws ∧ s ≠ t ∧ Rch E (fun x => x ∈ order.take (min k (min (order.idxOf s) (order.idxOf t)))) s t
theorem take_idx {order : List Str} (nd : order.Nodup) {s : Str} (m : s ∈ order) (k : Nat) : s ∈ order.take k ↔ order.idxOf s < k := by
  have lt := List.idxOf_lt_length_of_mem m
  constructor
  · intro h
    obtain ⟨i, h1, h2⟩ := List.getElem_of_mem h
    rw [List.length_take] at h1
    rw [List.getElem_take] at h2
    have e : order.idxOf s = i := by
      rw [← h2]
      exact nd.idxOf_getElem i (by omega)
    omega
  · intro h
    have : (order.take k)[order.idxOf s]? = some s := by
      rw [List.getElem?_take_of_lt h, List.getElem?_eq_getElem lt, List.getElem_idxOf]
    exact List.mem_of_getElem? this
theorem take_more {order : List Str} {k : Nat} {w : Str} (h : order[k]? = some w) {x : Str} : x ∈ order.take (k + 1) ↔ x ∈ order.take k ∨ x = w := by
  rw [List.take_add_one, h, List.mem_append]
  simp
theorem LS.Sem.step {S : LS} {E : List Tw} {ws order live : List Str} {k : Nat} {w : Str} (h : S.Sem E ws order k) (ok : S.Ok ws live) (ndl : live.Nodup) (ml : ∀ r, r ∈ live ↔ r ∈ ws ∧ r ∉ order.take k) (nd : order.Nodup) (mo : ∀ r, r ∈ order ↔ r ∈ ws) (hw : order[k]? = some w) :
    w ∈ live ∧ (S.settle w).Ok ws (live.erase w) ∧ (∀ r, r ∈ live.erase w ↔ r ∈ ws ∧ r ∉ order.take (k + 1)) ∧ (S.settle w).Sem E ws order (k + 1) := by
  have wo := List.mem_of_getElem? hw
  have wi : order.idxOf w = k := by
    obtain ⟨lt, e⟩ := List.getElem?_eq_some_iff.mp hw
    rw [← e]
    exact nd.idxOf_getElem k lt
  have wl : w ∈ live := (ml w).mpr ⟨(mo w).mp wo, fun m => by
    have := (take_idx nd wo k).mp m
    omega⟩
  have sub : ∀ r ∈ live, r ∈ ws := fun r m => ((ml r).mp m).1
  obtain ⟨o1, o2⟩ := ok.settle sub ndl wl
  have ml2 : ∀ r, r ∈ live.erase w ↔ r ∈ ws ∧ r ∉ order.take (k + 1) := by
    intro r
    rw [ndl.mem_erase_iff, ml, take_more hw, not_or]
    exact ⟨fun ⟨a, b, c⟩ => ⟨b, c, a⟩, fun ⟨b, c, a⟩ => ⟨a, b, c⟩⟩
  have so2 : ∀ s, s ∈ ws → s ∉ order.take (k + 1) → ∀ t, t ∈ ws → t ∉ order.take (k + 1) → (t ∈ (S.settle w).outs s ↔ s ≠ t ∧ Rch E (fun x => x ∈ order.take (k + 1)) s t) := by
    intro s hs ns t ht nt
    have ns' := ns
    have nt' := nt
    rw [take_more hw, not_or] at ns' nt'
    obtain ⟨ns1, ns2⟩ := ns'
    obtain ⟨nt1, nt2⟩ := nt'
    have ww := (ml w).mp wl
    rw [o2 s t ((ml2 s).mpr ⟨hs, ns⟩), h.so s hs ns1 t ht nt1, h.so s hs ns1 w ww.1 ww.2, h.so w ww.1 ww.2 t ht nt1, Rch.congr (fun _ => Iff.rfl) (fun x => take_more hw), Rch.elim]
    constructor
    · rintro (⟨⟨a, b⟩, c⟩ | ⟨⟨a, b⟩, ⟨c, d⟩, e⟩)
      · exact ⟨a, .inl b⟩
      · exact ⟨e, .inr ⟨b, d⟩⟩
    · rintro ⟨a, b | ⟨b, c⟩⟩
      · exact .inl ⟨⟨a, b⟩, nt2⟩
      · exact .inr ⟨⟨ns2, b⟩, ⟨fun z => nt2 z.symm, c⟩, a⟩
  refine ⟨wl, o1, ml2, so2, fun s t => ?_⟩
  by_cases c : s ∈ live.erase w ∧ t ∈ live.erase w
  · obtain ⟨c1, c2⟩ := c
    have a1 := (ml2 s).mp c1
    have a2 := (ml2 t).mp c2
    have i1 : ¬ order.idxOf s < k + 1 := fun z => a1.2 ((take_idx nd ((mo s).mpr a1.1) (k + 1)).mpr z)
    have i2 : ¬ order.idxOf t < k + 1 := fun z => a2.2 ((take_idx nd ((mo t).mpr a2.1) (k + 1)).mpr z)
    rw [o1.fo s c1 t c2, so2 s a1.1 a1.2 t a2.1 a2.2, show min (k + 1) (min (order.idxOf s) (order.idxOf t)) = k + 1 by omega]
    exact ⟨fun z => ⟨a1.1, a2.1, z.1, z.2⟩, fun z => ⟨z.2.2.1, z.2.2.2⟩⟩
  · have e1 : (s, t) ∈ (S.settle w).found ↔ (s, t) ∈ S.found := by
      have af := LS.all_found (ts := S.outs w) (p := (s, t)) (S.ins w) (S := S.drop w)
      refine ⟨fun m => ?_, fun m => af.1 m⟩
      rcases af.2 m with m | ⟨m1, m2⟩
      · exact m
      · refine absurd ⟨?_, ?_⟩ c
        · have := ok.ini w wl s m1
          exact (ndl.mem_erase_iff).mpr ⟨this.2, this.1⟩
        · have := ok.ino w wl t m2
          exact (ndl.mem_erase_iff).mpr ⟨this.2, this.1⟩
    rw [e1, h.sf]
    refine and_congr_right fun ws1 => and_congr_right fun wt1 => ?_
    have e2 : min (k + 1) (min (order.idxOf s) (order.idxOf t)) = min k (min (order.idxOf s) (order.idxOf t)) := by
      by_cases d : s ∈ live.erase w
      · have nt : t ∉ live.erase w := fun z => c ⟨d, z⟩
        have : t ∈ order.take (k + 1) := Classical.byContradiction fun z => nt ((ml2 t).mpr ⟨wt1, z⟩)
        have := (take_idx nd ((mo t).mpr wt1) (k + 1)).mp this
        omega
      · have : s ∈ order.take (k + 1) := Classical.byContradiction fun z => d ((ml2 s).mpr ⟨ws1, z⟩)
        have := (take_idx nd ((mo s).mpr ws1) (k + 1)).mp this
        omega
    rw [e2]
/-! ### the beginning -/
def LS0 : LS := ⟨fun _ => [], fun _ => [], []⟩
def LS.of (E : List Tw) : LS := E.foldl (fun S p => S.link p.1 p.2) LS0
theorem ls0_ok {ws : List Str} : LS0.Ok ws ws := by
  refine ⟨fun r _ => List.nodup_nil, fun r _ => List.nodup_nil, fun s _ t _ => ?_, fun r _ s m => ?_, fun r _ s m => ?_, List.nodup_nil, fun p m => ?_, fun s _ t _ => ?_⟩
  · exact ⟨fun m => (nomatch (show s ∈ ([] : List Str) from m)), fun m => (nomatch (show t ∈ ([] : List Str) from m))⟩
  · exact nomatch (show s ∈ ([] : List Str) from m)
  · exact nomatch (show s ∈ ([] : List Str) from m)
  · exact nomatch (show p ∈ ([] : List Tw) from m)
  · exact ⟨fun m => (nomatch (show (s, t) ∈ ([] : List Tw) from m)), fun m => (nomatch (show t ∈ ([] : List Str) from m))⟩
theorem LS.fold_ok {ws : List Str} : ∀ (E : List Tw) {S : LS}, S.Ok ws ws → (∀ p ∈ E, p.1 ∈ ws ∧ p.2 ∈ ws ∧ p.1 ≠ p.2) → (E.foldl (fun S p => S.link p.1 p.2) S).Ok ws ws ∧ ∀ s t, t ∈ (E.foldl (fun S p => S.link p.1 p.2) S).outs s ↔ t ∈ S.outs s ∨ (s, t) ∈ E
  | [], S, h, _ => ⟨h, fun s t => by simp⟩
  | p :: E, S, h, hE => by
    obtain ⟨p1, p2, p3⟩ := hE p (List.mem_cons_self ..)
    obtain ⟨i1, i2⟩ := LS.fold_ok E (h.link (fun _ m => m) p1 p2 p3) fun q m => hE q (List.mem_cons_of_mem _ m)
    refine ⟨i1, fun s t => ?_⟩
    rw [List.foldl_cons, i2, LS.link_outs, or_assoc, List.mem_cons]
    refine or_congr_right (or_congr_left ⟨fun ⟨a, b⟩ => by rw [a, b], fun e => by cases e; exact ⟨rfl, rfl⟩⟩)
theorem LS.of_ok {ws : List Str} {E : List Tw} (hE : ∀ p ∈ E, p.1 ∈ ws ∧ p.2 ∈ ws ∧ p.1 ≠ p.2) (order : List Str) : (LS.of E).Ok ws ws ∧ (LS.of E).Sem E ws order 0 := by
  obtain ⟨i1, i2⟩ := LS.fold_ok E ls0_ok hE
  have out : ∀ s t, t ∈ (LS.of E).outs s ↔ (s, t) ∈ E := fun s t => by
    rw [LS.of, i2]
    exact ⟨fun z => z.elim (fun z => nomatch (show t ∈ ([] : List Str) from z)) id, .inr⟩
  have rch : ∀ s t, Rch E (fun x => x ∈ order.take 0) s t ↔ (s, t) ∈ E := fun s t => by
    refine ⟨fun r => ?_, .edge⟩
    cases r with
    | edge e => exact e
    | step _ p _ =>
      rw [List.take_zero] at p
      cases p
  refine ⟨i1, fun s _ _ t _ _ => ?_, fun s t => ?_⟩
  · rw [out, rch]
    exact ⟨fun m => ⟨(hE _ m).2.2, m⟩, And.right⟩
  · rw [Nat.zero_min, rch]
    constructor
    · intro m
      obtain ⟨m1, m2, m3⟩ := i1.inf _ m
      exact ⟨m1, m2, m3, (out s t).mp ((i1.fo s m1 t m2).mp m)⟩
    · rintro ⟨m1, m2, _, m3⟩
      exact (i1.fo s m1 t m2).mpr ((out s t).mpr m3)
end Fb

set_option Elab.async false
set_option linter.all false
set_option maxRecDepth 100000
set_option maxHeartbeats 4000000
/-! shapes and links on the heap -/
namespace Fb
open PySem PySem.Spec L2
open PyProof.Rows hiding St
def nmK (r : Str) : Key := .inr r
def twK (p : Tw) : List Key := [.inr p.1, .inr p.2]
theorem twK_V (p : Tw) : (twK p).map kV = [V.str p.1, V.str p.2] := rfl
theorem twK_inj {p q : Tw} (h : twK p = twK q) : p = q := by
  obtain ⟨a, b⟩ := p
  obtain ⟨c, d⟩ := q
  injection h with h1 h2
  injection h2 with h2 _
  injection h1 with h1
  injection h2 with h2
  exact Prod.ext h1 h2
def shF (F T L : Addr) : List (Str × V) := [("_following", .ref F), ("_turns", .ref T), ("_leading", .ref L)]
/-- where one goes on to from r, by ps; from where one comes -/
def folT (ps : List Tw) (r : Str) : List Str := (ps.filter fun p => decide (p.1 = r)).map Prod.snd
def ledT (ps : List Tw) (r : Str) : List Str := (ps.filter fun p => decide (p.2 = r)).map Prod.fst
/-- a dict of names to objects -/
def refD (l : List Str) (f : Str → Addr) : List (Key × V) := l.map fun r => (nmK r, .ref (f r))
structure ShLists (H : Hp) (L : Addr) (ws : List Str) (ps : List Tw) (fvs : List (Key × V)) (f1 f2 : Str → Addr) : Prop where
  fv : fvs = refD ws f1
  hL : H L = some (.dK (refD ws f2))
  h1 : ∀ r ∈ ws, H (f1 r) = some (.lst ((folT ps r).map V.str))
  h2 : ∀ r ∈ ws, H (f2 r) = some (.lst ((ledT ps r).map V.str))
def ShapeAt (C : Addr) (H : Hp) (x : Addr) (ws : List Str) (ps : List Tw) : Prop := ∃ dx F T L fvs tvs, H x = some (.ins C dx (shF F T L)) ∧
  H F = some (.dK fvs) ∧ fvs.map Prod.fst = ws.map nmK ∧ H T = some (.dT tvs) ∧ tvs.map Prod.fst = ps.map twK ∧ ∃ f1 f2, ShLists H L ws ps fvs f1 f2
theorem ShLists.keep {H H' : Hp} {L : Addr} {ws : List Str} {ps : List Tw} {fvs : List (Key × V)} {f1 f2 : Str → Addr} (h : ShLists H L ws ps fvs f1 f2) (e : ∀ b o, (∀ C dx fs, o ≠ .ins C dx fs) → H b = some o → H' b = some o) : ShLists H' L ws ps fvs f1 f2 :=
  ⟨h.fv, e _ _ (fun _ _ _ z => nomatch z) h.hL, fun r m => e _ _ (fun _ _ _ z => nomatch z) (h.h1 r m), fun r m => e _ _ (fun _ _ _ z => nomatch z) (h.h2 r m)⟩
theorem ShapeAt.mono {C : Addr} {H H' : Hp} {x : Addr} {ws : List Str} {ps : List Tw} (h : ShapeAt C H x ws ps) (e : Same H H') : ShapeAt C H' x ws ps := by
  obtain ⟨dx, F, T, L, fvs, tvs, h1, h2, h3, h4, h5, f1, f2, h6⟩ := h
  exact ⟨dx, F, T, L, fvs, tvs, e _ _ h1, e _ _ h2, h3, e _ _ h4, h5, f1, f2, h6.keep fun b o _ q => e _ _ q⟩
theorem val_some {κ : Type} [DecidableEq κ] {kvs : List (κ × V)} {k : κ} : (valV kvs k).isSome = decide (k ∈ kvs.map Prod.fst) := by
  rw [← valV_any, Bool.eq_iff_iff, decide_eq_true_eq, List.any_eq_true, List.mem_map]
  constructor
  · rintro ⟨x, m, e⟩
    exact ⟨x, m, of_decide_eq_true e⟩
  · rintro ⟨x, m, e⟩
    exact ⟨x, m, decide_eq_true e⟩
theorem mem_nm {ws : List Str} {z : Str} : (Sum.inr z : Key) ∈ ws.map nmK ↔ z ∈ ws := by
  constructor
  · intro m
    obtain ⟨y, m, e⟩ := List.mem_map.mp m
    injection e with e
    exact e ▸ m
  · intro m
    exact List.mem_map.mpr ⟨z, m, rfl⟩
theorem val_in {kvs : List (Key × V)} {ws : List Str} (h : kvs.map Prod.fst = ws.map nmK) (z : Str) : (valV kvs (Sum.inr z)).isSome = decide (z ∈ ws) := by
  rw [val_some]
  refine decide_eq_decide.mpr ?_
  rw [h]
  exact mem_nm
theorem keys_nm {fvs : List (Key × V)} {ws : List Str} (h : fvs.map Prod.fst = ws.map nmK) : (fvs.map fun kv => kV kv.1) = ws.map V.str := by
  have e : (fvs.map fun kv => kV kv.1) = (fvs.map Prod.fst).map kV := by
    rw [List.map_map]
    rfl
  rw [e, h, List.map_map]
  rfl
theorem keys_tw {H : Hp} : ∀ {tvs : List (List Key × V)} {ps : List Tw} {bs : List Addr}, tvs.map Prod.fst = ps.map twK → IsKeys H tvs bs → TwsV H (bs.map V.ref) ps
  | [], [], _, _, h => by
    cases h
    exact .nil
  | [], _ :: _, _, e, _ => nomatch e
  | _ :: _, [], _, e, _ => nomatch e
  | t :: tvs, p :: ps, _, e, h => by
    cases h with
    | cons a b =>
      rw [List.map_cons, List.map_cons] at e
      injection e with e1 e2
      refine .cons ⟨_, rfl, ?_⟩ (keys_tw e2 b)
      rw [e1] at a
      exact a
/-- the dict {s: True for s in l} -/
def setD (l : List Str) : List (Key × V) := l.map fun s => (nmK s, .bl true)
theorem setD_keys (l : List Str) : (setD l).map Prod.fst = l.map nmK := by
  unfold setD
  rw [List.map_map]
  rfl
theorem setD_len (l : List Str) : (setD l).length = l.length := List.length_map ..
theorem setD_some (l : List Str) (z : Str) : (valV (setD l) (nmK z)).isSome = decide (z ∈ l) := by
  rw [val_some, setD_keys]
  exact decide_eq_decide.mpr mem_nm
theorem setD_put {l : List Str} {z : Str} (h : z ∉ l) : putK (setD l) (nmK z) (.bl true) = setD (l ++ [z]) := by
  have e : valV (setD l) (nmK z) = none := by
    cases c : valV (setD l) (nmK z) with
    | none => rfl
    | some v =>
      have := setD_some l z
      rw [c, decide_eq_false h] at this
      cases this
  rw [putK_new _ e]
  unfold setD
  rw [List.map_append]
  rfl
theorem setD_drop (l : List Str) (z : Str) : dropK (setD l) (nmK z) = setD (l.filter fun x => decide (x ≠ z)) := by
  unfold dropK setD
  rw [List.filter_map]
  refine congrArg (List.map _) (congrArg (fun f => List.filter f l) ?_)
  funext x
  show decide (nmK x ≠ nmK z) = decide (x ≠ z)
  exact decide_eq_decide.mpr (not_congr ⟨fun e => by injection e, fun e => by rw [e]⟩)
theorem setD_val {l : List Str} {z : Str} (h : z ∈ l) : valV (setD l) (nmK z) = some (.bl true) := by
  induction l with
  | nil => cases h
  | cons a l ih =>
    show valV ((nmK a, .bl true) :: setD l) (nmK z) = _
    by_cases e : a = z
    · exact valV_pos (p := (nmK a, V.bl true)) (by rw [e])
    · rw [valV_neg (p := (nmK a, V.bl true)) (fun q => e (by injection q))]
      rcases List.mem_cons.mp h with h | h
      · exact absurd h.symm e
      · exact ih h
theorem refD_keys (l : List Str) (f : Str → Addr) : (refD l f).map Prod.fst = l.map nmK := by
  unfold refD
  rw [List.map_map]
  rfl
theorem refD_val {l : List Str} {f : Str → Addr} {z : Str} (h : z ∈ l) : valV (refD l f) (nmK z) = some (.ref (f z)) := by
  induction l with
  | nil => cases h
  | cons a l ih =>
    show valV ((nmK a, .ref (f a)) :: refD l f) (nmK z) = _
    by_cases e : a = z
    · rw [e]
      exact valV_pos (p := (nmK z, V.ref (f z))) rfl
    · rw [valV_neg (p := (nmK a, V.ref (f a))) (fun q => e (by injection q))]
      rcases List.mem_cons.mp h with h | h
      · exact absurd h.symm e
      · exact ih h
theorem refD_drop {l : List Str} (nd : l.Nodup) (f : Str → Addr) (z : Str) : dropK (refD l f) (nmK z) = refD (l.erase z) f := by
  rw [nd.erase_eq_filter]
  unfold dropK refD
  rw [List.filter_map]
  refine congrArg (List.map _) (congrArg (fun f => List.filter f l) ?_)
  funext x
  show decide (nmK x ≠ nmK z) = (x != z)
  rw [Bool.eq_iff_iff, decide_eq_true_eq, bne_iff_ne]
  exact not_congr ⟨fun e => by injection e, fun e => by rw [e]⟩
theorem refD_len (l : List Str) (f : Str → Addr) : (refD l f).length = l.length := List.length_map ..
/-- where the parts of links stand -/
structure LA where
  dx : Addr
  I : Addr
  O : Addr
  F : Addr
  ai : Str → Addr
  ao : Str → Addr
structure LA.Ok (A : LA) (live : List Str) : Prop where
  io : A.I ≠ A.O
  ii : ∀ r ∈ live, A.ai r ≠ A.I ∧ A.ai r ≠ A.O
  oo : ∀ r ∈ live, A.ao r ≠ A.I ∧ A.ao r ≠ A.O
  ia : ∀ r ∈ live, ∀ s ∈ live, A.ai r ≠ A.ao s
  ij : ∀ r ∈ live, ∀ s ∈ live, r ≠ s → A.ai r ≠ A.ai s ∧ A.ao r ≠ A.ao s
theorem LA.Ok.sub {A : LA} {l m : List Str} (h : A.Ok l) (s : ∀ r ∈ m, r ∈ l) : A.Ok m :=
  ⟨h.io, fun r k => h.ii r (s r k), fun r k => h.oo r (s r k), fun r k t j => h.ia r (s r k) t (s t j), fun r k t j => h.ij r (s r k) t (s t j)⟩
def lkF (A : LA) : List (Str × V) := [("ins", .ref A.I), ("outs", .ref A.O), ("found", .ref A.F)]
structure LinksAt (C : Addr) (H : Hp) (x : Addr) (A : LA) (live : List Str) (S : LS) : Prop where
  hx : H x = some (.ins C A.dx (lkF A))
  hI : H A.I = some (.dK (refD live A.ai))
  hO : H A.O = some (.dK (refD live A.ao))
  hF : ∃ xs, H A.F = some (.lst xs) ∧ TwsV H xs S.found
  hi : ∀ r ∈ live, H (A.ai r) = some (.dK (setD (S.ins r)))
  ho : ∀ r ∈ live, H (A.ao r) = some (.dK (setD (S.outs r)))
/-- the heap changes at nothing but the parts of links -/
def LA.Out (A : LA) (ws : List Str) (b : Addr) : Prop := b ≠ A.I ∧ b ≠ A.O ∧ b ≠ A.F ∧ ∀ r ∈ ws, b ≠ A.ai r ∧ b ≠ A.ao r
structure LFr (A : LA) (ws : List Str) (H H' : Hp) : Prop where
  fr : ∀ b o, A.Out ws b → H b = some o → H' b = some o
  kp : Kpt H H'
  fd : ∀ b, H b = none → H' b = none → True
theorem LFr.refl (A : LA) (ws : List Str) (H : Hp) : LFr A ws H H := ⟨fun _ _ _ h => h, Kpt.refl H, fun _ _ _ => trivial⟩
theorem LFr.trans {A : LA} {ws : List Str} {H H1 H2 : Hp} (h : LFr A ws H H1) (k : LFr A ws H1 H2) : LFr A ws H H2 :=
  ⟨fun b o q e => k.fr b o q (h.fr b o q e), h.kp.trans k.kp, fun _ _ _ => trivial⟩
theorem LFr.same {A : LA} {ws : List Str} {H H' : Hp} (e : Same H H') : LFr A ws H H' := ⟨fun b o _ h => e _ _ h, Same.kpt e, fun _ _ _ => trivial⟩
theorem LFr.sub {A : LA} {ws live : List Str} {H H' : Hp} (h : LFr A live H H') (s : ∀ r ∈ live, r ∈ ws) : LFr A ws H H' :=
  ⟨fun b o q e => h.fr b o ⟨q.1, q.2.1, q.2.2.1, fun r m => q.2.2.2 r (s r m)⟩ e, h.kp, fun _ _ _ => trivial⟩
theorem LinksAt.same {C : Addr} {H H' : Hp} {x : Addr} {A : LA} {live : List Str} {S : LS} (h : LinksAt C H x A live S) (e : Same H H') : LinksAt C H' x A live S := by
  obtain ⟨xs, h1, h2⟩ := h.hF
  exact ⟨e _ _ h.hx, e _ _ h.hI, e _ _ h.hO, ⟨xs, e _ _ h1, h2.kp (Same.kpt e)⟩, fun r m => e _ _ (h.hi r m), fun r m => e _ _ (h.ho r m)⟩
theorem lk_hit {f : Str} {v : V} {fs : List (Str × V)} : List.lookup f ((f, v) :: fs) = some v := by
  rw [List.lookup_cons, beq_self_eq_true]
theorem lk_miss {f g : Str} {v : V} {fs : List (Str × V)} (h : (f == g) = false) : List.lookup f ((g, v) :: fs) = List.lookup f fs := by
  rw [List.lookup_cons, h]
section
variable {F T L : Addr}
theorem shF_f : (shF F T L).lookup ("_following" : Str) = some (.ref F) := lk_hit
theorem shF_t : (shF F T L).lookup ("_turns" : Str) = some (.ref T) := (lk_miss (by decide +kernel)).trans lk_hit
theorem shF_l : (shF F T L).lookup ("_leading" : Str) = some (.ref L) := (lk_miss (by decide +kernel)).trans ((lk_miss (by decide +kernel)).trans lk_hit)
theorem shF_no {m : Str} (h1 : (m == ("_following" : Str)) = false) (h2 : (m == ("_turns" : Str)) = false) (h3 : (m == ("_leading" : Str)) = false) : (shF F T L).lookup m = none :=
  (lk_miss h1).trans ((lk_miss h2).trans ((lk_miss h3).trans rfl))
theorem lkF_i {A : LA} : (lkF A).lookup ("ins" : Str) = some (.ref A.I) := lk_hit
theorem lkF_o {A : LA} : (lkF A).lookup ("outs" : Str) = some (.ref A.O) := (lk_miss (by decide +kernel)).trans lk_hit
theorem lkF_f {A : LA} : (lkF A).lookup ("found" : Str) = some (.ref A.F) := (lk_miss (by decide +kernel)).trans ((lk_miss (by decide +kernel)).trans lk_hit)
theorem lkF_no {A : LA} {m : Str} (h1 : (m == ("ins" : Str)) = false) (h2 : (m == ("outs" : Str)) = false) (h3 : (m == ("found" : Str)) = false) : (lkF A).lookup m = none :=
  (lk_miss h1).trans ((lk_miss h2).trans ((lk_miss h3).trans rfl))
end
theorem st_get {ws : List Str} {i : Nat} {x : V} (g : (ws.map V.str)[i]? = some x) : ∃ z, ws[i]? = some z ∧ x = .str z := by
  rw [List.getElem?_map] at g
  cases e : ws[i]? with
  | none =>
    rw [e] at g
    cases g
  | some z =>
    rw [e] at g
    exact ⟨z, rfl, (Option.some.inj g).symm⟩
theorem nd_take {α : Type} {ws : List α} (nd : ws.Nodup) {i : Nat} {z : α} (g : ws[i]? = some z) : z ∉ ws.take i := by
  intro m
  obtain ⟨j, h1, h2⟩ := List.getElem_of_mem m
  rw [List.length_take] at h1
  rw [List.getElem_take] at h2
  obtain ⟨lt, e3⟩ := List.getElem?_eq_some_iff.mp g
  have := (List.getElem_inj nd).mp (h2.trans e3.symm)
  omega
theorem ShapeAt.ins {C : Addr} {H : Hp} {x : Addr} {ws : List Str} {ps : List Tw} (h : ShapeAt C H x ws ps) : ∃ dx F T L, H x = some (.ins C dx (shF F T L)) := by
  obtain ⟨dx, F, T, L, _, _, h, _⟩ := h
  exact ⟨dx, F, T, L, h⟩
theorem nd_le {α : Type} [DecidableEq α] : ∀ {l m : List α}, l.Nodup → (∀ x ∈ l, x ∈ m) → l.length ≤ m.length
  | [], _, _, _ => Nat.zero_le _
  | x :: l, m, h, s => by
    have h := List.nodup_cons.mp h
    have hx := s x (List.mem_cons_self ..)
    have ih := nd_le (l := l) (m := m.erase x) h.2 fun y hy => (List.mem_erase_of_ne (fun e => h.1 (by rw [← e]; exact hy))).mpr (s y (List.mem_cons_of_mem _ hy))
    rw [List.length_erase_of_mem hx] at ih
    have := List.length_pos_of_mem hx
    rw [List.length_cons]
    omega
theorem LS.Ok.lens {S : LS} {ws live : List Str} (h : S.Ok ws live) (hl : live.length ≤ 1000) (hw : ws.length ≤ 1000) : (∀ r ∈ live, (S.ins r).length ≤ 1000 ∧ (S.outs r).length ≤ 1000) ∧ S.found.length ≤ 1000000 := by
  refine ⟨fun r m => ⟨?_, ?_⟩, ?_⟩
  · exact Nat.le_trans (nd_le (h.ndi r m) fun x k => (h.ini r m x k).1) hl
  · exact Nat.le_trans (nd_le (h.ndo r m) fun x k => (h.ino r m x k).1) hl
  · have e : S.found.length ≤ (ws.flatMap fun a => ws.map fun b => (a, b)).length := nd_le h.ndf fun p m => by
      have := h.inf p m
      exact List.mem_flatMap.mpr ⟨p.1, this.1, List.mem_map.mpr ⟨p.2, this.2.1, rfl⟩⟩
    rw [List.length_flatMap] at e
    simp only [List.length_map, List.map_const', List.sum_replicate_nat] at e
    have := Nat.mul_le_mul hw hw
    omega
theorem dget_ref {H : Hp} {a : Addr} {l : List Str} {f : Str → Addr} {z : Str} (h : Rd H a (.dK (refD l f))) (m : z ∈ l) : DGet H a (.str z) (some (.ref (f z))) := .inl ⟨_, Sum.inr z, h, rfl, (refD_val m).symm⟩
theorem LinksAt.link {C : Addr} {H : Hp} {x : Addr} {A : LA} {live : List Str} {S : LS} {s t : Str} {Tp : Addr} {xs : List V} (h : LinksAt C H x A live S) (ok : A.Ok live) (hs : s ∈ live) (ht : t ∈ live) (nt : t ∉ S.outs s)
    (hF : H A.F = some (.lst xs)) (hx : TwsV H xs S.found) (nT : (upd (upd H (A.ao s) (.dK (setD (S.outs s ++ [t])))) (A.ai t) (.dK (setD (S.ins t ++ [s])))) Tp = none) :
    LinksAt C (upd (upd (upd (upd H (A.ao s) (.dK (setD (S.outs s ++ [t])))) (A.ai t) (.dK (setD (S.ins t ++ [s])))) Tp (.tup [.str s, .str t])) A.F (.lst (xs ++ [.ref Tp]))) x A live (S.link s t) := by
  have nia : A.ai t ≠ A.ao s := ok.ia t ht s hs
  have e1 : (upd H (A.ao s) (.dK (setD (S.outs s ++ [t])))) (A.ao s) = some (.dK (setD (S.outs s ++ [t]))) := upd_same
  have e2 : (upd (upd H (A.ao s) (.dK (setD (S.outs s ++ [t])))) (A.ai t) (.dK (setD (S.ins t ++ [s])))) (A.ai t) = some (.dK (setD (S.ins t ++ [s]))) := upd_same
  have nTo : Tp ≠ A.ao s := fun e => by
    rw [e, upd_ne nia.symm, upd_same] at nT
    cases nT
  have nTi : Tp ≠ A.ai t := fun e => by
    rw [e, upd_same] at nT
    cases nT
  have nT0 : H Tp = none := by
    rw [upd_ne nTi, upd_ne nTo] at nT
    exact nT
  have nT' : ∀ {b : Addr} {o : HO}, H b = some o → b ≠ Tp := fun e z => by
    rw [z, nT0] at e
    cases e
  -- what stands at another place stands
  have oth : ∀ {b : Addr} {o : HO}, H b = some o → b ≠ A.ao s → b ≠ A.ai t → b ≠ A.F → (upd (upd (upd (upd H (A.ao s) (.dK (setD (S.outs s ++ [t])))) (A.ai t) (.dK (setD (S.ins t ++ [s])))) Tp (.tup [.str s, .str t])) A.F (.lst (xs ++ [.ref Tp]))) b = some o := by
    intro b o e h1 h2 h3
    rw [upd_ne h3, upd_ne (nT' e), upd_ne h2, upd_ne h1]
    exact e
  have nF : ∀ {b : Addr} {kvs : List (Key × V)}, H b = some (.dK kvs) → b ≠ A.F := fun e z => by
    rw [z, hF] at e
    cases e
  have kpA : Kpt H (upd (upd (upd (upd H (A.ao s) (.dK (setD (S.outs s ++ [t])))) (A.ai t) (.dK (setD (S.ins t ++ [s])))) Tp (.tup [.str s, .str t])) A.F (.lst (xs ++ [.ref Tp]))) := by
    intro b ys e
    refine oth e ?_ ?_ ?_
    · exact ne_of e (h.ho s hs) fun z => nomatch z
    · exact ne_of e (h.hi t ht) fun z => nomatch z
    · exact ne_of e hF fun z => nomatch z
  have ef : (S.link s t).found = S.found ++ [(s, t)] := by rw [LS.link_f nt]
  refine ⟨?_, ?_, ?_, ⟨xs ++ [.ref Tp], upd_same, ?_⟩, fun r m => ?_, fun r m => ?_⟩
  · refine oth h.hx ?_ ?_ ?_
    · exact ne_of h.hx (h.ho s hs) fun z => nomatch z
    · exact ne_of h.hx (h.hi t ht) fun z => nomatch z
    · exact ne_of h.hx hF fun z => nomatch z
  · exact oth h.hI (ok.oo s hs).1.symm (ok.ii t ht).1.symm (nF h.hI)
  · exact oth h.hO (ok.oo s hs).2.symm (ok.ii t ht).2.symm (nF h.hO)
  · rw [ef]
    refine TwsV.app (TwsV.kp kpA hx) (.cons ⟨Tp, rfl, ?_⟩ .nil)
    rw [upd_ne (fun z => by
      rw [← z, nT0] at hF
      cases hF), upd_same]
  · rw [LS.link_f nt]
    show _ = some (HO.dK (setD (if r = t then S.ins t ++ [s] else S.ins r)))
    by_cases e : r = t
    · rw [if_pos e, e, upd_ne (nF (h.hi t ht)), upd_ne (nT' (h.hi t ht)), upd_same]
    · rw [if_neg e]
      exact oth (h.hi r m) (ok.ia r m s hs) (ok.ij r m t ht e).1 (nF (h.hi r m))
  · rw [LS.link_f nt]
    show _ = some (HO.dK (setD (if r = s then S.outs s ++ [t] else S.outs r)))
    by_cases e : r = s
    · rw [if_pos e, e, upd_ne (nF (h.ho s hs)), upd_ne (nT' (h.ho s hs)), upd_ne nia.symm, upd_same]
    · rw [if_neg e]
      exact oth (h.ho r m) (ok.ij r m s hs e).2 (ok.ia t ht r m).symm (nF (h.ho r m))
/-- a dict, or what is locked -/
def DicO : HO → Prop
  | .dK _ => True
  | .frz _ (.dK _) => True
  | _ => False
theorem dic_tup {H : Hp} {b c : Addr} {o : HO} {xs : List V} (h : H b = some o) (d : DicO o) (k : H c = some (.tup xs)) : c ≠ b := by
  refine ne_of k h fun z => ?_
  rw [← z] at d
  exact d
theorem LinksAt.off {C : Addr} {H : Hp} {x b : Addr} {A : LA} {live : List Str} {S : LS} {o o' : HO} (h : LinksAt C H x A live S) (q : A.Out live b) (hb : H b = some o) (d : DicO o) : LinksAt C (upd H b o') x A live S := by
  obtain ⟨xs, h1, h2⟩ := h.hF
  refine ⟨?_, ?_, ?_, ⟨xs, ?_, TwsV.kp (fun c ys e => ?_) h2⟩, fun r m => ?_, fun r m => ?_⟩
  · rw [upd_ne (ne_of h.hx hb fun z => by rw [← z] at d; exact d)]
    exact h.hx
  · rw [upd_ne q.1.symm]
    exact h.hI
  · rw [upd_ne q.2.1.symm]
    exact h.hO
  · rw [upd_ne q.2.2.1.symm]
    exact h1
  · rw [upd_ne (dic_tup hb d e)]
    exact e
  · rw [upd_ne (q.2.2.2 r m).1.symm]
    exact h.hi r m
  · rw [upd_ne (q.2.2.2 r m).2.symm]
    exact h.ho r m
theorem LFr.upd {A : LA} {ws : List Str} {H : Hp} {b : Addr} {o o' : HO} (q : ¬ A.Out ws b) (hb : H b = some o) (d : DicO o) : LFr A ws H (upd H b o') := by
  refine ⟨fun c u qc e => ?_, fun c ys e => ?_, fun _ _ _ => trivial⟩
  · have nc : c ≠ b := fun z => q (by rw [← z]; exact qc)
    rw [upd_ne nc]
    exact e
  · rw [upd_ne (dic_tup hb d e)]
    exact e
theorem out_i {A : LA} {ws : List Str} {r : Str} (m : r ∈ ws) : ¬ A.Out ws (A.ai r) := fun q => (q.2.2.2 r m).1 rfl
theorem out_o {A : LA} {ws : List Str} {r : Str} (m : r ∈ ws) : ¬ A.Out ws (A.ao r) := fun q => (q.2.2.2 r m).2 rfl
theorem LinksAt.congr {C : Addr} {H : Hp} {x : Addr} {A : LA} {live : List Str} {S S' : LS} (h : LinksAt C H x A live S) (h1 : ∀ r ∈ live, S.ins r = S'.ins r) (h2 : ∀ r ∈ live, S.outs r = S'.outs r) (h3 : S.found = S'.found) : LinksAt C H x A live S' :=
  ⟨h.hx, h.hI, h.hO, h3 ▸ h.hF, fun r m => h1 r m ▸ h.hi r m, fun r m => h2 r m ▸ h.ho r m⟩
theorem LinksAt.setO {C : Addr} {H : Hp} {x : Addr} {A : LA} {live : List Str} {S : LS} {s : Str} (l : List Str) (h : LinksAt C H x A live S) (ok : A.Ok live) (hs : s ∈ live) : LinksAt C (upd H (A.ao s) (.dK (setD l))) x A live ⟨S.ins, fun y => if y = s then l else S.outs y, S.found⟩ := by
  have hb := h.ho s hs
  obtain ⟨xs, h1, h2⟩ := h.hF
  refine ⟨?_, ?_, ?_, ⟨xs, ?_, TwsV.kp (fun c ys e => ?_) h2⟩, fun r m => ?_, fun r m => ?_⟩
  · rw [upd_ne (ne_of h.hx hb fun z => nomatch z)]
    exact h.hx
  · rw [upd_ne (ok.oo s hs).1.symm]
    exact h.hI
  · rw [upd_ne (ok.oo s hs).2.symm]
    exact h.hO
  · rw [upd_ne (ne_of h1 hb fun z => nomatch z)]
    exact h1
  · rw [upd_ne (dic_tup hb trivial e)]
    exact e
  · rw [upd_ne (ok.ia r m s hs)]
    exact h.hi r m
  · by_cases e : r = s
    · rw [e, upd_same]
      exact congrArg (fun z => some (HO.dK (setD z))) (if_pos rfl).symm
    · rw [upd_ne (ok.ij r m s hs e).2, h.ho r m]
      exact congrArg (fun z => some (HO.dK (setD z))) (if_neg e).symm
theorem LinksAt.setI {C : Addr} {H : Hp} {x : Addr} {A : LA} {live : List Str} {S : LS} {s : Str} (l : List Str) (h : LinksAt C H x A live S) (ok : A.Ok live) (hs : s ∈ live) : LinksAt C (upd H (A.ai s) (.dK (setD l))) x A live ⟨fun y => if y = s then l else S.ins y, S.outs, S.found⟩ := by
  have hb := h.hi s hs
  obtain ⟨xs, h1, h2⟩ := h.hF
  refine ⟨?_, ?_, ?_, ⟨xs, ?_, TwsV.kp (fun c ys e => ?_) h2⟩, fun r m => ?_, fun r m => ?_⟩
  · rw [upd_ne (ne_of h.hx hb fun z => nomatch z)]
    exact h.hx
  · rw [upd_ne (ok.ii s hs).1.symm]
    exact h.hI
  · rw [upd_ne (ok.ii s hs).2.symm]
    exact h.hO
  · rw [upd_ne (ne_of h1 hb fun z => nomatch z)]
    exact h1
  · rw [upd_ne (dic_tup hb trivial e)]
    exact e
  · by_cases e : r = s
    · rw [e, upd_same]
      exact congrArg (fun z => some (HO.dK (setD z))) (if_pos rfl).symm
    · rw [upd_ne (ok.ij r m s hs e).1, h.hi r m]
      exact congrArg (fun z => some (HO.dK (setD z))) (if_neg e).symm
  · rw [upd_ne (ok.ia s hs r m).symm]
    exact h.ho r m
theorem set_get {l : List Str} {i : Nat} {k : Key} {v : V} (h : (setD l)[i]? = some (k, v)) : ∃ z, l[i]? = some z ∧ k = Sum.inr z := by
  unfold setD at h
  rw [List.getElem?_map] at h
  cases e : l[i]? with
  | none =>
    rw [e] at h
    cases h
  | some z =>
    rw [e] at h
    cases h
    exact ⟨z, rfl, rfl⟩
theorem fold_take {α β : Type} (f : β → α → β) (b : β) (l : List α) (i : Nat) (x : α) (h : l[i]? = some x) : (l.take (i + 1)).foldl f b = f ((l.take i).foldl f b) x := by
  rw [List.take_add_one, h, List.foldl_append]
  rfl
theorem mem_take_more {l : List Str} {i : Nat} {z y : Str} (h : l[i]? = some z) : y ∈ l.take (i + 1) ↔ y ∈ l.take i ∨ y = z := by
  rw [List.take_add_one, h, List.mem_append]
  simp
/-- new objects for the names of l, each of them o, none of them at D -/
structure Fam (o : HO) (H0 H : Hp) (D : Addr) (l : List Str) (f : Str → Addr) : Prop where
  nw : ∀ r ∈ l, H0 (f r) = none ∧ f r ≠ D ∧ H (f r) = some o
  ij : ∀ r ∈ l, ∀ s ∈ l, r ≠ s → f r ≠ f s
theorem fam_nil {o : HO} {H0 H : Hp} {D : Addr} : Fam o H0 H D [] (fun _ => 0) := ⟨fun r m => (nomatch m), fun r m => (nomatch m)⟩
theorem fam_snoc {o : HO} {H0 H : Hp} {D d : Addr} {l : List Str} {f : Str → Addr} {z : Str} {u u' : HO} (h : Fam o H0 H D l f) (e : ∀ b o, H0 b = some o → H b = some o) (hD : H D = some u) (nd : H d = none) (nz : z ∉ l) :
    ∃ f', Fam o H0 (upd (upd H d o) D u') D (l ++ [z]) f' ∧ refD (l ++ [z]) f' = refD l f ++ [(nmK z, .ref d)] := by
  have ndD : d ≠ D := fun q => by
    rw [q, hD] at nd
    cases nd
  have n0 : H0 d = none := by
    cases c : H0 d with
    | none => rfl
    | some o => rw [e _ _ c] at nd; cases nd
  have ne : ∀ r ∈ l, f r ≠ d := fun r m q => by
    have := (h.nw r m).2.2
    rw [q, nd] at this
    cases this
  have ez : ∀ r ∈ l, (if r = z then d else f r) = f r := fun r m => if_neg fun q => nz (by rw [← q]; exact m)
  refine ⟨fun r => if r = z then d else f r, ⟨fun r m => ?_, fun r m s k n => ?_⟩, ?_⟩
  · rcases List.mem_append.mp m with m | m
    · obtain ⟨a, b, c⟩ := h.nw r m
      simp only [ez r m]
      refine ⟨a, b, ?_⟩
      rw [upd_ne b, upd_ne (ne r m)]
      exact c
    · rw [List.mem_singleton.mp m]
      simp only [if_true]
      refine ⟨n0, ndD, ?_⟩
      rw [upd_ne ndD, upd_same]
  · rcases List.mem_append.mp m with m | m <;> rcases List.mem_append.mp k with k | k
    · simp only [ez r m, ez s k]
      exact h.ij r m s k n
    · rw [List.mem_singleton.mp k]
      simp only [ez r m, if_true]
      exact ne r m
    · rw [List.mem_singleton.mp m]
      simp only [ez s k, if_true]
      exact (ne s k).symm
    · exact absurd ((List.mem_singleton.mp m).trans (List.mem_singleton.mp k).symm) n
  · unfold refD
    rw [List.map_append]
    refine congr (congrArg _ (List.map_congr_left fun r m => ?_)) ?_
    · show (nmK r, V.ref (if r = z then d else f r)) = _
      rw [ez r m]
    · show [(nmK z, V.ref (if z = z then d else f z))] = _
      rw [if_pos rfl]
theorem refD_none {l : List Str} {f : Str → Addr} {z : Str} (h : z ∉ l) : valV (refD l f) (nmK z) = none := by
  cases c : valV (refD l f) (nmK z) with
  | none => rfl
  | some v =>
    have := val_in (refD_keys l f) z
    rw [show valV (refD l f) (Sum.inr z) = some v from c, decide_eq_false h] at this
    cases this
theorem Fam.same {o : HO} {H0 H H' : Hp} {D : Addr} {l : List Str} {f : Str → Addr} (h : Fam o H0 H D l f) (e : ∀ b, H b = some o → H' b = some o) : Fam o H0 H' D l f :=
  ⟨fun r m => let ⟨a, b, c⟩ := h.nw r m; ⟨a, b, e _ c⟩, h.ij⟩
/-- each once, where it comes first -/
def uqS (acc : List Tw) (p : Tw) : List Tw := if p ∈ acc then acc else acc ++ [p]
def uq (l : List Tw) : List Tw := l.foldl uqS []
theorem uqS_mem {acc : List Tw} {p q : Tw} : q ∈ uqS acc p ↔ q ∈ acc ∨ q = p := by
  unfold uqS
  by_cases c : p ∈ acc
  · rw [if_pos c]
    exact ⟨.inl, fun z => z.elim id fun e => e ▸ c⟩
  · rw [if_neg c, List.mem_append, List.mem_singleton]
theorem uqS_nd {acc : List Tw} {p : Tw} (h : acc.Nodup) : (uqS acc p).Nodup := by
  unfold uqS
  by_cases c : p ∈ acc
  · rw [if_pos c]
    exact h
  · rw [if_neg c]
    exact List.nodup_append.mpr ⟨h, nd1, fun x hx y hy => by rw [List.mem_singleton.mp hy]; exact fun z => c (z ▸ hx)⟩
theorem uq_all : ∀ (l acc : List Tw), acc.Nodup → (l.foldl uqS acc).Nodup ∧ (∀ q, q ∈ l.foldl uqS acc ↔ q ∈ acc ∨ q ∈ l) ∧ (l.foldl uqS acc).length ≤ acc.length + l.length ∧ (l.foldl uqS acc).Sublist (acc ++ l)
  | [], acc, h => ⟨h, fun q => by simp, Nat.le_refl _, by simp⟩
  | p :: l, acc, h => by
    obtain ⟨i1, i2, i3, i4⟩ := uq_all l (uqS acc p) (uqS_nd h)
    have sb : (uqS acc p).Sublist (acc ++ [p]) := by
      unfold uqS
      split
      · exact List.sublist_append_left _ _
      · exact List.Sublist.refl _
    have ln := sb.length_le
    rw [List.length_append, List.length_singleton] at ln
    refine ⟨i1, fun q => ?_, ?_, ?_⟩
    · rw [List.foldl_cons, i2, uqS_mem, List.mem_cons, or_assoc]
    · rw [List.foldl_cons, List.length_cons]
      omega
    · rw [List.foldl_cons]
      refine i4.trans ?_
      have := sb.append (List.Sublist.refl l)
      rwa [List.append_assoc] at this
theorem uq_nd (l : List Tw) : (uq l).Nodup := (uq_all l [] List.nodup_nil).1
theorem uq_mem {l : List Tw} {q : Tw} : q ∈ uq l ↔ q ∈ l := by
  rw [uq, (uq_all l [] List.nodup_nil).2.1]
  simp
theorem uq_len (l : List Tw) : (uq l).length ≤ l.length := by
  have := (uq_all l [] List.nodup_nil).2.2.1
  rwa [List.length_nil, Nat.zero_add] at this
theorem uq_sub (l : List Tw) : (uq l).Sublist l := (uq_all l [] List.nodup_nil).2.2.2
/-- sorted, each once: the sorted list of the members -/
theorem uq_sort {ts ps : List Tw} (nd : ps.Nodup) (so : ps.Pairwise fun a b => twLe a b = true) (h : ∀ q, q ∈ ts ↔ q ∈ ps) : uq (ts.mergeSort twLe) = ps := by
  refine lin_tw.uniq ((lin_tw.sorted ts).sublist (uq_sub _)) so (nodup_perm (uq_nd _) nd fun q => ?_)
  rw [uq_mem, List.mem_mergeSort, h]
theorem put_keys {kvs : List (List Key × V)} {ps : List Tw} {p : Tw} {v : V} (h : kvs.map Prod.fst = ps.map twK) : (putK kvs (twK p) v).map Prod.fst = (uqS ps p).map twK := by
  have mem : twK p ∈ kvs.map Prod.fst ↔ p ∈ ps := by
    rw [h]
    exact ⟨fun m => by
      obtain ⟨q, mq, e⟩ := List.mem_map.mp m
      exact twK_inj e ▸ mq, fun m => List.mem_map.mpr ⟨p, m, rfl⟩⟩
  have an : (kvs.any fun kv => decide (kv.1 = twK p)) = decide (p ∈ ps) := by
    rw [valV_any, val_some]
    exact decide_eq_decide.mpr mem
  unfold putK uqS
  rw [an]
  by_cases c : p ∈ ps
  · rw [if_pos (decide_eq_true c), if_pos c, List.map_map, ← h]
    refine List.map_congr_left fun kv _ => ?_
    show (if kv.1 = twK p then (kv.1, v) else kv).1 = kv.1
    split <;> rfl
  · rw [if_neg (by rw [decide_eq_false c]; exact Bool.false_ne_true), if_neg c, List.map_append, List.map_append, h]
    rfl
theorem ref_get {l : List Str} {f : Str → Addr} {i : Nat} {k : Key} {v : V} (h : (refD l f)[i]? = some (k, v)) : ∃ z, l[i]? = some z ∧ k = Sum.inr z := by
  unfold refD at h
  rw [List.getElem?_map] at h
  cases e : l[i]? with
  | none =>
    rw [e] at h
    cases h
  | some z =>
    rw [e] at h
    cases h
    exact ⟨z, rfl, rfl⟩
theorem put_len {κ : Type} [DecidableEq κ] (kvs : List (κ × V)) (k : κ) (v : V) : (putK kvs k v).length ≤ kvs.length + 1 := length_putK kvs k v
theorem folT_snoc {l : List Tw} {i : Nat} {p : Tw} (h : l[i]? = some p) (r : Str) : folT (l.take (i + 1)) r = folT (l.take i) r ++ (if p.1 = r then [p.2] else []) := by
  unfold folT
  rw [List.take_add_one, h, List.filter_append, List.map_append]
  by_cases e : p.1 = r <;> simp [e]
theorem ledT_snoc {l : List Tw} {i : Nat} {p : Tw} (h : l[i]? = some p) (r : Str) : ledT (l.take (i + 1)) r = ledT (l.take i) r ++ (if p.2 = r then [p.1] else []) := by
  unfold ledT
  rw [List.take_add_one, h, List.filter_append, List.map_append]
  by_cases e : p.2 = r <;> simp [e]
theorem folT_len (l : List Tw) (r : Str) : (folT l r).length ≤ l.length := by
  unfold folT
  rw [List.length_map]
  exact List.length_filter_le _ _
theorem ledT_len (l : List Tw) (r : Str) : (ledT l r).length ≤ l.length := by
  unfold ledT
  rw [List.length_map]
  exact List.length_filter_le _ _
theorem lock_back {H G : Hp} {F : Addr} {u o : HO} (hF : H F = some u) (e : Same (upd H F o) G) : Same H (upd G F u) := by
  intro b v h
  by_cases q : b = F
  · rw [q, hF] at h
    cases h
    rw [q, upd_same]
  · rw [upd_ne q]
    refine e _ _ ?_
    rw [upd_ne q]
    exact h
theorem inV_strs (z : Str) (l : List Str) : inV (.str z) (l.map V.str) = decide (z ∈ l) := by
  unfold inV
  rw [Bool.eq_iff_iff, decide_eq_true_eq, List.any_eq_true]
  constructor
  · rintro ⟨y, m, e⟩
    obtain ⟨x, mx, rfl⟩ := List.mem_map.mp m
    have e : (x == z) = true := e
    rw [beq_iff_eq] at e
    exact e ▸ mx
  · intro m
    exact ⟨_, List.mem_map.mpr ⟨z, m, rfl⟩, by show (z == z) = true; exact beq_self_eq_true z⟩
theorem flat_strs (l : List Str) : (l.map V.str).all flatV = true := by
  rw [List.all_eq_true]
  intro y m
  obtain ⟨x, _, rfl⟩ := List.mem_map.mp m
  rfl
/-- does a turn touch a road -/
def tch (z : Str) (p : Tw) : Bool := decide (z ∈ [p.1, p.2])
theorem inV_tw (z : Str) (p : Tw) : inV (.str z) [.str p.1, .str p.2] = tch z p := inV_strs z [p.1, p.2]
theorem filter_snoc {α : Type} {l : List α} {i : Nat} {x : α} (f : α → Bool) (h : l[i]? = some x) : (l.take (i + 1)).filter f = (l.take i).filter f ++ (if f x = true then [x] else []) := by
  rw [take_snoc h, List.filter_append]
  by_cases c : f x = true
  · rw [if_pos c, List.filter_cons_of_pos c]
    rfl
  · rw [if_neg c, List.filter_cons_of_neg c]
    rfl
end Fb

set_option Elab.async false
set_option linter.all false
set_option maxRecDepth 100000
set_option maxHeartbeats 4000000
/-! the order by few -/
namespace Fb
open PySem PySem.Spec L2
open PyProof.Rows hiding St
open Classical in
/-- how many ways lead on from r, through P, to roads not in P -/
noncomputable def outN (E : List Tw) (ws P : List Str) (r : Str) : Nat := (ws.filter fun t => decide (t ∉ P ∧ r ≠ t ∧ Rch E (fun x => x ∈ P) r t)).length
open Classical in
noncomputable def inN (E : List Tw) (ws P : List Str) (r : Str) : Nat := (ws.filter fun s => decide (s ∉ P ∧ s ≠ r ∧ Rch E (fun x => x ∈ P) s r)).length
open Classical in
theorem outN_of {E : List Tw} {ws P : List Str} {r : Str} {l : List Str} (nd : ws.Nodup) (h : l.Nodup) (m : ∀ t, t ∈ l ↔ t ∈ ws ∧ t ∉ P ∧ r ≠ t ∧ Rch E (fun x => x ∈ P) r t) : l.length = outN E ws P r := by
  refine ((List.perm_ext_iff_of_nodup h (nd.filter _)).mpr fun t => ?_).length_eq
  rw [m, List.mem_filter, decide_eq_true_eq]
open Classical in
theorem inN_of {E : List Tw} {ws P : List Str} {r : Str} {l : List Str} (nd : ws.Nodup) (h : l.Nodup) (m : ∀ s, s ∈ l ↔ s ∈ ws ∧ s ∉ P ∧ s ≠ r ∧ Rch E (fun x => x ∈ P) s r) : l.length = inN E ws P r := by
  refine ((List.perm_ext_iff_of_nodup h (nd.filter _)).mpr fun t => ?_).length_eq
  rw [m, List.mem_filter, decide_eq_true_eq]
abbrev Jt := Int × Str
def jtD (p : Jt) : PyData := .tuple [.int p.1, .str p.2]
noncomputable def cost (E : List Tw) (ws P : List Str) (r : Str) : Int := (outN E ws P r : Int) * (inN E ws P r : Int)
def minL : List PyData → PyData
  | [] => .none
  | y :: ys => PySem.W.minD y ys
/-- the rows of the roads that are left -/
noncomputable def jts (E : List Tw) (ws P : List Str) : List Jt := (ws.filter fun r => decide (r ∉ P)).map fun r => (cost E ws P r, r)
/-- the one that comes next -/
def IsMin (E : List Tw) (ws P : List Str) (r : Str) : Prop := ∃ c : Int, (c, r) ∈ jts E ws P ∧ jtD (c, r) = minL ((jts E ws P).map jtD)
theorem IsMin.mem {E : List Tw} {ws P : List Str} {r : Str} (h : IsMin E ws P r) : r ∈ ws ∧ r ∉ P := by
  obtain ⟨c, m, _⟩ := h
  obtain ⟨x, mx, e⟩ := List.mem_map.mp m
  cases e
  obtain ⟨a, b⟩ := List.mem_filter.mp mx
  exact ⟨a, of_decide_eq_true b⟩
theorem IsMin.uniq {E : List Tw} {ws P : List Str} {r s : Str} (h : IsMin E ws P r) (k : IsMin E ws P s) : r = s := by
  obtain ⟨c, _, e⟩ := h
  obtain ⟨d, _, f⟩ := k
  have := e.trans f.symm
  unfold jtD at this
  injection this with this
  injection this with _ this
  injection this with this
  injection this
structure IsFew (E : List Tw) (ws order : List Str) : Prop where
  len : order.length = ws.length
  min : ∀ k r, order[k]? = some r → IsMin E ws (order.take k) r
theorem IsFew.nodup {E : List Tw} {ws order : List Str} (h : IsFew E ws order) : order.Nodup := by
  refine List.pairwise_iff_getElem.mpr fun i j hi hj lt e => ?_
  refine (h.min j _ (List.getElem?_eq_getElem hj)).mem.2 ?_
  have : (order.take j)[i]? = some order[j] := by
    rw [List.getElem?_take_of_lt lt, List.getElem?_eq_getElem hi, e]
  exact List.mem_of_getElem? this
theorem IsFew.mem {E : List Tw} {ws order : List Str} (h : IsFew E ws order) (nd : ws.Nodup) (r : Str) : r ∈ order ↔ r ∈ ws := by
  have sub : ∀ x ∈ order, x ∈ ws := fun x m => by
    obtain ⟨k, e⟩ := List.getElem?_of_mem m
    exact (h.min k x e).mem.1
  refine ⟨sub r, fun m => Classical.byContradiction fun n => ?_⟩
  have := nd_le (l := r :: order) (m := ws) (List.nodup_cons.mpr ⟨n, h.nodup⟩) fun x mx => by
    rcases List.mem_cons.mp mx with rfl | mx
    · exact m
    · exact sub x mx
  rw [List.length_cons, h.len] at this
  omega
theorem IsFew.uniq {E : List Tw} {ws o1 o2 : List Str} (h : IsFew E ws o1) (k : IsFew E ws o2) : o1 = o2 := by
  have all : ∀ n, n ≤ ws.length → o1.take n = o2.take n := by
    intro n
    induction n with
    | zero => exact fun _ => rfl
    | succ n ih =>
      intro hn
      have ih := ih (by omega)
      have h1 : o1[n]? = some (o1[n]'(by have := h.len; omega)) := List.getElem?_eq_getElem _
      have h2 : o2[n]? = some (o2[n]'(by have := k.len; omega)) := List.getElem?_eq_getElem _
      have m1 := h.min n _ h1
      have m2 := k.min n _ h2
      rw [ih] at m1
      rw [List.take_add_one, List.take_add_one, ih, h1, h2, m1.uniq m2]
  have := all ws.length (Nat.le_refl _)
  rwa [List.take_of_length_le (by have := h.len; omega), List.take_of_length_le (by have := k.len; omega)] at this
/-! ### on the heap -/
def JtV (H : Hp) (v : V) (p : Jt) : Prop := ∃ a, v = .ref a ∧ H a = some (.tup [.int p.1, .str p.2])
abbrev JtsV (H : Hp) : List V → List Jt → Prop := Paired (JtV H)
theorem JtV.kp {H H' : Hp} {v : V} {p : Jt} (e : Kpt H H') (h : JtV H v p) : JtV H' v p := by
  obtain ⟨a, rfl, h⟩ := h
  exact ⟨a, rfl, e _ _ h⟩
theorem JtV.dp {K : PySem.W.Frag} {H : Hp} {v : V} {p : Jt} (h : JtV H v p) : Dp K H v (jtD p) := by
  obtain ⟨a, rfl, h⟩ := h
  exact .tup (SqT.of h) (.cons (.int _) (.cons (.str _) .nil))
theorem JtsV.dp {K : PySem.W.Frag} {H : Hp} {xs : List V} {ps : List Jt} (h : JtsV H xs ps) : DpAll K H xs (ps.map jtD) := by
  induction h with
  | nil => exact .nil
  | cons a _ ih => exact .cons a.dp ih
theorem JtsV.get {H : Hp} : ∀ {xs : List V} {ps : List Jt}, JtsV H xs ps → ∀ {i : Nat} {x : V}, xs[i]? = some x → ∃ p, ps[i]? = some p ∧ JtV H x p
  | _, _, .nil, _, _, h => by cases h
  | _, _, .cons a _, 0, _, h => by
    cases h
    exact ⟨_, rfl, a⟩
  | _, _, .cons _ t, i + 1, x, h => JtsV.get t (i := i) h
theorem JtsV.of {H : Hp} : ∀ {xs : List V} {ps : List Jt}, xs.length = ps.length → (∀ (i : Nat) (v : V) (p : Jt), xs[i]? = some v → ps[i]? = some p → JtV H v p) → JtsV H xs ps
  | [], [], _, _ => .nil
  | [], _ :: _, h, _ => by cases h
  | _ :: _, [], h, _ => by cases h
  | x :: xs, p :: ps, h, f => .cons (f 0 x p rfl rfl) (JtsV.of (Nat.succ.inj h) fun i v q a b => f (i + 1) v q a b)
theorem depth_jts : ∀ ps : List Jt, PyData.depthAll (ps.map jtD) ≤ 1
  | [] => by simp [PyData.depthAll]
  | p :: l => by
    have ih := depth_jts l
    simp only [List.map_cons, PyData.depthAll]
    refine Nat.max_le.mpr ⟨?_, ih⟩
    simp [jtD, PyData.depth, PyData.depthAll]
theorem alike_jts (ps : List Jt) : PySem.W.AlikeAll (ps.map jtD) := by
  refine ⟨fun x hx y hy => ?_, fun x hx e => ?_⟩
  · obtain ⟨p, _, rfl⟩ := List.mem_map.mp hx
    obtain ⟨q, _, rfl⟩ := List.mem_map.mp hy
    simp [jtD, PySem.W.alike, PySem.W.alikeAll]
  · obtain ⟨p, _, rfl⟩ := List.mem_map.mp hx
    exact nomatch e
/-- what min asks of rows -/
theorem min_parts {K : PySem.W.Frag} {H : Hp} {xs : List V} {ps : List Jt} (h : JtsV H xs ps) (ne : ps ≠ []) : ∃ y ys, DpAll K H xs (y :: ys) ∧ PySem.W.AlikeAll (y :: ys) ∧ PyData.depthAll (y :: ys) ≤ 60 ∧
    ∀ (i : Nat) (x : V), xs[i]? = some x → (y :: ys)[i]? = some (PySem.W.minD y ys) → ∃ p, JtV H x p ∧ p ∈ ps ∧ jtD p = minL (ps.map jtD) := by
  cases ps with
  | nil => exact absurd rfl ne
  | cons p ps =>
    refine ⟨jtD p, ps.map jtD, h.dp, alike_jts (p :: ps), Nat.le_trans (depth_jts (p :: ps)) (by decide), fun i x hx hd => ?_⟩
    obtain ⟨r, hr, jr⟩ := h.get hx
    have hd : ((p :: ps).map jtD)[i]? = some (minL ((p :: ps).map jtD)) := hd
    rw [List.getElem?_map, hr] at hd
    exact ⟨r, jr, List.mem_of_getElem? hr, Option.some.inj hd⟩
theorem erase_more {ws P : List Str} {r : Str} (nd : ws.Nodup) : (ws.filter fun x => decide (x ∉ P)).erase r = ws.filter fun x => decide (x ∉ P ++ [r]) := by
  rw [(show (ws.filter fun x => decide (x ∉ P)).Nodup from nd.filter _).erase_eq_filter, List.filter_filter]
  refine List.filter_congr fun x _ => ?_
  rw [Bool.eq_iff_iff, Bool.and_eq_true, bne_iff_ne, decide_eq_true_eq, decide_eq_true_eq, List.mem_append, not_or, List.mem_singleton]
  exact and_comm
end Fb

set_option Elab.async false
set_option linter.all false
set_option maxRecDepth 100000
set_option maxHeartbeats 4000000
/-! names as the laws make them; searches -/
namespace Fb
open PySem PySem.Spec L2
open PyProof.Rows hiding St
theorem perm_map {α β : Type} {f : α → β} {xs ys : List β} (p : xs.Perm ys) : ∀ {l : List α}, ys = l.map f → ∃ m : List α, xs = m.map f ∧ m.Perm l := by
  induction p with
  | nil =>
    intro l e
    cases l with
    | nil => exact ⟨[], rfl, .refl _⟩
    | cons a l => cases e
  | cons x _ ih =>
    intro l e
    cases l with
    | nil => cases e
    | cons a l =>
      rw [List.map_cons] at e
      injection e with e1 e2
      obtain ⟨m, h1, h2⟩ := ih e2
      exact ⟨a :: m, by rw [List.map_cons, e1, h1], .cons _ h2⟩
  | swap x y l0 =>
    intro l e
    cases l with
    | nil => cases e
    | cons a l =>
      rw [List.map_cons] at e
      injection e with e1 e2
      cases l with
      | nil => cases e2
      | cons b l =>
        rw [List.map_cons] at e2
        injection e2 with e2 e3
        exact ⟨b :: a :: l, by rw [List.map_cons, List.map_cons, e1, e2, e3], .swap _ _ _⟩
  | trans _ _ i1 i2 =>
    intro l e
    obtain ⟨m, h1, h2⟩ := i2 e
    obtain ⟨n, h3, h4⟩ := i1 h1
    exact ⟨n, h3, h4.trans h2⟩
theorem map_erase {α β : Type} (f : α → β) : ∀ (l : List α) (j : Nat), (l.map f).eraseIdx j = (l.eraseIdx j).map f
  | [], _ => rfl
  | _ :: _, 0 => rfl
  | a :: l, j + 1 => congrArg (f a :: ·) (map_erase f l j)
def mkS (l : List Nat) : Str := ⟨l.toArray⟩
def oneS (c : Nat) : Str := ⟨#[c]⟩
theorem mkS_cps (l : List Nat) : (mkS l).cps.toList = l := rfl
theorem mkS_len (l : List Nat) : (mkS l).length = l.length := rfl
theorem mkS_inj {l m : List Nat} (h : mkS l = mkS m) : l = m := congrArg (fun z : Str => z.cps.toList) h
theorem mkS_app (a b : List Nat) : mkS a ++ mkS b = mkS (a ++ b) := by
  show (⟨a.toArray ++ b.toArray⟩ : Str) = ⟨(a ++ b).toArray⟩
  exact congrArg Str.mk (by simp)
theorem nm_mk {l : List Nat} (h1 : 1 ≤ l.length) (h2 : l.length ≤ 8) (h3 : l.all letC = true) : Nm (mkS l) := by
  show (decide (1 ≤ l.length) && decide (l.length ≤ 8) && l.all letC) = true
  rw [decide_eq_true h1, decide_eq_true h2, h3]
  rfl
theorem one_join1 : ∀ cs : List Nat, Str.join "" (cs.map fun c => (⟨#[c]⟩ : Str)) = mkS cs
  | [] => rfl
  | [c] => rfl
  | c :: d :: l => by
    have ih := one_join1 (d :: l)
    show (⟨#[c]⟩ : Str) ++ "" ++ Str.join "" ((d :: l).map fun c => (⟨#[c]⟩ : Str)) = _
    rw [ih]
    show mkS [c] ++ mkS [] ++ mkS (d :: l) = _
    rw [mkS_app, mkS_app]
    rfl
theorem one_cps (cs : List Nat) : Txt.join "" (cs.map fun c => (⟨#[c]⟩ : Str)) = mkS cs := by
  show Builtin.Str.glued "" (cs.map fun c => (⟨#[c]⟩ : Str)) = _
  rw [StrLaws.glued_eq_join, one_join1]
theorem cut_pre (l : List Nat) {k : Nat} (h : k ≤ l.length) : cutS (mkS l) none (some (k : Int)) = mkS (l.take k) := by
  unfold cutS
  rw [HT.sIx_none, HT.sIx_nat, Nat.sub_zero, mkS_len, Nat.min_eq_left h]
  rfl
theorem cut_suf (l : List Nat) {k : Nat} (h : k ≤ l.length) : cutS (mkS l) (some (k : Int)) none = mkS (l.drop k) := by
  unfold cutS
  rw [HT.sIx_none, HT.sIx_nat, mkS_len, Nat.min_eq_left h]
  show (⟨((l.drop k).take (l.length - k)).toArray⟩ : Str) = mkS (l.drop k)
  rw [List.take_of_length_le (by rw [List.length_drop]; exact Nat.le_refl _)]
  rfl
theorem cutV_pre (xs : List V) (k : Nat) : cutV xs none (some (k : Int)) = xs.take k := by
  unfold cutV
  rw [HT.sIx_none, HT.sIx_nat, Nat.sub_zero, List.drop_zero]
  by_cases h : k ≤ xs.length
  · rw [Nat.min_eq_left h]
  · rw [Nat.min_eq_right (by omega), List.take_of_length_le (Nat.le_refl _), List.take_of_length_le (by omega)]
/-- a name: a stem, with a letter in it -/
def wd (st : List Nat) (s c : Nat) : Str := mkS (st.take s ++ [c] ++ st.drop s)
theorem wd_inj {st : List Nat} {s c d : Nat} (h : wd st s c = wd st s d) : c = d := by
  have := mkS_inj h
  have := List.append_cancel_right this
  have := List.append_cancel_left this
  exact (List.cons.inj this).1
theorem wd_nm {st : List Nat} {s c : Nat} (h : st.length ≤ 7) (hs : st.all letC = true) (hc : letC c = true) : Nm (wd st s c) := by
  refine nm_mk ?_ ?_ ?_
  · simp only [List.length_append, List.length_cons]; omega
  · simp only [List.length_append, List.length_cons, List.length_nil, List.length_take, List.length_drop]; omega
  · rw [List.all_append, List.all_append, Bool.and_eq_true, Bool.and_eq_true]
    refine ⟨⟨List.all_eq_true.mpr fun x m => List.all_eq_true.mp hs x (List.mem_of_mem_take m), by simp [hc]⟩, List.all_eq_true.mpr fun x m => List.all_eq_true.mp hs x (List.mem_of_mem_drop m)⟩
/-- the beginnings of a stem of eight letters -/
def pres (st : List Nat) : List Str := [1, 2, 3, 4, 5, 6, 8].map fun k => mkS (st.take k)
theorem pres_ok {st : List Nat} (h : st.length = 8) (hs : st.all letC = true) : (pres st).Nodup ∧ Nms (pres st) := by
  constructor
  · unfold pres
    refine List.Pairwise.map _ (R := fun a b : Nat => a < b ∧ b ≤ 8) (fun a b ⟨l, b8⟩ e => ?_) (by simp)
    have := congrArg List.length (mkS_inj e)
    rw [List.length_take, List.length_take, h] at this
    omega
  · intro w m
    obtain ⟨k, mk, rfl⟩ := List.mem_map.mp m
    have : 1 ≤ k ∧ k ≤ 8 := by
      simp only [List.mem_cons, List.not_mem_nil, or_false] at mk
      omega
    refine nm_mk ?_ ?_ ?_
    · rw [List.length_take, h]; omega
    · rw [List.length_take, h]; omega
    · exact List.all_eq_true.mpr fun x m => List.all_eq_true.mp hs x (List.mem_of_mem_take m)
theorem ones_of : ∀ xs : List V, (∀ (i : Nat) v, xs[i]? = some v → ∃ c : Nat, v = .str ⟨#[c]⟩ ∧ letC c = true) → ∃ cs : List Nat, xs = cs.map (fun c => V.str ⟨#[c]⟩) ∧ cs.all letC = true
  | [], _ => ⟨[], rfl, rfl⟩
  | x :: r, h => by
    obtain ⟨c, hc, l⟩ := h 0 x rfl
    obtain ⟨cs, hcs, ls⟩ := ones_of r fun i v e => h (i + 1) v e
    exact ⟨c :: cs, by rw [hc, hcs]; rfl, by rw [List.all_cons, l, ls]; rfl⟩
theorem ones_room (cs : List Nat) (h : cs.length ≤ 1000) : ((cs.map fun c => (⟨#[c]⟩ : Str)).map (·.length)).sum + (cs.map fun c => (⟨#[c]⟩ : Str)).length * ("" : Str).length ≤ 16777216 := by
  rw [ones_sum]
  show cs.length + _ * 0 ≤ _
  omega
theorem ones_list {K : PySem.W.Frag} {H : Hp} {D : Addr} {cs : List Nat} (hD : H D = some (.lst (cs.map fun c => V.str ⟨#[c]⟩))) : SqL K H D ((cs.map fun c => (⟨#[c]⟩ : Str)).map V.str) := SqL.of (by rw [hD, List.map_map]; rfl)
theorem az_ok : ("abcdefghijklmnopqrstuvwxyz" : Str).cps.toList.Nodup ∧ ("abcdefghijklmnopqrstuvwxyz" : Str).cps.toList.all letC = true ∧ ("abcdefghijklmnopqrstuvwxyz" : Str).cps.toList.length = 26 := by
  refine ⟨by decide +kernel, by decide +kernel, by decide +kernel⟩
theorem mem_folT {ps : List Tw} {r y : Str} : y ∈ folT ps r ↔ (r, y) ∈ ps := by
  unfold folT
  rw [List.mem_map]
  constructor
  · rintro ⟨⟨a, b⟩, m, rfl⟩
    obtain ⟨m, c⟩ := List.mem_filter.mp m
    rw [decide_eq_true_eq] at c
    exact c ▸ m
  · intro m
    exact ⟨(r, y), List.mem_filter.mpr ⟨m, decide_eq_true rfl⟩, rfl⟩
theorem idx_take {ws : List Str} {z : Str} (m : z ∈ ws) (n : Nat) : ws.idxOf z < n ↔ z ∈ ws.take n := by
  have lt := List.idxOf_lt_length_of_mem m
  constructor
  · intro h
    refine List.mem_iff_getElem?.mpr ⟨ws.idxOf z, ?_⟩
    rw [List.getElem?_take, if_pos h, List.getElem?_eq_getElem lt, List.getElem_idxOf]
  · intro h
    obtain ⟨j, hj⟩ := List.mem_iff_getElem?.mp h
    have lj : j < n := by
      by_cases c : j < n
      · exact c
      · rw [List.getElem?_take, if_neg c] at hj
        cases hj
    rw [List.getElem?_take, if_pos lj] at hj
    have := idx_le hj
    omega
/-- the search for a low way: seen, and whose turns are all walked -/
structure LowI (E : List Tw) (P : Str → Prop) (ws : List Str) (one two : Str) (seen C : List Str) : Prop where
  nd : seen.Nodup
  sub : ∀ x ∈ seen, x ∈ ws
  st : one ∈ seen
  re : ∀ x ∈ seen, x = one ∨ (P x ∧ Rch E P one x)
  cl : ∀ x ∈ C, ∀ y, (x, y) ∈ E → y ≠ two ∧ (P y → y ∈ seen)
theorem LowI.start {E : List Tw} {P : Str → Prop} {ws : List Str} {one two : Str} (m : one ∈ ws) : LowI E P ws one two [one] [] :=
  ⟨nd1, fun x h => by rw [List.mem_singleton.mp h]; exact m, List.mem_singleton.mpr rfl, fun x h => .inl (List.mem_singleton.mp h), fun x h => nomatch h⟩
theorem LowI.rch {E : List Tw} {P : Str → Prop} {ws : List Str} {one two x y : Str} {seen C : List Str} (h : LowI E P ws one two seen C) (mx : x ∈ seen) (e : (x, y) ∈ E) : Rch E P one y := by
  rcases h.re x mx with rfl | ⟨p, r⟩
  · exact .edge e
  · exact .step r p e
theorem LowI.add {E : List Tw} {P : Str → Prop} {ws : List Str} {one two x y : Str} {seen C : List Str} (h : LowI E P ws one two seen C) (mx : x ∈ seen) (e : (x, y) ∈ E) (p : P y) (n : y ∉ seen) (my : y ∈ ws) : LowI E P ws one two (seen ++ [y]) C := by
  refine ⟨List.nodup_append.mpr ⟨h.nd, nd1, fun a ha b hb => by rw [List.mem_singleton.mp hb]; exact fun q => n (q ▸ ha)⟩, fun z m => ?_, List.mem_append_left _ h.st, fun z m => ?_, fun z m w ew => ?_⟩
  · rcases List.mem_append.mp m with m | m
    · exact h.sub z m
    · rw [List.mem_singleton.mp m]
      exact my
  · rcases List.mem_append.mp m with m | m
    · exact h.re z m
    · rw [List.mem_singleton.mp m]
      exact .inr ⟨p, h.rch mx e⟩
  · obtain ⟨a, b⟩ := h.cl z m w ew
    exact ⟨a, fun q => List.mem_append_left _ (b q)⟩
theorem LowI.close {E : List Tw} {P : Str → Prop} {ws : List Str} {one two r : Str} {seen C : List Str} (h : LowI E P ws one two seen C) (k : ∀ y ∈ folT E r, y ≠ two ∧ (P y → y ∈ seen)) : LowI E P ws one two seen (C ++ [r]) := by
  refine ⟨h.nd, h.sub, h.st, h.re, fun x m y e => ?_⟩
  rcases List.mem_append.mp m with m | m
  · exact h.cl x m y e
  · rw [List.mem_singleton.mp m] at e
    exact k y (mem_folT.mpr e)
theorem LowI.no {E : List Tw} {P : Str → Prop} {ws : List Str} {one two : Str} {seen C : List Str} (h : LowI E P ws one two seen C) (all : ∀ x ∈ seen, x ∈ C) : ¬ Rch E P one two := by
  have key : ∀ {t}, Rch E P one t → t ≠ two ∧ (P t → t ∈ seen) := by
    intro t r
    induction r with
    | edge e => exact h.cl one (all one h.st) _ e
    | step _ p e ih => exact h.cl _ (all _ (ih.2 p)) _ e
  exact fun r => (key r).1 rfl
/-- the search for what one reaches through placed roads -/
structure FarI (E : List Tw) (P : List Str) (ws : List Str) (r : Str) (seen vis found C : List Str) : Prop where
  nds : seen.Nodup
  ndv : vis.Nodup
  ndf : found.Nodup
  sub : ∀ x ∈ seen, x ∈ ws
  st : r ∈ vis
  vs : ∀ x, x ∈ vis ↔ x ∈ seen ∧ (x = r ∨ x ∈ P)
  fs : ∀ x, x ∈ found ↔ x ∈ seen ∧ ¬ (x = r ∨ x ∈ P)
  re : ∀ x ∈ seen, x = r ∨ Rch E (fun x => x ∈ P) r x
  cl : ∀ x ∈ C, ∀ y, (x, y) ∈ E → y ∈ seen
theorem FarI.start {E : List Tw} {P ws : List Str} {r : Str} (m : r ∈ ws) : FarI E P ws r [r] [r] [] [] :=
  ⟨nd1, nd1, List.nodup_nil, fun x h => by rw [List.mem_singleton.mp h]; exact m, List.mem_singleton.mpr rfl, fun x => by rw [List.mem_singleton]; exact ⟨fun e => ⟨e, .inl e⟩, fun e => e.1⟩, fun x => by rw [List.mem_singleton]; exact ⟨fun e => (nomatch e), fun e => absurd (.inl e.1) e.2⟩, fun x h => .inl (List.mem_singleton.mp h), fun x h => nomatch h⟩
theorem FarI.add {E : List Tw} {P ws : List Str} {r x y : Str} {seen vis found C : List Str} (h : FarI E P ws r seen vis found C) (mx : x ∈ vis) (e : (x, y) ∈ E) (n : y ∉ seen) (my : y ∈ ws) :
    (y ∈ P → FarI E P ws r (seen ++ [y]) (vis ++ [y]) found C) ∧ (y ∉ P → FarI E P ws r (seen ++ [y]) vis (found ++ [y]) C) := by
  have ns : r ∈ seen := ((h.vs r).mp h.st).1
  have ner : y ≠ r := fun q => n (q ▸ ns)
  have re : Rch E (fun x => x ∈ P) r y := by
    obtain ⟨ms, p⟩ := (h.vs x).mp mx
    by_cases c : x = r
    · rw [c] at e
      exact .edge e
    · rcases h.re x ms with q | q
      · exact absurd q c
      · exact .step q (p.resolve_left c) e
  have nds : (seen ++ [y]).Nodup := List.nodup_append.mpr ⟨h.nds, nd1, fun a ha b hb => by rw [List.mem_singleton.mp hb]; exact fun q => n (q ▸ ha)⟩
  have sub : ∀ z ∈ seen ++ [y], z ∈ ws := fun z m => by
    rcases List.mem_append.mp m with m | m
    · exact h.sub z m
    · rw [List.mem_singleton.mp m]
      exact my
  have res : ∀ z ∈ seen ++ [y], z = r ∨ Rch E (fun x => x ∈ P) r z := fun z m => by
    rcases List.mem_append.mp m with m | m
    · exact h.re z m
    · rw [List.mem_singleton.mp m]
      exact .inr re
  have cl : ∀ x ∈ C, ∀ w, (x, w) ∈ E → w ∈ seen ++ [y] := fun x m w ew => List.mem_append_left _ (h.cl x m w ew)
  refine ⟨fun p => ⟨nds, ?_, h.ndf, sub, List.mem_append_left _ h.st, fun z => ?_, fun z => ?_, res, cl⟩, fun p => ⟨nds, h.ndv, ?_, sub, h.st, fun z => ?_, fun z => ?_, res, cl⟩⟩
  · exact List.nodup_append.mpr ⟨h.ndv, nd1, fun a ha b hb => by rw [List.mem_singleton.mp hb]; exact fun q => n (q ▸ ((h.vs a).mp ha).1)⟩
  · rw [List.mem_append, List.mem_append, List.mem_singleton, h.vs]
    constructor
    · rintro (⟨a, b⟩ | rfl)
      · exact ⟨.inl a, b⟩
      · exact ⟨.inr rfl, .inr p⟩
    · rintro ⟨a | a, b⟩
      · exact .inl ⟨a, b⟩
      · exact .inr a
  · rw [List.mem_append, List.mem_singleton, h.fs]
    constructor
    · rintro ⟨a, b⟩
      exact ⟨.inl a, b⟩
    · rintro ⟨a | rfl, b⟩
      · exact ⟨a, b⟩
      · exact absurd (.inr p) b
  · exact List.nodup_append.mpr ⟨h.ndf, nd1, fun a ha b hb => by rw [List.mem_singleton.mp hb]; exact fun q => n (q ▸ ((h.fs a).mp ha).1)⟩
  · rw [List.mem_append, List.mem_singleton, h.vs]
    constructor
    · rintro ⟨a, b⟩
      exact ⟨.inl a, b⟩
    · rintro ⟨a | rfl, b⟩
      · exact ⟨a, b⟩
      · exact absurd b (fun b => b.elim ner p)
  · rw [List.mem_append, List.mem_append, List.mem_singleton, h.fs]
    constructor
    · rintro (⟨a, b⟩ | rfl)
      · exact ⟨.inl a, b⟩
      · exact ⟨.inr rfl, fun b => b.elim ner p⟩
    · rintro ⟨a | a, b⟩
      · exact .inl ⟨a, b⟩
      · exact .inr a
theorem FarI.close {E : List Tw} {P ws : List Str} {r x : Str} {seen vis found C : List Str} (h : FarI E P ws r seen vis found C) (k : ∀ y ∈ folT E x, y ∈ seen) : FarI E P ws r seen vis found (C ++ [x]) := by
  refine ⟨h.nds, h.ndv, h.ndf, h.sub, h.st, h.vs, h.fs, h.re, fun z m y e => ?_⟩
  rcases List.mem_append.mp m with m | m
  · exact h.cl z m y e
  · rw [List.mem_singleton.mp m] at e
    exact k y (mem_folT.mpr e)
theorem FarI.all {E : List Tw} {P ws : List Str} {r : Str} {seen vis found C : List Str} (h : FarI E P ws r seen vis found C) (all : ∀ x ∈ vis, x ∈ C) (nr : r ∉ P) (t : Str) : t ∈ found ↔ t ∉ P ∧ r ≠ t ∧ Rch E (fun x => x ∈ P) r t := by
  have key : ∀ {t}, Rch E (fun x => x ∈ P) r t → t ∈ seen := by
    intro t q
    induction q with
    | edge e => exact h.cl r (all r h.st) _ e
    | step _ p e ih => exact h.cl _ (all _ ((h.vs _).mpr ⟨ih, .inr p⟩)) _ e
  rw [h.fs, not_or]
  constructor
  · rintro ⟨a, b, c⟩
    exact ⟨c, fun q => b q.symm, (h.re t a).resolve_left b⟩
  · rintro ⟨a, b, c⟩
    exact ⟨key c, fun q => b q.symm, a⟩
section
variable {P : Program} {w : World} {K : PySem.W.Frag} {mg : Str → Option Value} {base : Heap} {x : Str} {st : Stmt} {f : Addr} {fd : FuncData} {N : List Str} {k : Nat} {p1 p2 p3 p4 : Str}
open C8 (Def fnScope fnBody)
theorem fn4 {g : V → V → V → V → Hp → VK → Prop} (F : Def K mg x st f fd) (S : FnScope N [p1, p2, p3, p4] (fnScope st))
    (body : ∀ (cdv : Value) (A : Around) (outer : List Env) (s : Shared) (H : Hp) (a b c d : V) (Q : VK) (E : XK), Room k (A.deeper (envOfC x (fnScope st) s.heap.objs.size f cdv)) → g a b c d H Q →
      ∃ t, PSs (cxOf C8.CX0 P w K mg base N x (fnScope st) f cdv A outer s H E).nox (fnBody st) t ∧ t { nx := fun _ H' => Q .non H', rt := Q } (L2.start N [a, b, c, d]) H) : FnOk P w K mg base C8.CX0 (k + 1) f fd [p1, p2, p3, p4] (sp4 g) := by
  refine C8.fn0 F.fn S ?_ ?_
  · rintro vs H Q E ⟨a, b, c, d, rfl, _⟩
    rfl
  · rintro cdv A outer s H vs Q E hr ⟨a, b, c, d, rfl, h⟩
    exact body cdv A outer s H a b c d Q E hr h
end
/-- what the low pairs are -/
def IsLow (E : List Tw) (ws order : List Str) (fs : List Tw) : Prop := fs.Nodup ∧ ∀ s t, (s, t) ∈ fs ↔ s ∈ ws ∧ t ∈ ws ∧ s ≠ t ∧ Rch E (fun x => x ∈ order.take (min (order.idxOf s) (order.idxOf t))) s t
theorem IsLow.sort {E : List Tw} {ws ws' order : List Str} {fs gs : List Tw} (h : IsLow E ws order fs) (k : IsLow E ws' order gs) (e : ∀ r, r ∈ ws ↔ r ∈ ws') : fs.mergeSort twLe = gs.mergeSort twLe := by
  refine lin_tw.perm (nodup_perm h.1 k.1 fun q => ?_)
  obtain ⟨a, b⟩ := q
  rw [h.2, k.2, e, e]
/-- a road, and the list of what one reaches from it -/
def FarS (E : List Tw) (P ws : List Str) (r : Str) (fs : List Str) : Prop := fs.Nodup ∧ ∀ t, t ∈ fs ↔ t ∈ ws ∧ t ∉ P ∧ r ≠ t ∧ Rch E (fun x => x ∈ P) r t
def WayV (E : List Tw) (P ws : List Str) (H : Hp) (v : V) (r : Str) : Prop := ∃ t L fs, v = .ref t ∧ H t = some (.tup [.str r, .ref L]) ∧ H L = some (.lst (fs.map V.str)) ∧ FarS E P ws r fs
theorem WayV.mono {E : List Tw} {P ws : List Str} {H H' : Hp} {v : V} {r : Str} (h : WayV E P ws H v r) (e : Same H H') : WayV E P ws H' v r := by
  obtain ⟨t, L, fs, a, b, c, d⟩ := h
  exact ⟨t, L, fs, a, e _ _ b, e _ _ c, d⟩
theorem rest_nil {ws P : List Str} (ndw : ws.Nodup) (lt : P.length < ws.length) : (ws.filter fun r => decide (r ∉ P)) ≠ [] := by
  intro e
  have : ws.length ≤ P.length := nd_le ndw fun x m => Classical.byContradiction fun n => by
    have : x ∈ ws.filter fun r => decide (r ∉ P) := List.mem_filter.mpr ⟨m, decide_eq_true n⟩
    rw [e] at this
    cases this
  omega
theorem rest_more {ws P : List Str} {r : Str} : ((ws.filter fun x => decide (x ∉ P)).filter fun x => decide (x ≠ r)) = ws.filter fun x => decide (x ∉ P ++ [r]) := by
  rw [List.filter_filter]
  refine List.filter_congr fun x _ => ?_
  rw [Bool.eq_iff_iff, Bool.and_eq_true, decide_eq_true_eq, decide_eq_true_eq, decide_eq_true_eq, List.mem_append, not_or, List.mem_singleton]
  exact and_comm
theorem JtsV.app {H : Hp} : ∀ {xs : List V} {ps : List Jt}, JtsV H xs ps → ∀ {ys : List V} {qs : List Jt}, JtsV H ys qs → JtsV H (xs ++ ys) (ps ++ qs)
  | _, _, .nil, _, _, h => h
  | _, _, .cons a t, _, _, h => .cons a (JtsV.app t h)
theorem lk_sts {n : Nat} {l : List Str} (h : l.length ≤ 1000) : Lk (n + 2) (.list (l.map .str)) := by
  refine ⟨by rw [List.length_map]; omega, fun d hd => ?_⟩
  obtain ⟨z, _, rfl⟩ := List.mem_map.mp hd
  exact trivial
theorem lk_tws {n : Nat} {l : List Tw} (h : l.length ≤ 10000) : Lk (n + 3) (.list (l.map twD)) := by
  refine ⟨by rw [List.length_map]; omega, fun d hd => ?_⟩
  obtain ⟨p, _, rfl⟩ := List.mem_map.mp hd
  refine ⟨(show 2 ≤ 100000 by decide), fun d hd => ?_⟩
  simp only [List.mem_cons, List.not_mem_nil, or_false] at hd
  rcases hd with rfl | rfl
  · exact trivial
  · exact trivial
theorem dp_sts {K : PySem.W.Frag} {H : Hp} {D : Addr} {l : List Str} (h : H D = some (.lst (l.map V.str))) : Dp K H (.ref D) (.list (l.map .str)) := .lst (SqL.of h) (dp_strs' l)
theorem dp_tws {K : PySem.W.Frag} {H : Hp} {D : Addr} {xs : List V} {l : List Tw} (h : H D = some (.lst xs)) (t : TwsV H xs l) : Dp K H (.ref D) (.list (l.map twD)) := .lst (SqL.of h) t.dp
/-- the roads and turns of a law's shape -/
structure Rts (H : Hp) (D F : Addr) (ws : List Str) (ps : List Tw) : Prop where
  hD : H D = some (.lst (ws.map V.str))
  hF : ∃ xs, H F = some (.lst xs) ∧ TwsV H xs ps
  lw : ws.length ≤ 10
  lp : ps.length ≤ 14
  nm : Nms ws
  ndw : ws.Nodup
  ndp : ps.Nodup
  so : ps.Pairwise fun a b => twLe a b = true
  hE : ∀ q ∈ ps, q.1 ∈ ws ∧ q.2 ∈ ws ∧ q.1 ≠ q.2
theorem Rts.mono {H H' : Hp} {D F : Addr} {ws : List Str} {ps : List Tw} (h : Rts H D F ws ps) (e : Same H H') : Rts H' D F ws ps := by
  obtain ⟨xs, a, b⟩ := h.hF
  exact ⟨e _ _ h.hD, ⟨xs, e _ _ a, b.kp (Same.kpt e)⟩, h.lw, h.lp, h.nm, h.ndw, h.ndp, h.so, h.hE⟩
theorem IsLow.len {E : List Tw} {ws order : List Str} {fs : List Tw} (h : IsLow E ws order fs) (l : ws.length ≤ 100) : fs.length ≤ 10000 := by
  have e : fs.length ≤ (ws.flatMap fun a => ws.map fun b => (a, b)).length := nd_le h.1 fun p m => by
    obtain ⟨a, b⟩ := p
    have := (h.2 a b).mp m
    exact List.mem_flatMap.mpr ⟨a, this.1, List.mem_map.mpr ⟨b, this.2.1, rfl⟩⟩
  rw [List.length_flatMap] at e
  simp only [List.length_map, List.map_const', List.sum_replicate_nat] at e
  have := Nat.mul_le_mul l l
  omega
end Fb

set_option Elab.async false
set_option linter.all false
set_option maxRecDepth 100000
set_option maxHeartbeats 4000000
/-! plans on the heap -/
namespace Fb
open PySem PySem.Spec L2
open PyProof.Rows hiding St
def plF (R T : Addr) : List (Str × V) := [("_ranks", .ref R), ("_pairs", .ref T)]
theorem plF_r {R T : Addr} : (plF R T).lookup ("_ranks" : Str) = some (.ref R) := lk_hit
theorem plF_p {R T : Addr} : (plF R T).lookup ("_pairs" : Str) = some (.ref T) := (lk_miss (by decide +kernel)).trans lk_hit
theorem plF_no {R T : Addr} {m : Str} (h1 : (m == ("_ranks" : Str)) = false) (h2 : (m == ("_pairs" : Str)) = false) : (plF R T).lookup m = none := (lk_miss h1).trans ((lk_miss h2).trans rfl)
/-- the places of an order -/
def rankD (l : List Str) : List (Key × V) := l.zipIdx.map fun p => (nmK p.1, .int p.2)
def pairD (ps : List Tw) : List (List Key × V) := ps.map fun p => (twK p, .bl true)
def PlanAt (C : Addr) (H : Hp) (x : Addr) (order : List Str) (ps : List Tw) : Prop := ∃ dx R T, H x = some (.ins C dx (plF R T)) ∧ H R = some (.dK (rankD order)) ∧ H T = some (.dT (pairD ps))
theorem PlanAt.mono {C : Addr} {H H' : Hp} {x : Addr} {order : List Str} {ps : List Tw} (h : PlanAt C H x order ps) (e : Same H H') : PlanAt C H' x order ps := by
  obtain ⟨dx, R, T, a, b, c⟩ := h
  exact ⟨dx, R, T, e _ _ a, e _ _ b, e _ _ c⟩
theorem rankD_keys (l : List Str) : (rankD l).map Prod.fst = l.map nmK := by
  unfold rankD
  rw [List.map_map]
  have : ∀ (n : Nat) (l : List Str), (l.zipIdx n).map (Prod.fst ∘ fun p : Str × Nat => (nmK p.1, V.int p.2)) = l.map nmK := by
    intro n l
    induction l generalizing n with
    | nil => rfl
    | cons a l ih =>
      rw [List.zipIdx_cons, List.map_cons, List.map_cons, ih]
      rfl
  exact this 0 l
theorem rankD_len (l : List Str) : (rankD l).length = l.length := by
  unfold rankD
  rw [List.length_map, List.length_zipIdx]
theorem pairD_keys (ps : List Tw) : (pairD ps).map Prod.fst = ps.map twK := by
  unfold pairD
  rw [List.map_map]
  rfl
theorem pairD_len (ps : List Tw) : (pairD ps).length = ps.length := List.length_map ..
theorem rankD_snoc (l : List Str) (z : Str) : rankD (l ++ [z]) = rankD l ++ [(nmK z, .int (l.length : Nat))] := by
  unfold rankD
  rw [List.zipIdx_append, List.map_append]
  simp
theorem rankD_none {l : List Str} {z : Str} (h : z ∉ l) : valV (rankD l) (nmK z) = none := by
  cases c : valV (rankD l) (nmK z) with
  | none => rfl
  | some v =>
    have := val_in (rankD_keys l) z
    rw [show valV (rankD l) (Sum.inr z) = some v from c, decide_eq_false h] at this
    cases this
theorem rankD_get {l : List Str} {i : Nat} {k : Key} {v : V} (h : (rankD l)[i]? = some (k, v)) : ∃ z, l[i]? = some z ∧ k = Sum.inr z := by
  have := congrArg (fun l => l[i]?) (rankD_keys l)
  simp only [List.getElem?_map, h, Option.map_some] at this
  cases c : l[i]? with
  | none =>
    rw [c] at this
    cases this
  | some z =>
    rw [c] at this
    exact ⟨z, rfl, Option.some.inj this⟩
/-- the dict of pairs as it grows -/
theorem pairD_put {ps : List Tw} {p : Tw} : putK (pairD ps) (twK p) (.bl true) = pairD (uqS ps p) := by
  have mem : twK p ∈ (pairD ps).map Prod.fst ↔ p ∈ ps := by
    rw [pairD_keys]
    exact ⟨fun m => by
      obtain ⟨q, mq, e⟩ := List.mem_map.mp m
      exact twK_inj e ▸ mq, fun m => List.mem_map.mpr ⟨p, m, rfl⟩⟩
  have an : ((pairD ps).any fun kv => decide (kv.1 = twK p)) = decide (p ∈ ps) := by
    rw [valV_any, val_some]
    exact decide_eq_decide.mpr mem
  unfold putK uqS
  rw [an]
  by_cases c : p ∈ ps
  · rw [if_pos (decide_eq_true c), if_pos c]
    unfold pairD
    rw [List.map_map]
    refine List.map_congr_left fun q _ => ?_
    show (if twK q = twK p then (twK q, V.bl true) else (twK q, V.bl true)) = _
    split <;> rfl
  · rw [if_neg (by rw [decide_eq_false c]; exact Bool.false_ne_true), if_neg c]
    unfold pairD
    rw [List.map_append]
    rfl
/-- the sorted list, without twins, of the pairs that are P -/
structure Prs (P : Tw → Prop) (rs : List Tw) : Prop where
  nd : rs.Nodup
  so : rs.Pairwise fun a b => twLe a b = true
  mem : ∀ q, q ∈ rs ↔ P q
theorem Prs.uniq {P : Tw → Prop} {rs qs : List Tw} (h : Prs P rs) (k : Prs P qs) : rs = qs :=
  lin_tw.uniq h.so k.so (nodup_perm h.nd k.nd fun q => (h.mem q).trans (k.mem q).symm)
theorem Prs.iff {P P' : Tw → Prop} {rs : List Tw} (h : Prs P rs) (e : ∀ q, P q ↔ P' q) : Prs P' rs := ⟨h.nd, h.so, fun q => (h.mem q).trans (e q)⟩
theorem Prs.of_uq {ts : List Tw} : Prs (fun q => q ∈ ts) (uq (ts.mergeSort twLe)) :=
  ⟨uq_nd _, (lin_tw.sorted ts).sublist (uq_sub _), fun q => by rw [uq_mem, List.mem_mergeSort]⟩
/-- a low pair -/
def LowP (E : List Tw) (order : List Str) (q : Tw) : Prop := q.1 ∈ order ∧ q.2 ∈ order ∧ q.1 ≠ q.2 ∧ Rch E (fun x => x ∈ order.take (min (order.idxOf q.1) (order.idxOf q.2))) q.1 q.2
theorem IsLow.lowP {E : List Tw} {ws order : List Str} {fs : List Tw} (h : IsLow E ws order fs) (e : ∀ r, r ∈ order ↔ r ∈ ws) (q : Tw) : q ∈ fs ↔ LowP E order q := by
  obtain ⟨s, t⟩ := q
  rw [h.2]
  unfold LowP
  rw [e, e]
/-- a plan's order fitted to roads -/
def fitO (order ws : List Str) : List Str := order.filter (fun r => decide (r ∈ ws)) ++ ws.filter fun r => decide (r ∉ order)
theorem fitO_ok {order ws : List Str} (h : order.Nodup) (k : ws.Nodup) : (fitO order ws).Nodup ∧ ∀ r, r ∈ fitO order ws ↔ r ∈ ws := by
  refine ⟨List.nodup_append.mpr ⟨h.filter _, k.filter _, fun a ha b hb e => ?_⟩, fun r => ?_⟩
  · rw [List.mem_filter] at ha hb
    rw [e] at ha
    exact (of_decide_eq_true hb.2) ha.1
  · unfold fitO
    rw [List.mem_append, List.mem_filter, List.mem_filter, decide_eq_true_eq, decide_eq_true_eq]
    constructor
    · rintro (⟨_, a⟩ | ⟨a, _⟩)
      · exact a
      · exact a
    · intro a
      by_cases c : r ∈ order
      · exact .inl ⟨c, a⟩
      · exact .inr ⟨a, c⟩
/-- does a pair go between roads -/
def bet (ws : List Str) (q : Tw) : Bool := decide (q.1 ∈ ws) && decide (q.2 ∈ ws)
theorem bet_iff {ws : List Str} {q : Tw} : bet ws q = true ↔ q.1 ∈ ws ∧ q.2 ∈ ws := by
  unfold bet
  rw [Bool.and_eq_true, decide_eq_true_eq, decide_eq_true_eq]
theorem TwsV.take {H : Hp} : ∀ {xs : List V} {ps : List Tw}, TwsV H xs ps → ∀ i : Nat, TwsV H (xs.take i) (ps.take i)
  | _, _, .nil, i => by
    rw [List.take_nil, List.take_nil]
    exact .nil
  | _, _, .cons _ _, 0 => .nil
  | _, _, .cons a t, i + 1 => .cons a (TwsV.take t i)
end Fb

set_option Elab.async false
set_option linter.all false
set_option maxRecDepth 100000
set_option maxHeartbeats 4000000
/-! == of dicts whose keys are tuples -/
namespace PySem.W
open PySem PySem.Spec PyProof.Rows
section
variable {prog : Program} {w : World} {K : Type} [DecidableEq K] {knd : HeapKind prog w K} {A : Around} {E : Value → Shared → Prop} {s : Shared}
theorem fb_samePairs {nm : String} {a b : Addr} {xa xb : List (K × Addr × Value)} {Q : Bool → Shared → Prop} (hu : knd.room A) (ha : (a == sysModules) = false) (hb : (b == sysModules) = false)
    (da : s.heap.DictOfH knd a xa) (db : s.heap.DictOfH knd b xb) (hl : xa.length = xb.length)
    (hits : ∀ (i : Nat) (x : K × Addr × Value), xa[i]? = some x → ∃ (j : Nat) (p : Addr × Value), xb[j]? = some (x.1, p) ∧ SeqAt.EqAt A s x.2.2 p.2 true) (h : Q true s) :
    wpAny (model prog w) A (Builtin.Dict.samePairs nm a b) Q E s := by
  obtain ⟨oa, es, ep, hoa, _, hda, hea, hia, _⟩ := da
  obtain ⟨ob, es', ep', hob, _, hdb, heb, hib, hnb⟩ := db
  have hla := size_of_entries hea
  have hlb := size_of_entries heb
  unfold Builtin.Dict.samePairs Builtin.Dict.showsAll
  rw [if_neg (show ¬ (a == sysModules) = true by rw [ha]; exact Bool.false_ne_true), if_neg (show ¬ (b == sysModules) = true by rw [hb]; exact Bool.false_ne_true)]
  refine wpAny_bind (wpAny_pure (wpAny_bind (wpAny_pure ?_)))
  refine wpAny_bind (wpAny_dictEntries hoa hda ?_)
  dsimp only
  refine wpAny_bind (wpAny_dictEntries hob hdb ?_)
  have hsz : es.size = es'.size := by rw [hla, hlb, hl]
  rw [if_neg (by rw [hsz]; simp)]
  refine wpAny_bind (wpAny_dictEpoch hoa hda ?_)
  refine wpAny_bind ?_
  rw [Std.Legacy.Range.forIn_eq_forIn_range']
  simp only [Std.Legacy.Range.size, Nat.sub_zero, Nat.add_sub_cancel, Nat.div_one]
  refine wpAny_forIn_list _
    (fun rest q s' => s' = s ∧ q = (none, ()) ∧ ∃ i, rest = List.range' i (es.size - i) ∧ i ≤ es.size)
    _ ?_ ?_ _ _ ⟨rfl, rfl, 0, by simp, Nat.zero_le _⟩
  · rintro x rest q s' ⟨rfl, rfl, i, hr, hi⟩
    have hlt : i < es.size := by
      rcases Nat.lt_or_ge i es.size with h | h
      · exact h
      · rw [Nat.sub_eq_zero_of_le h] at hr; simp at hr
    obtain ⟨rfl, hrest⟩ : x = i ∧ rest = List.range' (i + 1) (es.size - (i + 1)) := by
      have e : es.size - i = (es.size - (i + 1)) + 1 := by omega
      rw [e, List.range'_succ] at hr
      injection hr with h1 h2
      exact ⟨h1, h2⟩
    refine wpAny_bind (wpAny_dictEntries hoa hda ?_)
    have hlt' : x < xa.length := by rw [← hla]; exact hlt
    obtain ⟨⟨k, c, v⟩, hkv⟩ : ∃ y, xa[x]? = some y := ⟨xa[x], List.getElem?_eq_getElem hlt'⟩
    have hex : es[x]? = some ⟨knd.hash k, .ref c, v⟩ := by rw [entry_at hea x, hkv]; rfl
    rw [hex]
    obtain ⟨j, p, hj, he⟩ := hits x _ hkv
    have hex' : es'[j]? = some ⟨knd.hash k, .ref p.1, p.2⟩ := by rw [entry_at heb j, hj]; rfl
    have hic : knd.is s'.heap k c := hia _ (List.mem_of_getElem? hkv)
    refine wpAny_bind (wpAny_holding (wpAny_bind (wpAny_dictFind_heap hu hic hob hdb heb hib hnb ?_ ?_)))
    · intro hn
      exact absurd hj (hn j p)
    · intro j2 p2 hj2
      have hex2 : es'[j2]? = some ⟨knd.hash k, .ref p2.1, p2.2⟩ := by rw [entry_at heb j2, hj2]; rfl
      have ej : j2 = j := by
        have l1 : j2 < xb.length := (List.getElem?_eq_some_iff.mp hj2).1
        have l2 : j < xb.length := (List.getElem?_eq_some_iff.mp hj).1
        have a1 : (xb.map (·.1))[j2]? = some k := by rw [List.getElem?_map, hj2]; rfl
        have a2 : (xb.map (·.1))[j]? = some k := by rw [List.getElem?_map, hj]; rfl
        exact (List.getElem?_inj (by rw [List.length_map]; exact l1) hnb).mp (a1.trans a2.symm)
      have ep : p2 = p := by
        rw [ej, hj] at hj2
        injection hj2 with hj2
        injection hj2 with _ hj2
        exact hj2.symm
      refine wpAny_bind (wpAny_dictEntries hob hdb ?_)
      rw [hex2]
      refine wpAny_holding ((ep ▸ he) prog w _ _ ?_)
      show wpAny _ _ (if (!true) = true then _ else _) _ _ _
      rw [if_neg (by decide)]
      refine wpAny_bind (wpAny_dictEpoch hoa hda ?_)
      rw [if_neg (by simp)]
      exact wpAny_pure ⟨rfl, rfl, x + 1, hrest, hlt⟩
  · rintro q s' ⟨rfl, rfl, i, hr, hi⟩
    exact wpAny_pure h
theorem fb_eq_dictH {a b : Addr} {xa xb : List (K × Addr × Value)} {Q : Value → Shared → Prop} (hr : knd.room A.in1) (ha : (a == sysModules) = false) (hb : (b == sysModules) = false)
    (da : s.heap.DictOfH knd a xa) (db : s.heap.DictOfH knd b xb) (hu : A.units < cLine) (hl : xa.length = xb.length)
    (hits : ∀ (i : Nat) (x : K × Addr × Value), xa[i]? = some x → ∃ (j : Nat) (p : Addr × Value), xb[j]? = some (x.1, p) ∧ SeqAt.EqAt A.in1 s x.2.2 p.2 true) (h : Q (.bool true) s) :
    wpAny (model prog w) A (compareOp .Eq (.ref a) (.ref b)) Q E s := by
  refine wpAny_richCompare_same_room (op := .Eq) da.typeIs db.typeIs PySem.F.slot_dict_eq (wpAny_call_entry PySem.F.slot_dict_eq da.typeIs PySem.F.entry_dict_eq ?_ (PySem.F.args_dict_eq_2 _ _)) hu
  show wpAny _ _ (Builtin.Dict.dictSlotArgs "__eq__" ⟨[.ref a, .ref b], []⟩ >>= _) _ _ s
  refine wpAny_bind ?_
  unfold Builtin.Dict.dictSlotArgs
  refine wpAny_bind (wpAny_notOrdered_dict da.typeIs ?_)
  show wpAny _ _ (pure (Value.ref a, Value.ref b)) _ _ s
  refine wpAny_pure ?_
  refine wpAny_bind (wpAny_isInstance (T := "dict") db.typeIs PySem.F.sub_dict_dict ?_)
  simp only [Bool.not_true, Bool.false_eq_true, if_false]
  refine wpAny_bind (wpAny_pure (wpAny_bind (wpAny_pure ?_)))
  refine wpAny_bind (fb_samePairs hr ha hb da db hl hits ?_)
  refine wpAny_pure ⟨_, rfl, ?_, ?_⟩
  · exact fun x => nomatch x
  · exact h
end
end PySem.W
namespace Fb
open PySem PySem.Spec L2
open PyProof.Rows hiding St
theorem prd_get {α β : Type} {R : α → β → Prop} : ∀ {xs : List α} {ys : List β}, Paired R xs ys → ∀ {i : Nat} {x : α} {y : β}, xs[i]? = some x → ys[i]? = some y → R x y
  | _, _, .cons a _, 0, _, _, h, k => by
    cases h
    cases k
    exact a
  | _, _, .cons _ t, i + 1, _, _, h, k => prd_get t (i := i) h k
section
variable {X : Cx}
/-- two dicts of the same tuples and values -/
def rEqDT : R2 := fun x y H Q => ∃ a b kvs, x = .ref a ∧ y = .ref b ∧ H a = some (.dT kvs) ∧ H b = some (.dT kvs) ∧ (∀ p ∈ kvs, flatB p.2 = true) ∧ Q (.bl true) H
theorem op_eqDT (hu : X.A.units + 1 < cLine) : OpR X (compareOp .Eq) rEqDT := by
  intro pins s σ H x y v u Q I rx ry h
  obtain ⟨a, b, kvs, rfl, rfl, ea, eb, fl, q⟩ := h
  obtain rfl : v = Value.ref a := rx
  obtain rfl : u = Value.ref b := ry
  obtain ⟨_, ya, xa, ra, da⟩ := dt_rd I.hok (.inl ea)
  obtain ⟨_, yb, xb, rb, db⟩ := dt_rd I.hok (.inl eb)
  have la : kvs.length = xa.length := Paired.length ra
  have lb : kvs.length = xb.length := Paired.length rb
  refine PySem.W.fb_eq_dictH (tupleKind_room_in1 hu) ya yb da db (by omega) (la.symm.trans lb) (fun i x hx => ?_) ⟨.bl true, H, I, rfl, q⟩
  have li : i < xa.length := (List.getElem?_eq_some_iff.mp hx).1
  have gk : kvs[i]? = some kvs[i] := List.getElem?_eq_getElem (by omega)
  have gb : xb[i]? = some xb[i] := List.getElem?_eq_getElem (by omega)
  obtain ⟨a1, a2, a3⟩ := prd_get ra gk hx
  obtain ⟨b1, b2, b3⟩ := prd_get rb gk gb
  refine ⟨i, xb[i].2, ?_, eqAt_same a3 b3 (fl _ (List.mem_of_getElem? gk))⟩
  rw [gb, ← a1, b1]
end
/-- two plans of the same order and pairs -/
def PlEq (C : Addr) (a b : Addr) (H : Hp) : Prop := ∃ order ps, order.Nodup ∧ PlanAt C H a order ps ∧ PlanAt C H b order ps
theorem pairD_flat (ps : List Tw) : ∀ p ∈ pairD ps, flatB p.2 = true := by
  intro p m
  obtain ⟨q, _, rfl⟩ := List.mem_map.mp m
  rfl
theorem rankD_val {l : List Str} (nd : l.Nodup) : ∀ p ∈ rankD l, valV (rankD l) p.1 = some p.2 ∧ flatB p.2 = true := by
  intro p m
  have hn : ((rankD l).map (·.1)).Nodup := by
    rw [show (rankD l).map (·.1) = l.map nmK from rankD_keys l]
    exact List.Pairwise.map _ (fun a b ne q => ne (by injection q)) nd
  refine ⟨?_, ?_⟩
  · have : ∀ (kvs : List (Key × V)), (kvs.map (·.1)).Nodup → ∀ p ∈ kvs, valV kvs p.1 = some p.2 := by
      intro kvs
      induction kvs with
      | nil => intro _ p m; cases m
      | cons q kvs ih =>
        intro hn p m
        rw [List.map_cons, List.nodup_cons] at hn
        rcases List.mem_cons.mp m with rfl | m
        · exact valV_pos rfl
        · rw [valV_neg (fun e => hn.1 (by rw [e]; exact List.mem_map.mpr ⟨p, m, rfl⟩))]
          exact ih hn.2 p m
    exact this _ hn p m
  · obtain ⟨q, _, rfl⟩ := List.mem_map.mp m
    rfl
theorem idx_hit (a : Str) (l : List Str) : (a :: l).idxOf a = 0 := by
  rw [List.idxOf_cons, beq_self_eq_true]
  rfl
theorem idx_miss {a x : Str} (l : List Str) (h : a ≠ x) : (a :: l).idxOf x = l.idxOf x + 1 := by
  rw [List.idxOf_cons, show (a == x) = false from beq_eq_false_iff_ne.mpr h]
  rfl
theorem idx_filter {p : Str → Bool} {x s : Str} (hx : p x = true) (hs : p s = true) : ∀ {l : List Str}, x ∈ l → s ∈ l → (l.filter p).idxOf x < (l.filter p).idxOf s → l.idxOf x < l.idxOf s
  | [], m, _, _ => nomatch m
  | a :: l, mx, ms, h => by
    by_cases ex : a = x
    · by_cases es : a = s
      · rw [← ex, ← es] at h
        exact absurd h (Nat.lt_irrefl _)
      · rw [idx_miss l es, ← ex, idx_hit]
        exact Nat.succ_pos _
    · have mx' : x ∈ l := (List.mem_cons.mp mx).resolve_left fun q => ex q.symm
      by_cases es : a = s
      · subst es
        rw [List.filter_cons_of_pos hs, idx_hit] at h
        exact absurd h (Nat.not_lt_zero _)
      · have ms' : s ∈ l := (List.mem_cons.mp ms).resolve_left fun q => es q.symm
        have ih := idx_filter hx hs mx' ms'
        rw [idx_miss l ex, idx_miss l es]
        by_cases pa : p a = true
        · rw [List.filter_cons_of_pos pa, idx_miss _ ex, idx_miss _ es] at h
          have := ih (by omega)
          omega
        · rw [List.filter_cons_of_neg pa] at h
          have := ih h
          omega
theorem Rch.sub {E E' : List Tw} {P : Str → Prop} (he : ∀ p ∈ E', p ∈ E) {s t : Str} (r : Rch E' P s t) : Rch E P s t := by
  induction r with
  | edge e => exact .edge (he _ e)
  | step _ p e ih => exact .step ih p (he _ e)
theorem LowP.cut {E E' : List Tw} {order : List Str} {z : Str} {q : Tw} (he : ∀ p ∈ E', p ∈ E) (h : LowP E' (order.filter fun r => decide (r ≠ z)) q) : LowP E order q ∧ q.1 ≠ z ∧ q.2 ≠ z := by
  obtain ⟨m1, m2, ne, r⟩ := h
  obtain ⟨n1, p1⟩ := List.mem_filter.mp m1
  obtain ⟨n2, p2⟩ := List.mem_filter.mp m2
  refine ⟨⟨n1, n2, ne, ?_⟩, of_decide_eq_true p1, of_decide_eq_true p2⟩
  have key : ∀ x, x ∈ (order.filter fun r => decide (r ≠ z)).take (min ((order.filter fun r => decide (r ≠ z)).idxOf q.1) ((order.filter fun r => decide (r ≠ z)).idxOf q.2)) → x ∈ order.take (min (order.idxOf q.1) (order.idxOf q.2)) := by
    intro x mx
    have mx2 := List.mem_of_mem_take mx
    obtain ⟨nx, px⟩ := List.mem_filter.mp mx2
    have lt := (idx_take mx2 _).mpr mx
    refine (idx_take nx _).mp ?_
    have l1 := idx_filter (p := fun r => decide (r ≠ z)) px p1 nx n1 (by omega)
    have l2 := idx_filter (p := fun r => decide (r ≠ z)) px p2 nx n2 (by omega)
    omega
  exact (r.mono key).sub he
theorem fitO_cut {order ws : List Str} {z : Str} (h : ∀ r, r ∈ ws ↔ r ∈ order ∧ r ≠ z) : fitO order ws = order.filter fun r => decide (r ≠ z) := by
  unfold fitO
  rw [show (ws.filter fun r => decide (r ∉ order)) = [] from List.filter_eq_nil_iff.mpr fun r m => by
    have := ((h r).mp m).1
    simp [this], List.append_nil]
  exact List.filter_congr fun r m => decide_eq_decide.mpr ((h r).trans ⟨fun a => a.2, fun a => ⟨m, a⟩⟩)
theorem tch_false {z : Str} {q : Tw} : tch z q = false ↔ q.1 ≠ z ∧ q.2 ≠ z := by
  unfold tch
  rw [decide_eq_false_iff_not, List.mem_cons, List.mem_singleton, not_or]
  exact and_congr ⟨fun h e => h e.symm, fun h e => h e.symm⟩ ⟨fun h e => h e.symm, fun h e => h e.symm⟩
def sp6 (f : V → V → V → V → V → V → Hp → VK → Prop) : Sp := fun vs H Q _ => ∃ a b c d e g, vs = [a, b, c, d, e, g] ∧ f a b c d e g H Q
section
variable {P : Program} {w : World} {K : PySem.W.Frag} {mg : Str → Option Value} {base : Heap} {x : Str} {st : Stmt} {f : Addr} {fd : FuncData} {N : List Str} {k : Nat} {p1 p2 p3 p4 p5 p6 : Str}
open C8 (Def fnScope fnBody)
theorem fn6 {g : V → V → V → V → V → V → Hp → VK → Prop} (F : Def K mg x st f fd) (S : FnScope N [p1, p2, p3, p4, p5, p6] (fnScope st))
    (body : ∀ (cdv : Value) (A : Around) (outer : List Env) (s : Shared) (H : Hp) (a b c d e f' : V) (Q : VK) (E : XK), Room k (A.deeper (envOfC x (fnScope st) s.heap.objs.size f cdv)) → g a b c d e f' H Q →
      ∃ t, PSs (cxOf C8.CX0 P w K mg base N x (fnScope st) f cdv A outer s H E).nox (fnBody st) t ∧ t { nx := fun _ H' => Q .non H', rt := Q } (L2.start N [a, b, c, d, e, f']) H) : FnOk P w K mg base C8.CX0 (k + 1) f fd [p1, p2, p3, p4, p5, p6] (sp6 g) := by
  refine C8.fn0 F.fn S ?_ ?_
  · rintro vs H Q E ⟨a, b, c, d, e, f', rfl, _⟩
    rfl
  · rintro cdv A outer s H vs Q E hr ⟨a, b, c, d, e, f', rfl, h⟩
    exact body cdv A outer s H a b c d e f' Q E hr h
end
/-- a plan that has all low pairs of a shape -/
structure Stf (ws : List Str) (ps : List Tw) (order : List Str) (qs : List Tw) : Prop where
  nm : Nms ws
  ndw : ws.Nodup
  lw : ws.length ≤ 100
  lp : ps.length ≤ 100
  hE : ∀ p ∈ ps, p.1 ∈ ws ∧ p.2 ∈ ws ∧ p.1 ≠ p.2
  ndo : order.Nodup
  mo : ∀ r, r ∈ order ↔ r ∈ ws
  ndq : qs.Nodup
  soq : qs.Pairwise fun a b => twLe a b = true
  lq : qs.length ≤ 10000
  hQ : ∀ p ∈ qs, p.1 ∈ ws ∧ p.2 ∈ ws ∧ p.1 ≠ p.2
  low : ∀ q, LowP ps order q → q ∈ qs
theorem Stf.lo {ws order : List Str} {ps qs : List Tw} (h : Stf ws ps order qs) : order.length ≤ 100 := Nat.le_trans (nd_le h.ndo fun r m => (h.mo r).mp m) h.lw
def cutW (ws : List Str) (z : Str) : List Str := (ws.filter fun r => decide (r ≠ z)).mergeSort stLe
def cutP (ps : List Tw) (z : Str) : List Tw := uq ((ps.filter fun p => !tch z p).mergeSort twLe)
theorem mem_cutW {ws : List Str} {z r : Str} : r ∈ cutW ws z ↔ r ∈ ws ∧ r ≠ z := by
  unfold cutW
  rw [List.mem_mergeSort, List.mem_filter, decide_eq_true_eq]
theorem mem_cutP {ps : List Tw} {z : Str} {q : Tw} : q ∈ cutP ps z ↔ q ∈ ps ∧ q.1 ≠ z ∧ q.2 ≠ z := by
  unfold cutP
  rw [uq_mem, List.mem_mergeSort, List.mem_filter, Bool.not_eq_true', tch_false]
theorem Stf.cut {ws order : List Str} {ps qs : List Tw} (h : Stf ws ps order qs) (z : Str) : Stf (cutW ws z) (cutP ps z) (order.filter fun r => decide (r ≠ z)) (qs.filter fun p => !tch z p) := by
  have mq : ∀ q, q ∈ qs.filter (fun p => !tch z p) ↔ q ∈ qs ∧ q.1 ≠ z ∧ q.2 ≠ z := fun q => by rw [List.mem_filter, Bool.not_eq_true', tch_false]
  refine ⟨fun r m => h.nm r (mem_cutW.mp m).1, ?_, ?_, ?_, fun p m => ?_, h.ndo.filter _, fun r => ?_, h.ndq.filter _, h.soq.sublist List.filter_sublist, Nat.le_trans (List.length_filter_le _ _) h.lq, fun p m => ?_, fun q l => ?_⟩
  · exact (List.mergeSort_perm _ stLe).nodup_iff.mpr (h.ndw.filter _)
  · unfold cutW
    rw [List.length_mergeSort]
    exact Nat.le_trans (List.length_filter_le _ _) h.lw
  · have := uq_len ((ps.filter fun p => !tch z p).mergeSort twLe)
    rw [List.length_mergeSort] at this
    exact Nat.le_trans this (Nat.le_trans (List.length_filter_le _ _) h.lp)
  · obtain ⟨a, b, c⟩ := mem_cutP.mp m
    obtain ⟨d, e, f⟩ := h.hE p a
    exact ⟨mem_cutW.mpr ⟨d, b⟩, mem_cutW.mpr ⟨e, c⟩, f⟩
  · rw [List.mem_filter, decide_eq_true_eq, mem_cutW, h.mo]
  · obtain ⟨a, b, c⟩ := (mq p).mp m
    obtain ⟨d, e, f⟩ := h.hQ p a
    exact ⟨mem_cutW.mpr ⟨d, b⟩, mem_cutW.mpr ⟨e, c⟩, f⟩
  · obtain ⟨a, b, c⟩ := l.cut fun p m => (mem_cutP.mp m).1
    exact (mq q).mpr ⟨h.low q a, b, c⟩
theorem Stf.fit {ws order : List Str} {ps qs : List Tw} (h : Stf ws ps order qs) (z : Str) : fitO order (cutW ws z) = order.filter fun r => decide (r ≠ z) :=
  fitO_cut fun r => by rw [mem_cutW, h.mo]
/-- what the program's ways to the smaller plan give -/
theorem Stf.eq1 {ws order : List Str} {ps qs rs : List Tw} (h : Stf ws ps order qs) (z : Str) (pr : Prs (fun q => LowP (cutP ps z) (order.filter fun r => decide (r ≠ z)) q ∨ (q ∈ qs ∧ q.1 ∈ cutW ws z ∧ q.2 ∈ cutW ws z)) rs) : rs = qs.filter fun p => !tch z p := by
  have hc := h.cut z
  refine pr.uniq ⟨hc.ndq, hc.soq, fun q => ?_⟩
  rw [List.mem_filter, Bool.not_eq_true', tch_false]
  constructor
  · rintro ⟨a, b, c⟩
    obtain ⟨d, e, _⟩ := h.hQ q a
    exact .inr ⟨a, mem_cutW.mpr ⟨d, b⟩, mem_cutW.mpr ⟨e, c⟩⟩
  · rintro (l | ⟨a, b, c⟩)
    · have := hc.low q l
      rw [List.mem_filter, Bool.not_eq_true', tch_false] at this
      exact this
    · exact ⟨a, (mem_cutW.mp b).2, (mem_cutW.mp c).2⟩
theorem Stf.eq2 {ws order : List Str} {ps qs rs : List Tw} (h : Stf ws ps order qs) (pr : Prs (fun q => LowP ps order q ∨ q ∈ qs) rs) : rs = qs :=
  pr.uniq ⟨h.ndq, h.soq, fun q => ⟨.inr, fun m => m.elim (h.low q) id⟩⟩
theorem Stf.eq3 {ws order : List Str} {ps qs rs : List Tw} (h : Stf ws ps order qs) (pr : Prs (fun q => q ∈ qs) rs) : rs = qs :=
  pr.uniq ⟨h.ndq, h.soq, fun _ => Iff.rfl⟩
theorem fitO_self {order ws : List Str} (h : ∀ r, r ∈ order ↔ r ∈ ws) : fitO order ws = order := by
  unfold fitO
  rw [show (ws.filter fun r => decide (r ∉ order)) = [] from List.filter_eq_nil_iff.mpr fun r m => by
    have := (h r).mpr m
    simp [this], List.append_nil]
  exact List.filter_eq_self.mpr fun r m => decide_eq_true ((h r).mp m)
theorem tws_len {ws : List Str} {rs : List Tw} (nd : rs.Nodup) (h : ∀ q ∈ rs, q.1 ∈ ws ∧ q.2 ∈ ws) {n : Nat} (l : ws.length ≤ n) : rs.length ≤ n * n := by
  have e : rs.length ≤ (ws.flatMap fun a => ws.map fun b => (a, b)).length := nd_le nd fun p m => by
    have := h p m
    exact List.mem_flatMap.mpr ⟨p.1, this.1, List.mem_map.mpr ⟨p.2, this.2, rfl⟩⟩
  rw [List.length_flatMap] at e
  simp only [List.length_map, List.map_const', List.sum_replicate_nat] at e
  have := Nat.mul_le_mul l l
  omega
/-- other roads and turns of a law -/
structure Rts2 (H : Hp) (D F : Addr) (ws : List Str) (xs : List V) (ps : List Tw) : Prop where
  hD : H D = some (.lst (ws.map V.str))
  hF : H F = some (.lst xs)
  hxs : TwsV H xs ps
  lw : ws.length ≤ 24
  lp : ps.length ≤ 24
  nm : Nms ws
  ndw : ws.Nodup
  ndp : ps.Nodup
  so : ps.Pairwise fun a b => twLe a b = true
  hE : ∀ q ∈ ps, q.1 ∈ ws ∧ q.2 ∈ ws ∧ q.1 ≠ q.2
end Fb

set_option Elab.async false
set_option linter.all false
set_option maxRecDepth 100000
set_option maxHeartbeats 4000000
/-! a tuple turned about -/
namespace HT
open PySem PySem.Spec PyProof.Rows
section
variable {prog : Program} {w : World} {A : Around} {E : Value → Shared → Prop} {s : Shared}
theorem fb_adjust (n : Nat) : Builtin.Slice.sliceAdjust none none (-1) (n : Int) = ((n : Int) - 1, -1) := by
  unfold Builtin.Slice.sliceAdjust
  rfl
theorem fb_places (n : Nat) : Builtin.Slice.slicePlaces ((n : Int) - 1) (-1) (-1) = n := by
  unfold Builtin.Slice.slicePlaces
  have h1 : ¬ (-1 : Int) > 0 := by omega
  rw [if_neg h1, show -(-1 : Int) = 1 from rfl]
  split
  · rw [Int.ediv_one]
    omega
  · omega
theorem fb_sliceApplied {sl : Addr} {t : Tok} {n : Nat} {Q : Int × Int × Nat → Shared → Prop} (hs : s.heap.IsSliceOf sl .none .none (.int (-1) t))
    (h : Q ((n : Int) - 1, -1, n) s) : wpAny (model prog w) A (Builtin.Slice.sliceApplied (.ref sl) (pure (n : Int))) Q E s := by
  obtain ⟨os, hos, hcs, hds⟩ := id hs
  unfold Builtin.Slice.sliceApplied Builtin.Slice.sliceFields
  refine wpAny_bind (wpAny_bind (wpAny_field hos hds (x := .none) rfl (wpAny_bind (wpAny_field hos hds (x := .none) rfl (wpAny_bind (wpAny_field hos hds (x := .int (-1) t) rfl (wpAny_pure ?_)))))))
  refine wpAny_bind (slicePart_int ?_)
  show wpAny _ _ (if ((-1 : Int) == 0) = true then _ else _) _ _ s
  rw [if_neg (by decide)]
  refine wpAny_bind (slicePart_none (wpAny_bind (slicePart_none (wpAny_bind (wpAny_pure ?_)))))
  show wpAny _ _ (match Builtin.Slice.sliceAdjust none none (-1) (n : Int) with | (lo, hi) => pure (lo, (-1 : Int), Builtin.Slice.slicePlaces lo hi (-1))) _ _ s
  rw [fb_adjust n]
  show wpAny _ _ (pure ((n : Int) - 1, (-1 : Int), Builtin.Slice.slicePlaces ((n : Int) - 1) (-1) (-1))) _ _ s
  rw [fb_places]
  exact wpAny_pure h
theorem fb_fm {α β : Type} {f g : α → Option β} : ∀ {l : List α}, (∀ m ∈ l, f m = g m) → l.filterMap f = l.filterMap g
  | [], _ => rfl
  | a :: l, h => by
    rw [List.filterMap_cons, List.filterMap_cons, h a (List.mem_cons_self ..), fb_fm fun m k => h m (List.mem_cons_of_mem _ k)]
theorem fb_pick (xs : Array Value) : ((List.range xs.size).filterMap fun (m : Nat) => xs[(((xs.size : Int) - 1) + (m : Int) * -1).toNat]?).toArray = xs.toList.reverse.toArray := by
  refine congrArg List.toArray ?_
  have e : (List.range xs.size).filterMap (fun (m : Nat) => xs[(((xs.size : Int) - 1) + (m : Int) * -1).toNat]?) = (List.range xs.size).filterMap fun m => xs.toList.reverse[m]? := by
    refine fb_fm fun m hm => ?_
    have hm := List.mem_range.mp hm
    rw [List.getElem?_reverse (by rw [Array.length_toList]; exact hm), Array.length_toList, Array.getElem?_toList]
    congr 1
    omega
  rw [e]
  have : ∀ l : List Value, (List.range l.length).filterMap (fun m => l[m]?) = l := by
    intro l
    refine List.ext_getElem? fun i => ?_
    have : (List.range l.length).filterMap (fun m => l[m]?) = l := by
      induction l with
      | nil => rfl
      | cons a l ih =>
        rw [List.length_cons, List.range_succ_eq_map, List.filterMap_cons, List.filterMap_map]
        show a :: List.filterMap (fun m => l[m]?) (List.range l.length) = a :: l
        rw [ih]
    rw [this]
  have h := this xs.toList.reverse
  rwa [List.length_reverse, Array.length_toList] at h
theorem fb_getItem_rev {t sl : Addr} {items : Array Value} {tk : Tok} {Q : Value → Shared → Prop} (ht : IsTup s.heap t items) (hs : s.heap.IsSliceOf sl .none .none (.int (-1) tk))
    (h : Q (.ref s.heap.objs.size) { s with heap := s.heap.push { cls := .type "tuple", data := .seq items.toList.reverse.toArray } })
    (hsz : items.size ≤ sizeLine) : wpAny (model prog w) A (getItem (.ref t) (.ref sl)) Q E s := by
  have htake : sizeOk (.seq items.toList.reverse.toArray) := by
    show items.toList.reverse.toArray.size ≤ sizeLine
    rw [List.size_toArray, List.length_reverse, Array.length_toList]
    exact hsz
  obtain ⟨os, hos, hcs, hds⟩ := id hs
  have hTs : s.TypeIs (.ref sl) "slice" := ⟨os, hos, hcs⟩
  unfold getItem
  try with_reducible refine wpAny_holding ?_
  first | refine wpAny_bind (wpAny_pure ?_) | skip
  refine wpAny_bind (wpAny_sequenceKey ht.typeIs (by decide) ?_)
  refine wpAny_bind (wpAny_callSpecial?_slot (name := Str.ofString "__getitem__") ht.typeIs PyProof.Rows.slot_tuple_getitem
    (wpAny_call_entry PyProof.Rows.slot_tuple_getitem ht.typeIs entry_tuple_getitem ?_ (args_tuple_getitem _ _)))
  show wpAny _ _ (Builtin.Tuple.tupleItemsOf (.ref t) >>= _) _ _ s
  refine wpAny_bind (tupleItemsOf_ ht ?_)
  refine wpAny_bind (wpAny_typeOf hTs ?_)
  rw [if_pos (by decide)]
  refine wpAny_bind (fb_sliceApplied hs ?_)
  have hno : ¬ ((((items.size : Int) - 1) == 0 && (-1 : Int) == 1 && items.size == items.size) = true) := by
    intro q
    rw [Bool.and_eq_true, Bool.and_eq_true] at q
    exact absurd q.1.2 (by decide)
  show wpAny _ _ (if (((items.size : Int) - 1) == 0 && (-1 : Int) == 1 && items.size == items.size) = true then _ else _) _ _ s
  rw [if_neg hno, fb_pick]
  first
    | exact wpAny_bind (m := Builtin.Tuple.tupleExact _) (wpAny_newObj_type (wpAny_pure ⟨_, rfl, wpAny_pure h⟩) htake)
    | exact wpAny_bind (m := Builtin.Tuple.tupleExact _) (wpAny_newObj_type (wpAny_bind (wpAny_pure (wpAny_pure ⟨_, rfl, wpAny_pure h⟩))) htake)
    | exact wpAny_bind (wpAny_bind (m := Builtin.Tuple.tupleExact _) (wpAny_newObj_type (wpAny_pure (wpAny_pure ⟨_, rfl, wpAny_pure h⟩)) htake))
    | exact wpAny_bind (wpAny_bind (m := Builtin.Tuple.tupleExact _) (wpAny_newObj_type (wpAny_pure ⟨_, rfl, wpAny_pure h⟩) htake))
end
end HT
namespace Fb
open PySem PySem.Spec L2
open PyProof.Rows hiding St
section
variable {X : Cx}
/-- t[::-1], t a tuple -/
def tRevT (K : PySem.W.Frag) (te : TE) : TE := fun σ H Q => te σ H fun x H1 => ∃ a xs, x = .ref a ∧ SqT K H1 a xs ∧ ∀ p, H1 p = none → Q (.ref p) (upd H1 p (.tup xs.reverse))
theorem pe_revT {K : PySem.W.Frag} (eK : X.K = K) {e : Expr} {te : TE} {k : Nat} {p1 p2 p3 pos : Pos} (he : PE X e te) : PE X (.Subscript e (.Slice none none (some (.UnaryOp .USub (.Constant (.int 1) k p1) p2)) p3) pos) (tRevT K te) := by
  subst eK
  refine ⟨fun pins s σ H Q I h => ?_⟩
  refine Subscript_ (thn (he.run pins s σ H _ I h) fun v s1 ⟨x, H1, I1, r1, q1⟩ => ?_)
  obtain ⟨a, xs, ex, hx, q⟩ := q1
  subst ex
  cases r1
  have hst : PO X (some (.UnaryOp .USub (.Constant (.int 1) k p1) p2)) (tPart (tUn (rU fun i => .int (-i)) (tC (.int 1)))) := po_some (pe_un un_neg pe_int)
  refine wpAny_Slice (thn (po_none.run pins s1 σ H1 (fun o H2 => o = none ∧ H2 = H1) I1 ⟨rfl, rfl⟩) fun vl s2 ⟨l, H2, I2, pl, el, e2⟩ => ?_)
  subst el e2
  refine thn (po_none.run pins s2 σ H2 (fun o H3 => o = none ∧ H3 = H2) I2 ⟨rfl, rfl⟩) fun vu s3 ⟨u, H3, I3, pu, eu, e3⟩ => ?_
  subst eu e3
  refine thn (hst.run pins s3 σ H3 (fun o H4 => o = some (-1) ∧ H4 = H3) I3 ⟨1, rfl, -1, rfl, rfl, rfl⟩) fun vs s4 ⟨o, H4, I4, ps, eo, e4⟩ => ?_
  subst eo e4
  have I5 : Inv X pins σ H4 { s4 with heap := s4.heap.push { cls := .type "slice", data := .fields #[vl, vu, vs] } } := I4.kept (t' := s4.toks) fun b ob q => Heap.get?_push_of_some _ q
  obtain ⟨its, r, ht, hz⟩ := I5.tuple hx
  have hlen := r.length
  cases pl
  cases pu
  cases ps with
  | int _ tk =>
  show wpAny (model X.prog X.w) X.A (subscriptTail e (.Slice none none (some (.UnaryOp .USub (.Constant (.int 1) k p1) p2)) p3) (.ref a) (.ref s4.heap.objs.size)) (EP X pins σ Q) X.xe { s4 with heap := s4.heap.push { cls := .type "slice", data := .fields #[.none, .none, .int (-1) tk] } }
  refine tail_any (ops := [.ref a, .ref s4.heap.objs.size]) ht.typeIs (PyProof.Rows.slot_tuple_getitem.lookup) ?_ (by with_unfolding_all rfl)
  refine HT.fb_getItem_rev ht (Heap.IsSliceOf.new _ .none .none (.int (-1) tk)) ?_ (by rw [List.size_toArray]; omega)
  refine ⟨.ref _, _, I5.laid (t' := s4.toks) (o := .tup xs.reverse) (fun b ob q => Heap.get?_push_of_some _ q) (Nat.le_refl _) ?_, rfl, q _ (I5.hok.fresh (Nat.le_refl _))⟩
  exact ⟨by rw [List.length_reverse]; exact hz, _, r.reverse, IsTup.new _ _⟩
end
/-- slices of tuples of any kind -/
theorem slW_K {X : Cx} {K : PySem.W.Frag} (e : X.K = K) : SlR X (rSlA K) := e ▸ sl_tupA
theorem sl_whole {xs : List V} {lo hi : Option Int} (h : HT.sIx xs.length 0 lo = 0 ∧ HT.sIx xs.length xs.length hi = xs.length) : cutV xs lo hi = xs := by
  unfold cutV
  rw [h.1, h.2, List.drop_zero, Nat.sub_zero, List.take_length]
/-- a slice, whatever it is: a tuple of the cut -/
theorem sl_part {K : PySem.W.Frag} {H : Hp} {a : Addr} {xs : List V} {lo hi : Option Int} {Q : VK} (s : SqT K H a xs) (q : ∀ H' c, Same H H' → SqT K H' c (cutV xs lo hi) → Q (.ref c) H') : rSlA K (.ref a) lo hi H Q := by
  refine ⟨a, xs, rfl, s, fun h => ?_, fun _ p np => q _ p (grow np) (SqT.of upd_same)⟩
  refine q H a (Same.refl _) ?_
  rw [sl_whole h]
  exact s
theorem cutV_mid (xs : List V) (a b : Nat) (h : a ≤ b) (hb : b ≤ xs.length) : cutV xs (some (a : Int)) (some (b : Int)) = (xs.drop a).take (b - a) := by
  unfold cutV
  rw [HT.sIx_nat, HT.sIx_nat, Nat.min_eq_left hb, Nat.min_eq_left (by omega)]
theorem cutV_tail (xs : List V) (a : Nat) : cutV xs (some (a : Int)) none = xs.drop a := by
  unfold cutV
  rw [HT.sIx_nat, HT.sIx_none]
  by_cases h : a ≤ xs.length
  · rw [Nat.min_eq_left h, List.take_of_length_le (by rw [List.length_drop]; exact Nat.le_refl _)]
  · rw [Nat.min_eq_right (by omega), List.drop_of_length_le (Nat.le_refl _), List.drop_of_length_le (by omega), List.take_nil]
theorem rankD_at {l : List Str} (nd : l.Nodup) {z : Str} (m : z ∈ l) : valV (rankD l) (Sum.inr z) = some (.int (l.idxOf z : Nat)) := by
  have lt := List.idxOf_lt_length_of_mem m
  have g : (rankD l)[l.idxOf z]? = some (nmK z, .int (l.idxOf z : Nat)) := by
    unfold rankD
    rw [List.getElem?_map, List.getElem?_zipIdx, List.getElem?_eq_getElem lt, List.getElem_idxOf]
    simp
  exact (rankD_val nd _ (List.mem_of_getElem? g)).1
theorem pairD_in {ps : List Tw} {p : Tw} : (valV (pairD ps) (twK p)).isSome = decide (p ∈ ps) := by
  rw [val_some, pairD_keys]
  refine decide_eq_decide.mpr ⟨fun m => ?_, fun m => List.mem_map.mpr ⟨p, m, rfl⟩⟩
  obtain ⟨q, mq, e⟩ := List.mem_map.mp m
  exact twK_inj e ▸ mq
end Fb

set_option Elab.async false
set_option linter.all false
set_option maxRecDepth 100000
set_option maxHeartbeats 4000000
/-! zip of two tuples whose pairs are kept by a name -/
namespace RZ
open PySem PySem.Spec PyProof.Rows
/-- a zip, whatever it knows of the pair that it handed out -/
abbrev FbZip (h : Heap) (z TI TO : Addr) (f0 : Value) (b : Bool) : Prop :=
  h.get? z = some { cls := .type "zip", dict := none, data := .fields #[f0, .bool b, .bool false, .ref TI, .ref TO], slots := #[] }
def FbOut (f0 : Value) : Prop := f0 = .none ∨ ∃ T : Addr, f0 = rawInt T
section
variable {prog : Program} {w : World} {A : Around} {E : Value → Shared → Prop} {s : Shared}
theorem fb_dead {a : Addr} {Q : Option Obj → Shared → Prop} (h : Q (s.heap.get? a) s) : wpAny (model prog w) A (loadIfAlive a) Q E s := fun _ _ _ => h
theorem fb_own {z TI TO : Addr} {f0 : Value} {b : Bool} {Q : Bool → Shared → Prop} (hf : FbOut f0) (hz : FbZip s.heap z TI TO f0 b) (q1 : Q true s)
    (q2 : ∀ h', FbZip h' z TI TO f0 true → Heap.SameBut z s.heap h' → Q false { s with heap := h' }) : wpAny (model prog w) A (Builtin.SmallTypes.ownedTupleIsFree (.ref z)) Q E s := by
  unfold Builtin.SmallTypes.ownedTupleIsFree
  rcases hf with rfl | ⟨T, rfl⟩
  · exact wpAny_bind (wpAny_field hz rfl (x := .none) rfl (wpAny_pure q1))
  · refine wpAny_bind (wpAny_field hz rfl (x := rawInt T) rfl ?_)
    show wpAny _ _ (loadIfAlive ((T : Int).toNat) >>= _) _ _ _
    rw [Int.toNat_natCast]
    refine wpAny_bind (fb_dead ?_)
    cases hT : s.heap.get? T with
    | none =>
      simp only [Option.isNone_none, if_true]
      exact wpAny_pure q1
    | some oT =>
      simp only [Option.isNone_some, Bool.false_eq_true, if_false]
      refine wpAny_bind (wpAny_field hz rfl (x := .bool b) rfl ?_)
      cases b with
      | true =>
        rw [if_neg (show ¬ ((Value.bool true != Value.bool true) = true) from Bool.false_ne_true)]
        exact wpAny_pure (q2 s.heap hz (Heap.SameBut.refl _ _))
      | false =>
        rw [if_pos (show (Value.bool false != Value.bool true) = true from rfl)]
        exact wpAny_bind (wpAny_setField_rec hz (by simp) fun h₁ hz₁ hs₁ => wpAny_pure (q2 h₁ hz₁ hs₁))
/-- the next pair -/
theorem fb_zip_item {z TI TO i1 i2 l1 l2 : Addr} {k1 k2 : Nat} {xs ys : Array Value} {x y u v f0 : Value} {b : Bool} {Q : Value → Shared → Prop} (D : ZipApart z TI TO i1 i2 l1 l2) (hf : FbOut f0)
    (hz : FbZip s.heap z TI TO f0 b) (hTI : IsPair s.heap TI (.ref i1) (.ref i2)) (hTO : IsPair s.heap TO u v)
    (h1 : s.heap.IsTupleIter i1 l1 k1) (h2 : s.heap.IsTupleIter i2 l2 k2) (hl1 : s.heap.IsTuple l1 xs) (hl2 : s.heap.IsTuple l2 ys) (hx : xs[k1]? = some x) (hy : ys[k2]? = some y)
    (hQ : ∀ h', (∃ f b, FbOut f ∧ FbZip h' z TI TO f b) → (∃ u v, IsPair h' TO u v) → h'.IsTupleIter i1 l1 (k1 + 1) → h'.IsTupleIter i2 l2 (k2 + 1) → IsPair h' s.heap.objs.size x y →
      (∀ c o, c ≠ z → c ≠ TO → c ≠ i1 → c ≠ i2 → s.heap.get? c = some o → h'.get? c = some o) → Q (.ref s.heap.objs.size) { s with heap := h' }) :
    wpAny (model prog w) A (Builtin.«zip.__next__» ⟨[.ref z], []⟩) (fun fin s' => ∃ v, fin = .done (.ret v) ∧ Q v s') E s := by
  show wpAny _ _ (field (.ref z) 2 >>= _) _ _ _
  refine wpAny_bind (wpAny_field hz rfl (x := .bool false) rfl ?_)
  show wpAny _ _ (field (.ref z) 3 >>= _) _ _ _
  refine wpAny_bind (wpAny_field hz rfl (x := .ref TI) rfl ?_)
  refine wpAny_bind (wpAny_seqItems hTI rfl ?_)
  show wpAny _ _ (Builtin.SmallTypes.ownedTupleIsFree (.ref z) >>= _) _ _ _
  refine wpAny_bind (fb_own hf hz ?_ fun h₁ hz₁ hs₁ => ?_)
  · -- its own pair is free
    simp only [if_true]
    refine wpAny_bind (wpAny_rule ?_)
    refine wpAny_bind (wpAny_field hz rfl (x := .ref TO) rfl ?_)
    refine wpAny_bind (wpAny_setField_rec hz (by simp) fun h₁ hz₁ hs₁ => ?_)
    replace hz₁ : FbZip h₁ z TI TO .ellipsis b := hz₁
    refine wpAny_bind ?_
    simp only [List.zipIdx_cons, List.zipIdx_nil, List.forIn_cons, List.forIn_nil]
    refine wpAny_bind (wpAny_bind (wpAny_onRaise ?_))
    show wpAny _ _ (Builtin.SmallTypes.nextOf (.ref i1) >>= _) _ _ _
    refine wpAny_bind (nextOf_tuple_item (h1.extBut hs₁.extBut D.i1z) (hl1.extBut hs₁.extBut D.l1z) hx fun h₂ h1₂ hs₂ => wpAny_pure ?_)
    have hTO₂ : IsPair h₂ TO u v := hs₂.extBut _ _ D.TOi1 (hs₁.extBut _ _ D.TOz hTO)
    refine wpAny_bind (wpAny_seqItems hTO₂ rfl ?_)
    refine wpAny_bind (wpAny_updateSeq_pair hTO₂ fun h₃ hTO₃ hs₃ => ?_)
    replace hTO₃ : IsPair h₃ TO x v := hTO₃
    refine wpAny_bind (wpAny_letGo (wpAny_pure ?_))
    refine wpAny_bind (wpAny_bind (wpAny_onRaise ?_))
    show wpAny _ _ (Builtin.SmallTypes.nextOf (.ref i2) >>= _) _ _ _
    refine wpAny_bind (nextOf_tuple_item (((h2.extBut hs₁.extBut D.i2z).extBut hs₂.extBut D.i12.symm).extBut hs₃.extBut D.TOi2.symm)
      (((hl2.extBut hs₁.extBut D.l2z).extBut hs₂.extBut D.l2i1).extBut hs₃.extBut D.l2TO) hy fun h₄ h2₄ hs₄ => wpAny_pure ?_)
    have hTO₄ : IsPair h₄ TO x v := hs₄.extBut _ _ D.TOi2 hTO₃
    refine wpAny_bind (wpAny_seqItems hTO₄ rfl ?_)
    refine wpAny_bind (wpAny_updateSeq_pair hTO₄ fun h₅ hTO₅ hs₅ => ?_)
    replace hTO₅ : IsPair h₅ TO x y := hTO₅
    refine wpAny_bind (wpAny_letGo (wpAny_pure (wpAny_pure ?_)))
    refine wpAny_bind (wpAny_seqItems hTO₅ rfl ?_)
    refine wpAny_bind (wpAny_newTuple ?_)
    have hsz : h₅.objs.size = s.heap.objs.size := by rw [hs₅.1, hs₄.1, hs₃.1, hs₂.1, hs₁.1]
    have hz₅ : FbZip h₅ z TI TO .ellipsis b := hs₅.extBut _ _ D.TOz.symm (hs₄.extBut _ _ D.i2z.symm (hs₃.extBut _ _ D.TOz.symm (hs₂.extBut _ _ D.i1z.symm hz₁)))
    have hk₅ : ∀ c o, c ≠ z → c ≠ TO → c ≠ i1 → c ≠ i2 → s.heap.get? c = some o → h₅.get? c = some o := fun c o c1 c2 c3 c4 e =>
      hs₅.extBut _ _ c2 (hs₄.extBut _ _ c4 (hs₃.extBut _ _ c2 (hs₂.extBut _ _ c3 (hs₁.extBut _ _ c1 e))))
    have h1₅ : h₅.IsTupleIter i1 l1 (k1 + 1) := ((h1₂.extBut hs₃.extBut D.TOi1.symm).extBut hs₄.extBut D.i12).extBut hs₅.extBut D.TOi1.symm
    have h2₅ : h₅.IsTupleIter i2 l2 (k2 + 1) := h2₄.extBut hs₅.extBut D.TOi2.symm
    have hzlt : z < h₅.objs.size := Heap.lt_size hz₅
    show wpAny _ _ (Builtin.SmallTypes.ownedTupleHandOut (.ref z) (.ref h₅.objs.size) >>= _) _ _ _
    refine wpAny_bind ?_
    unfold Builtin.SmallTypes.ownedTupleHandOut
    have hz₆ : FbZip (h₅.push { cls := .type "tuple", data := .seq #[x, y] }) z TI TO .ellipsis b := Heap.get?_push_of_some _ hz₅
    refine wpAny_bind (wpAny_setField_rec hz₆ (by simp) fun h₇ hz₇ hs₇ => ?_)
    replace hz₇ : FbZip h₇ z TI TO (rawInt h₅.objs.size) b := hz₇
    refine wpAny_setField_rec hz₇ (by simp) fun h₈ hz₈ hs₈ => ?_
    replace hz₈ : FbZip h₈ z TI TO (rawInt h₅.objs.size) false := hz₈
    have up : ∀ c o, c ≠ z → h₅.get? c = some o → h₈.get? c = some o := fun c o c1 e => hs₈.extBut _ _ c1 (hs₇.extBut _ _ c1 (Heap.get?_push_of_some _ e))
    have hT₈ : IsPair h₈ h₅.objs.size x y := hs₈.extBut _ _ (Nat.ne_of_gt hzlt) (hs₇.extBut _ _ (Nat.ne_of_gt hzlt) (Heap.get?_push_size _ rfl))
    rw [hsz] at hz₈ hT₈
    refine wpAny_pure ⟨_, rfl, ?_⟩
    show Q (.ref h₅.objs.size) _
    rw [hsz]
    exact hQ h₈ ⟨_, _, .inr ⟨_, rfl⟩, hz₈⟩ ⟨x, y, up _ _ D.TOz hTO₅⟩ (h1₅.at fun o e => up _ o D.i1z e) (h2₅.at fun o e => up _ o D.i2z e) hT₈ fun c o c1 c2 c3 c4 e => up c o c1 (hk₅ c o c1 c2 c3 c4 e)
  · -- its own pair is out: a new one
    simp only [Bool.false_eq_true, if_false]
    refine wpAny_bind ?_
    rw [← Array.forIn_toList]
    simp only [List.forIn_cons, List.forIn_nil]
    refine wpAny_bind (wpAny_bind (wpAny_holding ?_))
    show wpAny _ _ (Builtin.SmallTypes.nextOf (.ref i1) >>= _) _ _ _
    refine wpAny_bind (nextOf_tuple_item (s := { s with heap := h₁ }) (h1.extBut hs₁.extBut D.i1z) (hl1.extBut hs₁.extBut D.l1z) hx fun h₂ h1₂ hs₂ => wpAny_pure ?_)
    refine wpAny_pure ?_
    refine wpAny_bind (wpAny_bind (wpAny_holding ?_))
    show wpAny _ _ (Builtin.SmallTypes.nextOf (.ref i2) >>= _) _ _ _
    refine wpAny_bind (nextOf_tuple_item (s := { s with heap := h₂ }) ((h2.extBut hs₁.extBut D.i2z).extBut hs₂.extBut D.i12.symm) ((hl2.extBut hs₁.extBut D.l2z).extBut hs₂.extBut D.l2i1) hy fun h₃ h2₃ hs₃ => wpAny_pure ?_)
    refine wpAny_pure (wpAny_pure ?_)
    show wpAny _ _ (newTuple [x, y] >>= _) _ _ _
    refine wpAny_bind (wpAny_newTuple ?_)
    have hsz : h₃.objs.size = s.heap.objs.size := by rw [hs₃.1, hs₂.1, hs₁.1]
    have hz₃ : FbZip h₃ z TI TO f0 true := hs₃.extBut _ _ D.i2z.symm (hs₂.extBut _ _ D.i1z.symm hz₁)
    have hk : ∀ c o, c ≠ z → c ≠ i1 → c ≠ i2 → s.heap.get? c = some o → h₃.get? c = some o := fun c o c1 c2 c3 e => hs₃.extBut _ _ c3 (hs₂.extBut _ _ c2 (hs₁.extBut _ _ c1 e))
    have h1₃ : h₃.IsTupleIter i1 l1 (k1 + 1) := h1₂.extBut hs₃.extBut D.i12
    refine wpAny_pure ⟨_, rfl, ?_⟩
    show Q (.ref h₃.objs.size) _
    have hp : IsPair (h₃.push { cls := .type "tuple", data := .seq #[x, y] }) h₃.objs.size x y := Heap.get?_push_size _ rfl
    rw [hsz] at hp ⊢
    exact hQ _ ⟨f0, true, hf, Heap.get?_push_of_some _ hz₃⟩ ⟨u, v, Heap.get?_push_of_some _ (hk _ _ D.TOz D.TOi1 D.TOi2 hTO)⟩ (h1₃.at fun o e => Heap.get?_push_of_some _ e) (h2₃.at fun o e => Heap.get?_push_of_some _ e) hp fun c o c1 _ c2 c3 e => Heap.get?_push_of_some _ (hk c o c1 c2 c3 e)
/-- the end -/
theorem fb_zip_end {z TI TO i1 i2 l1 l2 : Addr} {k1 k2 : Nat} {xs ys : Array Value} {u v f0 : Value} {b : Bool} {Q : Fin → Shared → Prop} (hh : A.handled = none) (D : ZipApart z TI TO i1 i2 l1 l2) (hf : FbOut f0)
    (hz : FbZip s.heap z TI TO f0 b) (hTI : IsPair s.heap TI (.ref i1) (.ref i2)) (hTO : IsPair s.heap TO u v)
    (h1 : s.heap.IsTupleIter i1 l1 k1) (h2 : s.heap.IsTupleIter i2 l2 k2) (hl1 : s.heap.IsTuple l1 xs) (hl2 : s.heap.IsTuple l2 ys) (hend : xs[k1]? = none ∨ ys[k2]? = none)
    (hE : ∀ h' e, (∀ c o, c ≠ z → c ≠ TO → c ≠ i1 → c ≠ i2 → s.heap.get? c = some o → h'.get? c = some o) → (∃ o, h'.get? e = some o ∧ o.cls = .type "StopIteration") → E (.ref e) { s with heap := h' }) :
    wpAny (model prog w) A (Builtin.«zip.__next__» ⟨[.ref z], []⟩) Q E s := by
  show wpAny _ _ (field (.ref z) 2 >>= _) _ _ _
  refine wpAny_bind (wpAny_field hz rfl (x := .bool false) rfl ?_)
  show wpAny _ _ (field (.ref z) 3 >>= _) _ _ _
  refine wpAny_bind (wpAny_field hz rfl (x := .ref TI) rfl ?_)
  refine wpAny_bind (wpAny_seqItems hTI rfl ?_)
  show wpAny _ _ (Builtin.SmallTypes.ownedTupleIsFree (.ref z) >>= _) _ _ _
  refine wpAny_bind (fb_own hf hz ?_ fun h₁ hz₁ hs₁ => ?_)
  · simp only [if_true]
    refine wpAny_bind (wpAny_rule ?_)
    refine wpAny_bind (wpAny_field hz rfl (x := .ref TO) rfl ?_)
    refine wpAny_bind (wpAny_setField_rec hz (by simp) fun h₁ hz₁ hs₁ => ?_)
    replace hz₁ : FbZip h₁ z TI TO .ellipsis b := hz₁
    refine wpAny_bind ?_
    simp only [List.zipIdx_cons, List.zipIdx_nil, List.forIn_cons, List.forIn_nil]
    refine wpAny_bind (wpAny_bind (wpAny_onRaise ?_))
    show wpAny _ _ (Builtin.SmallTypes.nextOf (.ref i1) >>= _) _ _ _
    cases hx : xs[k1]? with
    | none =>
      refine wpAny_bind (nextOf_tuple_end hh (h1.extBut hs₁.extBut D.i1z) (hl1.extBut hs₁.extBut D.l1z) hx fun h₂ e hs₂ he => ?_)
      obtain ⟨oe, hoe, hce⟩ := he
      have hz₂ : FbZip h₂ z TI TO .ellipsis b := hs₂ _ _ D.i1z.symm hz₁
      have hez : e ≠ z := fun x => by subst x; rw [hz₂] at hoe; cases hoe; simp at hce
      refine wpAny_setField_rec hz₂ (by simp) fun h₃ _ hs₃ => hE h₃ e (fun c o c1 _ c3 _ x => hs₃.extBut _ _ c1 (hs₂ _ _ c3 (hs₁.extBut _ _ c1 x))) ⟨oe, hs₃.extBut _ _ hez hoe, hce⟩
    | some x =>
      have hy : ys[k2]? = none := by rcases hend with h | h; rw [hx] at h; cases h; exact h
      refine wpAny_bind (nextOf_tuple_item (h1.extBut hs₁.extBut D.i1z) (hl1.extBut hs₁.extBut D.l1z) hx fun h₂ h1₂ hs₂ => wpAny_pure ?_)
      have hTO₂ : IsPair h₂ TO u v := hs₂.extBut _ _ D.TOi1 (hs₁.extBut _ _ D.TOz hTO)
      refine wpAny_bind (wpAny_seqItems hTO₂ rfl ?_)
      refine wpAny_bind (wpAny_updateSeq_pair hTO₂ fun h₃ hTO₃ hs₃ => ?_)
      refine wpAny_bind (wpAny_letGo (wpAny_pure ?_))
      refine wpAny_bind (wpAny_bind (wpAny_onRaise ?_))
      show wpAny _ _ (Builtin.SmallTypes.nextOf (.ref i2) >>= _) _ _ _
      refine wpAny_bind (nextOf_tuple_end hh (((h2.extBut hs₁.extBut D.i2z).extBut hs₂.extBut D.i12.symm).extBut hs₃.extBut D.TOi2.symm)
        (((hl2.extBut hs₁.extBut D.l2z).extBut hs₂.extBut D.l2i1).extBut hs₃.extBut D.l2TO) hy fun h₄ e hs₄ he => ?_)
      obtain ⟨oe, hoe, hce⟩ := he
      have hz₄ : FbZip h₄ z TI TO .ellipsis b := hs₄ _ _ D.i2z.symm (hs₃.extBut _ _ D.TOz.symm (hs₂.extBut _ _ D.i1z.symm hz₁))
      have hez : e ≠ z := fun x => by subst x; rw [hz₄] at hoe; cases hoe; simp at hce
      refine wpAny_setField_rec hz₄ (by simp) fun h₅ _ hs₅ => hE h₅ e (fun c o c1 c2 c3 c4 x => hs₅.extBut _ _ c1 (hs₄ _ _ c4 (hs₃.extBut _ _ c2 (hs₂.extBut _ _ c3 (hs₁.extBut _ _ c1 x))))) ⟨oe, hs₅.extBut _ _ hez hoe, hce⟩
  · simp only [Bool.false_eq_true, if_false]
    refine wpAny_bind ?_
    rw [← Array.forIn_toList]
    simp only [List.forIn_cons, List.forIn_nil]
    refine wpAny_bind (wpAny_bind (wpAny_holding ?_))
    show wpAny _ _ (Builtin.SmallTypes.nextOf (.ref i1) >>= _) _ _ _
    cases hx : xs[k1]? with
    | none =>
      refine wpAny_bind (nextOf_tuple_end (s := { s with heap := h₁ }) hh (h1.extBut hs₁.extBut D.i1z) (hl1.extBut hs₁.extBut D.l1z) hx fun h₂ e hs₂ he => ?_)
      exact hE h₂ e (fun c o c1 _ c2 _ x => hs₂ _ _ c2 (hs₁.extBut _ _ c1 x)) he
    | some x =>
      have hy : ys[k2]? = none := by rcases hend with h | h; rw [hx] at h; cases h; exact h
      refine wpAny_bind (nextOf_tuple_item (s := { s with heap := h₁ }) (h1.extBut hs₁.extBut D.i1z) (hl1.extBut hs₁.extBut D.l1z) hx fun h₂ h1₂ hs₂ => wpAny_pure ?_)
      refine wpAny_pure ?_
      refine wpAny_bind (wpAny_bind (wpAny_holding ?_))
      show wpAny _ _ (Builtin.SmallTypes.nextOf (.ref i2) >>= _) _ _ _
      refine wpAny_bind (nextOf_tuple_end (s := { s with heap := h₂ }) hh ((h2.extBut hs₁.extBut D.i2z).extBut hs₂.extBut D.i12.symm) ((hl2.extBut hs₁.extBut D.l2z).extBut hs₂.extBut D.l2i1) hy fun h₃ e hs₃ he => ?_)
      exact hE h₃ e (fun c o c1 _ c2 c3 x => hs₃ _ _ c3 (hs₂.extBut _ _ c2 (hs₁.extBut _ _ c1 x))) he
theorem fb_next_item {z TI TO i1 i2 l1 l2 : Addr} {k1 k2 : Nat} {xs ys : Array Value} {x y u v f0 : Value} {b : Bool} {Q : Option Value → Shared → Prop} (D : ZipApart z TI TO i1 i2 l1 l2) (hf : FbOut f0)
    (hz : FbZip s.heap z TI TO f0 b) (hTI : IsPair s.heap TI (.ref i1) (.ref i2)) (hTO : IsPair s.heap TO u v)
    (h1 : s.heap.IsTupleIter i1 l1 k1) (h2 : s.heap.IsTupleIter i2 l2 k2) (hl1 : s.heap.IsTuple l1 xs) (hl2 : s.heap.IsTuple l2 ys) (hx : xs[k1]? = some x) (hy : ys[k2]? = some y)
    (hQ : ∀ h', (∃ f b, FbOut f ∧ FbZip h' z TI TO f b) → (∃ u v, IsPair h' TO u v) → h'.IsTupleIter i1 l1 (k1 + 1) → h'.IsTupleIter i2 l2 (k2 + 1) → IsPair h' s.heap.objs.size x y →
      (∀ c o, c ≠ z → c ≠ TO → c ≠ i1 → c ≠ i2 → s.heap.get? c = some o → h'.get? c = some o) → Q (some (.ref s.heap.objs.size)) { s with heap := h' }) :
    wpAny (model prog w) A (pyNext (.ref z)) Q E s := by
  have hT : s.TypeIs (.ref z) "zip" := ⟨_, hz, rfl⟩
  unfold pyNext
  exact wpAny_bind (wpAny_attempt (wpAny_callSpecial?_slot (name := Str.ofString "__next__") hT F.slot_zip_next
    (wpAny_call_entry F.slot_zip_next hT F.entry_zip_next
      (fb_zip_item D hf hz hTI hTO h1 h2 hl1 hl2 hx hy fun h' a1 a2 a3 a4 a5 a6 => wpAny_pure (hQ h' a1 a2 a3 a4 a5 a6)) (F.args_zip_next_1 _))))
theorem fb_next_end {z TI TO i1 i2 l1 l2 : Addr} {k1 k2 : Nat} {xs ys : Array Value} {u v f0 : Value} {b : Bool} {Q : Option Value → Shared → Prop} (hh : A.handled = none) (D : ZipApart z TI TO i1 i2 l1 l2) (hf : FbOut f0)
    (hz : FbZip s.heap z TI TO f0 b) (hTI : IsPair s.heap TI (.ref i1) (.ref i2)) (hTO : IsPair s.heap TO u v)
    (h1 : s.heap.IsTupleIter i1 l1 k1) (h2 : s.heap.IsTupleIter i2 l2 k2) (hl1 : s.heap.IsTuple l1 xs) (hl2 : s.heap.IsTuple l2 ys) (hend : xs[k1]? = none ∨ ys[k2]? = none)
    (hQ : ∀ h', (∀ c o, c ≠ z → c ≠ TO → c ≠ i1 → c ≠ i2 → s.heap.get? c = some o → h'.get? c = some o) → Q none { s with heap := h' }) : wpAny (model prog w) A (pyNext (.ref z)) Q E s := by
  have hT : s.TypeIs (.ref z) "zip" := ⟨_, hz, rfl⟩
  unfold pyNext
  refine wpAny_bind (wpAny_attempt (wpAny_callSpecial?_slot (name := Str.ofString "__next__") hT F.slot_zip_next
    (wpAny_call_entry F.slot_zip_next hT F.entry_zip_next (fb_zip_end hh D hf hz hTI hTO h1 h2 hl1 hl2 hend fun h' e hk he => ?_) (F.args_zip_next_1 _))))
  obtain ⟨o, ho, hc⟩ := he
  refine wpAny_bind (wpAny_isInstance (T := "StopIteration") (b := true) ⟨o, ho, hc⟩ isSubtype_stop ?_)
  exact wpAny_pure (hQ _ hk)
end
open L2 in
theorem fb_turn {P : Program} {w : World} {K : PySem.W.Frag} {nm : Str} {tpos : Pos} {a b z TI TO i1 i2 : Addr} (D : ZipApart z TI TO i1 i2 a b) :
    Turn P w K (.Name nm tpos) (ItzT K a b) [z, TI, TO, i1, i2] z (fun i h => (∃ f b, FbOut f ∧ FbZip h z TI TO f b) ∧ IsPair h TI (.ref i1) (.ref i2) ∧ (∃ x y, IsPair h TO x y) ∧ h.IsTupleIter i1 a i ∧ h.IsTupleIter i2 b i) where
  mem := by simp
  obj := fun i h st c hc => by
    obtain ⟨⟨f, bb, _, hz⟩, hTI, ⟨x, y, hTO⟩, ⟨o1, e1, _, d1⟩, ⟨o2, e2, _, d2⟩⟩ := st
    have e' : c = z ∨ c = TI ∨ c = TO ∨ c = i1 ∨ c = i2 := by simpa using hc
    rcases e' with q | q | q | q | q
    · rw [q]; exact ⟨_, hz, fun v q => nomatch q⟩
    · rw [q]; exact ⟨_, hTI, fun v q => nomatch q⟩
    · rw [q]; exact ⟨_, hTO, fun v q => nomatch q⟩
    · rw [q]; exact ⟨o1, e1, fun v q => by rw [d1] at q; cases q⟩
    · rw [q]; exact ⟨o2, e2, fun v q => by rw [d2] at q; cases q⟩
  keep := fun i h h' st k => by
    obtain ⟨⟨f, bb, hf, hz⟩, hTI, ⟨x, y, hTO⟩, h1, h2⟩ := st
    exact ⟨⟨f, bb, hf, k z (by simp) _ hz⟩, k TI (by simp) _ hTI, ⟨x, y, k TO (by simp) _ hTO⟩, h1.at fun o q => k i1 (by simp) o q, h2.at fun o q => k i2 (by simp) o q⟩
  item := by
    intro X hP hw hK hc i pins s σ H E I hf st hg
    subst hP hw hK
    obtain ⟨⟨f, bb, hfo, hz⟩, hTI, ⟨x0, y0, hTO⟩, h1, h2⟩ := st
    obtain ⟨xs, ys, x, y, hqx, hqy, hx, hy⟩ := hg
    obtain ⟨its, rv, p, _⟩ := I.tuple hqx
    obtain ⟨its2, rv2, p2, _⟩ := I.tuple hqy
    obtain ⟨u, hu, ru⟩ := rv.get hx
    obtain ⟨u2, hu2, ru2⟩ := rv2.get hy
    have hzl : z < s.heap.objs.size := Heap.lt_size hz
    refine fb_next_item D hfo hz hTI hTO h1 h2 p p2 (x := u) (y := u2) (by simpa using hu) (by simpa using hu2) fun h' z' TO' h1' h2' hT2 hk => ?_
    refine ⟨_, rfl, wpAny_pure ?_⟩
    have new : ObjOk X.prog X.w (upd H s.heap.objs.size (.tup [x, y])) h' s.heap.objs.size (.tup [x, y]) :=
      ⟨by show 2 ≤ sizeLine; decide, [u, u2], .cons ru (.cons ru2 .nil), ⟨_, hT2, rfl, _, rfl⟩⟩
    have I1 : Inv X pins σ (upd H s.heap.objs.size (.tup [x, y])) { s with heap := h' } :=
      I.turnedNew (t' := s.toks) (ch := [z, TI, TO, i1, i2]) (fun c o hb q => hk c o (fun q' => hb (by simp [q'])) (fun q' => hb (by simp [q'])) (fun q' => hb (by simp [q'])) (fun q' => hb (by simp [q'])) q) hf (Nat.le_refl _) new
    refine ⟨.ref s.heap.objs.size, _, I1, rfl, ⟨_, x, y, rfl, I.hok.fresh (Nat.le_refl _), rfl, fun l hl => by rw [I.tuple_inj hl hqx]; exact hx, fun l hl => by rw [I.tuple_inj hl hqy]; exact hy⟩, ⟨z', hk _ _ D.TIz D.TITO D.TIi1 D.TIi2 hTI, TO', h1', h2'⟩, fun c hcm => ?_⟩
    have hlt : c < s.heap.objs.size := by
      have e' : c = z ∨ c = TI ∨ c = TO ∨ c = i1 ∨ c = i2 := by simpa using hcm
      rcases e' with q | q | q | q | q
      · rw [q]; exact hzl
      · rw [q]; exact Heap.lt_size hTI
      · rw [q]; exact Heap.lt_size hTO
      · rw [q]; obtain ⟨_, e1, _⟩ := h1; exact Heap.lt_size e1
      · rw [q]; obtain ⟨_, e2, _⟩ := h2; exact Heap.lt_size e2
    rw [upd_ne (Nat.ne_of_lt hlt)]
    exact (hf c hcm).1
  done := by
    intro X hP hw hK hc i pins s σ H E I hf st hg
    subst hP hw hK
    obtain ⟨⟨f, bb, hfo, hz⟩, hTI, ⟨x0, y0, hTO⟩, h1, h2⟩ := st
    obtain ⟨xs, ys, hqx, hqy, hend⟩ := hg
    obtain ⟨its, rv, p, _⟩ := I.tuple hqx
    obtain ⟨its2, rv2, p2, _⟩ := I.tuple hqy
    have l1 := rv.length
    have l2 := rv2.length
    have he : its.toArray[i]? = none ∨ its2.toArray[i]? = none := by
      rcases hend with q | q
      · exact .inl (by simp; omega)
      · exact .inr (by simp; omega)
    exact fb_next_end (I.ok.hd hc) D hfo hz hTI hTO h1 h2 p p2 he fun h' hk => ⟨rfl, I.turnedL (t' := s.toks) (ch := [z, TI, TO, i1, i2]) (fun c o hb q =>
      hk c o (fun q' => hb (by simp [q'])) (fun q' => hb (by simp [q'])) (fun q' => hb (by simp [q'])) (fun q' => hb (by simp [q'])) q) hf⟩
  self := fun A i s Q E st h => by
    obtain ⟨⟨f, bb, hfo, hz⟩, _⟩ := st
    have hT : s.TypeIs (.ref z) "zip" := ⟨_, hz, rfl⟩
    refine wpAny_pyIter_slot hT F.slot_zip_iter (wpAny_call_entry F.slot_zip_iter hT F.entry_zip_iter ?_ (F.args_zip_iter_1 _))
    show wpAny _ _ (ret (.ref z)) _ _ s
    exact wpAny_pure ⟨_, rfl, "zip", _, hT, F.slot_zip_next.lookup, h⟩
end RZ
namespace Fb
open PySem PySem.Spec L2
open PyProof.Rows hiding St
/-- for x in zip(t, u): two tuples, a new pair at each turn -/
def iZipN (K : PySem.W.Frag) (ta : TA) : TI := fun σ H R => ta σ H fun vs H1 => ∃ a b xs ys, vs = [.ref a, .ref b] ∧ SqT K H1 a xs ∧ SqT K H1 b ys ∧ R (RZ.ItzT K a b) H1
theorem pi_zipN {X : Cx} {K : PySem.W.Frag} (eK : X.K = K) {e e2 : Expr} {ta : TA} {p pos tpos : Pos} {nm : Str} (hg : Gl X "zip") (hm : X.mg "zip" = none) (ha : PA X [e, e2] ta)
    (hs : starEach [e, e2] X.env = (false, eval e X.env) :: starEach [e2] X.env := by rfl) (hpl : (backTo pos (starEach [e2] X.env)).any (·.1) = false := by rfl) :
    PI X (.Name nm tpos) (.Call (.Name "zip" p) [e, e2] [] pos) (iZipN K ta) := by
  subst eK
  refine ⟨fun pins s σ H R I h => ?_⟩
  refine Call_ (ld_blt I hg hm PyProof.Rows.boot_zip (PyProof.Rows.callWith_type1 (thn (ha.run pos pins s σ H _ I h) fun us s1 ⟨vs, H1, I1, r1, q1⟩ => ?_) hs hpl))
  obtain ⟨a, b, xs, ys, ex, hqx, hqy, q⟩ := q1
  subst ex
  cases r1 with
  | cons r rr =>
    cases rr with
    | cons r' rr =>
      cases rr
      cases r
      cases r'
      have fresh5 : ∀ c, c ∈ [s1.heap.objs.size + 4, s1.heap.objs.size + 2, s1.heap.objs.size + 3, s1.heap.objs.size, s1.heap.objs.size + 1] → FpOk X pins H1 c := fun c hcm => by
        have e' : c = s1.heap.objs.size + 4 ∨ c = s1.heap.objs.size + 2 ∨ c = s1.heap.objs.size + 3 ∨ c = s1.heap.objs.size ∨ c = s1.heap.objs.size + 1 := by simpa using hcm
        have hle : s1.heap.objs.size ≤ c := by omega
        exact I1.fpOk hle (I1.hok.fresh hle)
      obtain ⟨its, rv, p1, _⟩ := I1.tuple hqx
      obtain ⟨its2, rv2, p2, _⟩ := I1.tuple hqy
      obtain ⟨o1, ho1, _⟩ := id p1
      obtain ⟨o2, ho2, _⟩ := id p2
      refine RZ.call_zipT (show s1.heap.IsTuple a its.toArray from p1) (show s1.heap.IsTuple b its2.toArray from p2) fun h' hz hTI hTO h1 h2 hsz hk => wpAny_pyIter_zip hz ?_
      have I2 : Inv X pins σ H1 { s1 with heap := h' } := I1.kept (t' := s1.toks) hk
      exact ⟨s1.heap.objs.size + 4, [s1.heap.objs.size + 4, s1.heap.objs.size + 2, s1.heap.objs.size + 3, s1.heap.objs.size, s1.heap.objs.size + 1], _, _, H1, rfl, I2, RZ.fb_turn (PySem.W.ktu_apart s1.heap.objs.size a b (Heap.lt_size ho1) (Heap.lt_size ho2)), ⟨⟨_, false, .inl rfl, hz⟩, hTI, ⟨_, _, hTO⟩, h1, h2⟩, fresh5, q⟩
/-- each step of a walk is a turn -/
def Wlk (E : List Tw) (w : List Str) : Prop := ∀ i a b, w[i]? = some a → w[i + 1]? = some b → (a, b) ∈ E
theorem RZw {K : PySem.W.Frag} {a b : Addr} {xs ys : List V} {n : Nat} (hn : n = min xs.length ys.length) :
    Walk (RZ.ItzT K a b) n (fun H => SqT K H a xs ∧ SqT K H b ys) (YPair (fun i => xs[i]?) (fun i => ys[i]?)) := walk_zipT hn
theorem val_tw {tvs : List (List Key × V)} {ps : List Tw} (h : tvs.map Prod.fst = ps.map twK) (p : Tw) : (valV tvs (twK p)).isSome = decide (p ∈ ps) := by
  rw [val_some, h]
  refine decide_eq_decide.mpr ⟨fun m => ?_, fun m => List.mem_map.mpr ⟨p, m, rfl⟩⟩
  obtain ⟨q, mq, e⟩ := List.mem_map.mp m
  exact twK_inj e ▸ mq
end Fb

set_option Elab.async false
set_option linter.all false
set_option maxRecDepth 100000
set_option maxHeartbeats 4000000
/-! walks and their records -/
namespace Fb
open PySem PySem.Spec L2
open PyProof.Rows hiding St
/-- a pair as it is walked: up, or down -/
def pr (dn : Bool) (a b : Str) : Tw := if dn then (b, a) else (a, b)
def WlkR (dn : Bool) (E : List Tw) (w : List Str) : Prop := ∀ i a b, w[i]? = some a → w[i + 1]? = some b → pr dn a b ∈ E
theorem WlkR.up {E : List Tw} {w : List Str} (h : Wlk E w) : WlkR false E w := h
theorem rev_get {α : Type} {w : List α} {i : Nat} {a : α} (h : w.reverse[i]? = some a) : ∃ j, i + j + 1 = w.length ∧ w[j]? = some a := by
  have lt := (List.getElem?_eq_some_iff.mp h).1
  rw [List.length_reverse] at lt
  rw [List.getElem?_reverse lt] at h
  exact ⟨w.length - 1 - i, by omega, h⟩
theorem WlkR.down {E : List Tw} {w : List Str} (h : Wlk E w) : WlkR true E w.reverse := by
  intro i a b ha hb
  obtain ⟨j, ej, gj⟩ := rev_get ha
  obtain ⟨k, ek, gk⟩ := rev_get hb
  have : j = k + 1 := by omega
  subst this
  exact h k b a gk gj
theorem WlkR.back {E : List Tw} {w : List Str} (h : WlkR true E w) : Wlk E w.reverse := by
  intro i a b ha hb
  obtain ⟨j, ej, gj⟩ := rev_get ha
  obtain ⟨k, ek, gk⟩ := rev_get hb
  have : j = k + 1 := by omega
  subst this
  exact h k b a gk gj
theorem WlkR.part {dn : Bool} {E : List Tw} {w : List Str} (h : WlkR dn E w) (l n : Nat) : WlkR dn E ((w.drop l).take n) := by
  intro i a b ha hb
  rw [List.getElem?_take, List.getElem?_drop] at ha hb
  split at ha
  · split at hb
    · exact h _ a b ha (by rw [Nat.add_assoc]; exact hb)
    · cases hb
  · cases ha
theorem Rch.turn {E E' : List Tw} {P : Str → Prop} (h : ∀ a b, (a, b) ∈ E' → (b, a) ∈ E) {s t : Str} (r : Rch E' P s t) : Rch E P t s := by
  induction r with
  | edge e => exact .edge (h _ _ e)
  | step _ p e ih => exact (Rch.edge (h _ _ e)).trans p ih
theorem wlk_rch {E : List Tw} {P : Str → Prop} {w : List Str} (h : Wlk E w) {a b : Nat} {x y : Str} (ha : w[a]? = some x) (hb : w[b]? = some y) (lt : a < b) (ne : x ≠ y)
    (mid : ∀ j z, a < j → j < b → w[j]? = some z → z = x ∨ P z) : Rch E P x y := by
  have lb := (List.getElem?_eq_some_iff.mp hb).1
  have key : ∀ n, a + n + 1 ≤ b → ∀ z, w[a + n + 1]? = some z → z = x ∨ Rch E P x z := by
    intro n
    induction n with
    | zero => exact fun _ z gz => .inr (.edge (h a x z ha gz))
    | succ n ih =>
      intro le z gz
      have g1 : w[a + n + 1]? = some w[a + n + 1] := List.getElem?_eq_getElem (by omega)
      have e := h (a + n + 1) _ z g1 gz
      rcases ih (by omega) _ g1 with q | r
      · rw [q] at e
        exact .inr (.edge e)
      · rcases mid (a + n + 1) _ (by omega) (by omega) g1 with q | p
        · rw [q] at e
          exact .inr (.edge e)
        · exact .inr (.step r p e)
  obtain ⟨n, rfl⟩ : ∃ n, b = a + n + 1 := ⟨b - a - 1, by omega⟩
  rcases key n (Nat.le_refl _) y hb with q | r
  · exact absurd q.symm ne
  · exact r
/-- a walk whose places between lie below both ends: a low pair -/
theorem WlkR.low {dn : Bool} {E : List Tw} {order w : List Str} (h : WlkR dn E w) (nd : order.Nodup) (all : ∀ z ∈ w, z ∈ order) {a b : Nat} {x y : Str} (ha : w[a]? = some x) (hb : w[b]? = some y) (lt : a < b) (ne : x ≠ y)
    (mid : ∀ j z, a < j → j < b → w[j]? = some z → z = x ∨ order.idxOf z < min (order.idxOf x) (order.idxOf y)) : LowP E order (pr dn x y) := by
  have mx := all x (List.mem_of_getElem? ha)
  have my := all y (List.mem_of_getElem? hb)
  have mid2 : ∀ j z, a < j → j < b → w[j]? = some z → z = x ∨ z ∈ order.take (min (order.idxOf x) (order.idxOf y)) := fun j z h1 h2 g =>
    (mid j z h1 h2 g).imp id fun q => (take_idx nd (all z (List.mem_of_getElem? g)) _).mpr q
  cases dn with
  | false => exact ⟨mx, my, ne, wlk_rch h ha hb lt ne mid2⟩
  | true =>
    have h2 : Wlk (E.map fun p => (p.2, p.1)) w := fun i c d gc gd => List.mem_map.mpr ⟨(d, c), h i c d gc gd, rfl⟩
    have r := wlk_rch h2 ha hb lt ne mid2
    refine ⟨my, mx, fun q => ne q.symm, ?_⟩
    have r2 : Rch E (fun z => z ∈ order.take (min (order.idxOf x) (order.idxOf y))) y x := r.turn fun c d m => by
      obtain ⟨q, mq, e⟩ := List.mem_map.mp m
      cases e
      exact mq
    rw [Nat.min_comm] at r2
    exact r2
/-- two records next to each other -/
def Seg (order w : List Str) (a b : Nat) : Prop := a < b ∧ ∃ x y, w[a]? = some x ∧ w[b]? = some y ∧ order.idxOf x < order.idxOf y ∧ ∀ j z, a < j → j < b → w[j]? = some z → order.idxOf z ≤ order.idxOf x
def Recs (order w : List Str) (ks : List Nat) : Prop := ∀ i a b, ks[i]? = some a → ks[i + 1]? = some b → Seg order w a b
structure RecI (order w : List Str) (i : Nat) (ks : List Nat) (most : Int) : Prop where
  ord : Recs order w ks
  len : ks.length ≤ i
  top : (ks = [] ∧ most = -1 ∧ i = 0) ∨ ∃ us a x, ks = us ++ [a] ∧ a < i ∧ w[a]? = some x ∧ most = (order.idxOf x : Nat) ∧ ∀ j z, a < j → j < i → w[j]? = some z → order.idxOf z ≤ order.idxOf x
theorem RecI.start {order w : List Str} : RecI order w 0 [] (-1) := ⟨fun _ _ _ g => (nomatch (show (none : Option Nat) = some _ from g)), Nat.le_refl _, .inl ⟨rfl, rfl, rfl⟩⟩
theorem RecI.more {order w : List Str} {i : Nat} {ks : List Nat} {most : Int} {z : Str} (h : RecI order w i ks most) (g : w[i]? = some z) (lt : most < (order.idxOf z : Nat)) : RecI order w (i + 1) (ks ++ [i]) (order.idxOf z : Nat) := by
  refine ⟨fun j a b ga gb => ?_, by rw [List.length_append]; exact Nat.succ_le_succ h.len, .inr ⟨ks, i, z, rfl, Nat.lt_succ_self i, g, rfl, fun j z' h1 h2 _ => by omega⟩⟩
  by_cases c : j + 1 < ks.length
  · rw [List.getElem?_append_left (by omega)] at ga
    rw [List.getElem?_append_left c] at gb
    exact h.ord j a b ga gb
  · have lj := (List.getElem?_eq_some_iff.mp gb).1
    rw [List.length_append, List.length_singleton] at lj
    have ej : j + 1 = ks.length := by omega
    rw [ej, List.getElem?_append_right (Nat.le_refl _), Nat.sub_self] at gb
    have eb : i = b := Option.some.inj gb
    subst eb
    rcases h.top with ⟨e, _, _⟩ | ⟨us, a', x, e, la, gx, em, mid⟩
    · rw [e] at ej
      cases ej
    · rw [e, List.length_append, List.length_singleton] at ej
      have : j = us.length := by omega
      subst this
      rw [List.getElem?_append_left (by rw [e, List.length_append]; exact Nat.lt_succ_self _), e, List.getElem?_append_right (Nat.le_refl _), Nat.sub_self] at ga
      have ea : a' = a := Option.some.inj ga
      subst ea
      exact ⟨la, x, z, gx, g, by omega, mid⟩
theorem RecI.skip {order w : List Str} {i : Nat} {ks : List Nat} {most : Int} {z : Str} (h : RecI order w i ks most) (g : w[i]? = some z) (le : ¬ most < (order.idxOf z : Nat)) : RecI order w (i + 1) ks most := by
  refine ⟨h.ord, Nat.le_succ_of_le h.len, ?_⟩
  rcases h.top with ⟨e, em, ei⟩ | ⟨us, a', x, e, la, gx, em, mid⟩
  · omega
  · refine .inr ⟨us, a', x, e, by omega, gx, em, fun j z' h1 h2 gz => ?_⟩
    by_cases c : j = i
    · subst c
      rw [g] at gz
      cases gz
      omega
    · exact mid j z' h1 (by omega) gz
/-- from the last place of w[a] before b, to b -/
def IsPart (w : List Str) (a b : Nat) (ps : List Str) : Prop := ∃ l, a ≤ l ∧ l < b ∧ w[l]? = w[a]? ∧ (∀ j, l < j → j < b → w[j]? ≠ w[a]?) ∧ ps = (w.drop l).take (b + 1 - l)
theorem IsPart.get {w : List Str} {a b l : Nat} (i : Nat) (h : i < b + 1 - l) : ((w.drop l).take (b + 1 - l))[i]? = w[l + i]? := by
  rw [List.getElem?_take_of_lt h, List.getElem?_drop]
/-- what a part between two records is -/
theorem IsPart.seg {order w ps : List Str} {a b : Nat} (h : IsPart w a b ps) (s : Seg order w a b) : ∃ x y ms, ps = x :: (ms ++ [y]) ∧ order.idxOf x < order.idxOf y ∧ (∀ m ∈ ms, m ≠ x ∧ order.idxOf m ≤ order.idxOf x) := by
  obtain ⟨l, h1, h2, h3, h4, rfl⟩ := h
  obtain ⟨lt, x, y, gx, gy, ixy, mid⟩ := s
  have lb := (List.getElem?_eq_some_iff.mp gy).1
  have lp : ((w.drop l).take (b + 1 - l)).length = b + 1 - l := by
    rw [List.length_take, List.length_drop]
    omega
  have G := fun i h => IsPart.get (w := w) (a := a) (b := b) (l := l) i h
  generalize (w.drop l).take (b + 1 - l) = ps at lp G
  cases ps with
  | nil =>
    rw [List.length_nil] at lp
    omega
  | cons x' r =>
    have g0 := G 0 (by omega)
    rw [Nat.add_zero, h3, gx] at g0
    have ex : x' = x := Option.some.inj g0
    subst ex
    rw [List.length_cons] at lp
    have rn : r ≠ [] := fun q => by
      rw [q, List.length_nil] at lp
      omega
    have er := (List.dropLast_concat_getLast rn).symm
    have gl := G r.length (by omega)
    have e1 : l + r.length = b := by omega
    rw [e1, gy] at gl
    obtain ⟨n, en⟩ : ∃ n, r.length = n + 1 := ⟨r.length - 1, by have := List.length_pos_iff.mpr rn; omega⟩
    rw [en, List.getElem?_cons_succ] at gl
    have el : r.getLast rn = y := by
      have : r[n]? = some (r.getLast rn) := by
        rw [List.getLast_eq_getElem, List.getElem?_eq_getElem (by omega)]
        congr 1
        congr 1
        omega
      rw [this] at gl
      exact Option.some.inj gl
    refine ⟨x', y, r.dropLast, by rw [← el, ← er], ixy, fun m mm => ?_⟩
    obtain ⟨i, hi, gi⟩ := List.getElem_of_mem mm
    rw [List.length_dropLast] at hi
    have gi2 : r[i]? = some m := by
      rw [List.getElem_dropLast] at gi
      rw [List.getElem?_eq_getElem (by omega), gi]
    have gw := G (i + 1) (by omega)
    rw [List.getElem?_cons_succ, gi2] at gw
    refine ⟨fun q => ?_, mid (l + (i + 1)) m (by omega) (by omega) gw.symm⟩
    exact h4 (l + (i + 1)) (by omega) (by omega) (by rw [← gw, gx, q])
theorem idx_inj {order : List Str} {x y : Str} (mx : x ∈ order) (my : y ∈ order) (h : order.idxOf x = order.idxOf y) : x = y := by
  have a := List.getElem_idxOf (List.idxOf_lt_length_of_mem mx)
  have b := List.getElem_idxOf (List.idxOf_lt_length_of_mem my)
  rw [← a, ← b]
  congr 1
/-- the highest place passed since k -/
def TopI (order w : List Str) (k i : Nat) (most spot : Int) : Prop := (most = -1 ∧ spot = -1 ∧ i = k + 1) ∨
  ∃ (s : Nat) (x : Str), k < s ∧ s < i ∧ w[s]? = some x ∧ spot = (s : Nat) ∧ most = (order.idxOf x : Nat) ∧ (∀ j z, k < j → j < i → w[j]? = some z → order.idxOf z ≤ order.idxOf x) ∧ ∀ j z, k < j → j < s → w[j]? = some z → order.idxOf z < order.idxOf x
theorem TopI.more {order w : List Str} {k i : Nat} {most spot : Int} {z : Str} (h : TopI order w k i most spot) (ki : k < i) (g : w[i]? = some z) (lt : most < (order.idxOf z : Nat)) : TopI order w k (i + 1) (order.idxOf z : Nat) (i : Nat) := by
  refine .inr ⟨i, z, ki, Nat.lt_succ_self i, g, rfl, rfl, fun j z' h1 h2 g2 => ?_, fun j z' h1 h2 g2 => ?_⟩
  · by_cases c : j = i
    · subst c
      rw [g] at g2
      cases g2
      exact Nat.le_refl _
    · rcases h with ⟨_, _, e⟩ | ⟨s, x, _, _, _, _, em, q, _⟩
      · omega
      · have := q j z' h1 (by omega) g2
        omega
  · rcases h with ⟨_, _, e⟩ | ⟨s, x, _, _, _, _, em, q, _⟩
    · omega
    · have := q j z' h1 h2 g2
      omega
theorem TopI.skip {order w : List Str} {k i : Nat} {most spot : Int} {z : Str} (h : TopI order w k i most spot) (g : w[i]? = some z) (le : ¬ most < (order.idxOf z : Nat)) : TopI order w k (i + 1) most spot := by
  rcases h with ⟨e1, _, e⟩ | ⟨s, x, a, b, c, d, em, q, r⟩
  · omega
  · refine .inr ⟨s, x, a, by omega, c, d, em, fun j z' h1 h2 g2 => ?_, r⟩
    by_cases c : j = i
    · subst c
      rw [g] at g2
      cases g2
      omega
    · exact q j z' h1 (by omega) g2
theorem TopI.mid {order w : List Str} {k i : Nat} {most spot m : Int} (h : TopI order w k i most spot) (lt : most < m) : ∀ j z, k < j → j < i → w[j]? = some z → (order.idxOf z : Int) < m := by
  intro j z h1 h2 g
  rcases h with ⟨_, _, e⟩ | ⟨s, x, _, _, _, _, em, q, _⟩
  · omega
  · have := q j z h1 h2 g
    omega
theorem notIn_pairs {K : PySem.W.Frag} {H : Hp} {S t : Addr} {zs : List V} {ps : List Tw} {p : Tw} {R : VK} (hS : SqL K H S zs) (hzs : TwsV H zs ps) (ht : H t = some (.tup [.str p.1, .str p.2])) (nmp : NmT ps) (m : p ∈ ps) (q : R (.bl false) H) : rNotInD K (.ref t) (.ref S) H R := by
  refine ⟨twD p, ps.map twD, (show TwV H (.ref t) p from ⟨t, rfl, ht⟩).dp, .lst hS hzs.dp, shaped_tw (nmp p m), shaped_tws nmp, ?_⟩
  rw [any_tw, decide_eq_true m]
  exact q
theorem cutV_inner (x y : V) (ms : List V) : cutV (x :: (ms ++ [y])) (some 1) (some (-1)) = ms := by
  unfold cutV
  have h1 : HT.sIx (x :: (ms ++ [y])).length 0 (some 1) = 1 := (HT.sIx_nat _ 0 1).trans (Nat.min_eq_left (by rw [List.length_cons]; omega))
  have h2 : HT.sIx (x :: (ms ++ [y])).length (x :: (ms ++ [y])).length (some (-1)) = ms.length + 1 := by
    have e : HT.sIx (x :: (ms ++ [y])).length (x :: (ms ++ [y])).length (some (-1)) = ((-1 : Int) + ((x :: (ms ++ [y])).length : Nat)).toNat := rfl
    rw [e, List.length_cons, List.length_append, List.length_singleton]
    omega
  rw [h1, h2, List.drop_one, List.tail_cons, Nat.add_sub_cancel, List.take_left]
theorem at_first (x : V) (r : List V) : atI (x :: r) 0 = some x := atI_nat (j := 0) rfl
/-- a method of a built-in type with K named (in comprehensions) -/
theorem pe_bmK {X : Cx} {K : PySem.W.Frag} {o e : Expr} {es : List Expr} {to : TE} {t : TA} {name : Str} {apos cpos : Pos} {T id : String} {r : V → List V → Hp → VK → Prop} (eK : X.K = K)
    (pa : PlainAttrs T) (slot : Slot T name id) (hty : typeOf (.builtin id) = pure (.type "method_descriptor")) (hm : MtR X id r) (ho : PE X o to) (ha : PA X (e :: es) t)
    (hbase : attributeBase o name X.env (eval o X.env) = eval o X.env := by rfl)
    (hfew : ((backTo cpos (starEach (e :: es) X.env)).all (fun x => !x.1) && (backToKw cpos (keywordEach [] X.env)).all (fun x => x.1.isSome)
      && decide ((e :: es).length + ([] : List Keyword).length + (if ([] : List Keyword).isEmpty then 0 else 1) < 30)) = true := by rfl)
    (hline : (apos.endLine == cpos.line) = true := by rfl) (hs : starEach (e :: es) X.env = (false, eval e X.env) :: starEach es X.env := by rfl) (hplain : (backTo cpos (starEach es X.env)).any (·.1) = false := by rfl) :
    PE X (.Call (.Attribute o name apos) (e :: es) [] cpos) (tBM K T r to t) := by
  subst eK
  exact pe_bm pa slot hty hm ho ha hbase hfew hline hs hplain
end Fb

set_option Elab.async false
set_option linter.all false
set_option maxRecDepth 100000
set_option maxHeartbeats 4000000
/-! != by an own __eq__, len by an own __len__ -/
namespace PySem.W
open PySem PySem.Calls PyProof.Rows Builtin
section
variable {prog : Program} {w : World} {A : Around} {E : Value → Shared → Prop} {s : Shared} {K : Frag} {x C L f : Addr} {h₀ : Heap} {m : Str → Option Value} {ox : Obj} {od : Option Obj} {name : Str} {b tb : Value}
theorem fb_bound_slot {M : Model} {B id : String} {args : List Value} {Q : Option Value → Shared → Prop} (S : Slot B name id) (X : K.In s.heap) (I : InstAt s.heap x ox C od) (hs : findIn K (.ref C) name = some (some (.builtin id)))
    (h : wpAny M A (call (.builtin id) (.ref x :: args)) (fun v => Q (some v)) E s) : wpAny M A (callSpecialIfBound? (.ref x) name args) Q E s := by
  simp only [callSpecialIfBound?, bindSpecialIfBound?]
  refine wpAny_holding (wpAny_bind (wpAny_bind (wpAny_bind (I.type.here ((looks_findIn X hs).here ?_)))))
  simp only [S.bind]
  refine wpAny_bind (wpAny_askSetting (wpAny_ite ?_))
  have fin : wpAny M A (call (.builtin id) ([.ref x] ++ args) >>= fun v => pure (some v)) Q E s := wpAny_bind (wpAny_mono h (fun v s' h' => wpAny_pure h') fun _ _ h' => h')
  split
  · exact wpAny_bind (wpAny_pure (wpAny_pure fin))
  · exact wpAny_tryCatch (wpAny_bind (wpAny_pure (wpAny_pure fin)))
theorem fb_obj_ne (hu : A.units < cLine) (X : K.In s.heap) (I : InstAt s.heap x ox C od) (hs : findIn K (.ref C) "__eq__" = some (some (.ref f))) (hf : isFn K (.ref f) = true) {Q : Fin → Shared → Prop}
    (hcall : wpAny (model prog w) A (call (.ref f) [.ref x, b]) (fun v s' => ∃ r, v = .bool r ∧ Q (.done (.ret (.bool (!r)))) s') E s) :
    wpAny (model prog w) A (Builtin.«object.__ne__» ⟨[.ref x, b], []⟩) Q E s := by
  unfold Builtin.«object.__ne__»
  repeat (first
    | with_reducible refine wpAny_cRoomFor hu ?_
    | (refine wpAny_bind (m := callSpecialIfBound? (.ref x) (Str.ofString "__eq__") [b])
        (ifBound_K X I hs hf (wpAny_mono hcall (fun r s' hr => by
          obtain ⟨b, rfl, hq⟩ := hr
          repeat (first | exact hq | exact wpAny_pure hq | exact wpAny_truthy_bool hq | (refine wpAny_bind (m := truthy (.bool _)) (wpAny_truthy_bool ?_)) | wp_step)) fun _ _ e => e)))
    | wp_step)
theorem fb_rich_ne {Q : Value → Shared → Prop} (hu : A.units + 1 < cLine) (F : Fr h₀ L s.heap m) (X₀ : K.In h₀) (I : InstAt s.heap x ox C od) (hb : Looks (model prog w) s.heap (typeOf b) (.ref C))
    (hne : findIn K (.ref C) "__ne__" = some (some (.builtin "object.__ne__"))) (hmro : mroIn K C (.type "object") = some true)
    (hs : findIn K (.ref C) "__eq__" = some (some (.ref f))) (hf : isFn K (.ref f) = true)
    (h : wpAny (model prog w) A.in1 (call (.ref f) [.ref x, b]) (fun v s' => ∃ r, v = .bool r ∧ Q (.bool (!r)) s') E s) : wpAny (model prog w) A (richCompare .NotEq (.ref x) b) Q E s := by
  have X := X₀.keeps F.keep
  have hob : Looks (model prog w) s.heap (isInstance (.ref x) (.type "object")) true := I.type.andThen (looks_mroIn X hmro)
  have one : wpAny (model prog w) A (tryCompare (.ref x) "__ne__" b) (fun r s' => ∃ v, r = some v ∧ Q v s') E s := by
    unfold tryCompare
    refine wpAny_bind (fb_bound_slot PySem.F.cmp_object.ne X I hne (wpAny_call (codeAny_call_builtin PySem.F.cmp_object.ne.plain PySem.F.cmpEntry_ne (check_slot PySem.F.cmpKind_ne PySem.F.cmpSplit_ne hob (PySem.F.cmpArgs_ne _ _)
      (fb_obj_ne (A := A.in1) hu X I hs hf (wpAny_mono h (fun v s' hv => ?_) fun _ _ e => e))))))
    obtain ⟨r, rfl, hq⟩ := hv
    exact ⟨r, rfl, wpAny_pure ⟨_, rfl, hq⟩⟩
  unfold richCompare
  simp only [oneThing_ref]
  refine wpAny_holding (wpAny_bind (wpAny_cRoomFor (Nat.lt_of_succ_lt hu) ?_))
  rw [cmpInfo_NotEq]
  dsimp only
  refine wpAny_bind (I.type.here (wpAny_bind (hb.here ?_)))
  rw [show (Value.ref C != Value.ref C) = false from by simp]
  simp only [Bool.false_eq_true, if_false]
  refine wpAny_bind (wpAny_pure ?_)
  simp only [Bool.false_eq_true, if_false]
  refine wpAny_bind (wpAny_mono one (fun r s' z => ?_) fun _ _ e => e)
  obtain ⟨v, rfl, hq⟩ := z
  exact wpAny_pure hq
end
end PySem.W
namespace Fb
open PySem PySem.Spec L2
open PyProof.Rows hiding St
theorem nodup_on {α β : Type} {f : α → β} : ∀ {l : List α}, l.Nodup → (∀ a ∈ l, ∀ b ∈ l, f a = f b → a = b) → (l.map f).Nodup
  | [], _, _ => List.nodup_nil
  | a :: l, h, i => by
    obtain ⟨h1, h2⟩ := List.nodup_cons.mp h
    rw [List.map_cons]
    refine List.nodup_cons.mpr ⟨fun m => ?_, nodup_on h2 fun x mx y my => i x (List.mem_cons_of_mem _ mx) y (List.mem_cons_of_mem _ my)⟩
    obtain ⟨b, mb, e⟩ := List.mem_map.mp m
    exact h1 (i b (List.mem_cons_of_mem _ mb) a List.mem_cons_self e ▸ mb)
open C8 (Cal Met Mak Def cal0 met0 mak0 pe_c pe_mk pe_mt pe_mt0 fnScope fnBody fnArgs)
section
variable {X : Cx} {k j : Nat} {C : Addr} {sp : Sp}
/-- a method of the class, called somewhere below the running body -/
theorem own_run {pins : List (Addr × Obj)} {s : Shared} {σ : L2.St} {H : Hp} {m : Str} {vs : List V} {us : List Value} {Q : VK} {A : Around} (c : Met X.prog X.w X.K X.mg X.base k C m sp []) (sb : Sub X k A) (I : Inv X pins σ H s) (r : Vals vs us) (h : sp vs H Q C8.E0) :
    ∃ fa, PySem.W.findIn X.K (.ref C) m = some (some (.ref fa)) ∧ PySem.W.isFn X.K (.ref fa) = true ∧ wpAny (model X.prog X.w) A (call (.ref fa) us) (EP X pins σ Q) X.xe s := by
  obtain ⟨fa, fd, ps, ds, hc, hm, F, b, d⟩ := c.ex
  cases d
  refine ⟨fa, hm.at_, hm.fn, ?_⟩
  have hl : us.length = ps.length := by rw [← r.length]; exact F.len _ _ _ _ h
  have e0 : Env0 X.prog X.w X.K X.mg X.base A X.stack s H := by
    have e := I.env0
    exact ⟨by rw [sb.fr]; exact e.frames, e.mod, e.bs, e.bsz, e.funs, e.frf, e.hok, e.bare⟩
  refine wpAny_call (codeAny_mono (F.run A X.stack s H ⟨us, []⟩ us vs Q C8.E0 sb.room e0 (by
    have := b s us I.kIn (by simpa using hl)
    simpa using this) r h) fun r s' hq => ?_)
  cases r with
  | error e => exact (C8.pass0 (E := C8.E0)) pins σ H s e s' I hq
  | ok fl =>
    cases fl with
    | ret u => exact I.after hq
    | next => exact False.elim hq
    | brk => exact False.elim hq
    | cont => exact False.elim hq
def rNeOwn (C : Addr) (sp : Sp) : R2 := fun x y H Q => ∃ a dx fs b dy gs, x = .ref a ∧ y = .ref b ∧ H a = some (.ins C dx fs) ∧ H b = some (.ins C dy gs) ∧ sp [x, y] H (fun v H' => ∃ r, v = .bl r ∧ Q (.bl (!r)) H') C8.E0
theorem op_neOwn (c : Met X.prog X.w X.K X.mg X.base k C "__eq__" sp []) (hr : Room (k + 1) X.A) (hne : PySem.W.findIn X.K (.ref C) "__ne__" = some (some (.builtin "object.__ne__"))) (hm : PySem.W.mroIn X.K C (.type "object") = some true) : OpR X (compareOp .NotEq) (rNeOwn C sp) := by
  rintro pins s σ H x y v u Q I rx ry ⟨a, dx, fs, b, dy, gs, rfl, rfl, ha, hb, hs⟩
  cases rx
  cases ry
  obtain ⟨mA, J, _⟩ := ins_get I.hok ha
  obtain ⟨mB, J', _⟩ := ins_get I.hok hb
  obtain ⟨od, J, _⟩ := J.look
  obtain ⟨od', J', _⟩ := J'.look
  obtain ⟨m, hF⟩ := I.fr
  obtain ⟨fa, h1, h2, h3⟩ := own_run (A := X.A.in1) c ⟨hr.in1, rfl⟩ I (vs := [.ref a, .ref b]) (us := [.ref a, .ref b]) (.cons rfl (.cons rfl .nil)) hs
  have hu := hr.units
  unfold compareOp
  refine PySem.W.fb_rich_ne (by omega) hF I.ok.mod.kin J J'.type hne hm h1 h2 (wpAny_mono h3 (fun r s' hq => ?_) fun _ _ z => z)
  obtain ⟨v, H', I', rv, b2, rfl, q⟩ := hq
  cases rv
  exact ⟨b2, rfl, .bl (!b2), H', I', rfl, q⟩
def rLenOwn (C : Addr) (sp : Sp) : List V → Hp → VK → Prop := fun xs H Q => ∃ a dx fs, xs = [.ref a] ∧ H a = some (.ins C dx fs) ∧ sp xs H (fun v H' => ∃ n : Nat, v = .int n ∧ n ≤ 1000000 ∧ Q (.int n) H') C8.E0
theorem call_lenOwn (c : Met X.prog X.w X.K X.mg X.base k C "__len__" sp []) (hr : Room (k + 1) X.A) : CallR X (.builtin "len") (rLenOwn C sp) := by
  rintro pins s σ H xs us Q I r ⟨a, dx, fs, rfl, ha, hs⟩
  rw [Vals.ref1 r]
  obtain ⟨mA, J, _⟩ := ins_get I.hok ha
  obtain ⟨od, J, _⟩ := J.look
  obtain ⟨m, hF⟩ := I.fr
  obtain ⟨fa, h1, h2, h3⟩ := own_run (A := X.A.in1) c ⟨hr.in1, rfl⟩ I (vs := [.ref a]) (us := [.ref a]) (.cons rfl .nil) hs
  refine PySem.W.len_K hF I.ok.mod.kin J h1 h2 (wpAny_mono h3 (fun r s' hq => ?_) fun _ _ z => z)
  obtain ⟨v, H', I', rv, n, rfl, l, q⟩ := hq
  obtain ⟨t, rfl⟩ := rv
  refine ⟨⟨by omega, by omega⟩, .int n, H', I'.tok _, ⟨_, rfl⟩, q⟩
end
end Fb

set_option Elab.async false
set_option linter.all false
set_option maxRecDepth 100000
set_option maxHeartbeats 4000000
/-! webs: roads and turns of a law -/
namespace Fb
open PySem PySem.Spec L2
open PyProof.Rows hiding St
/-- pairs of different roads -/
def PsOk (ns : List Str) (ps : List Tw) : Prop := ps.Nodup ∧ ∀ q ∈ ps, q.1 ∈ ns ∧ q.2 ∈ ns ∧ q.1 ≠ q.2
def WebAt (H : Hp) (W : Addr) (ns : List Str) (ps : List Tw) : Prop := ∃ D F xs, H W = some (.tup [.ref D, .ref F]) ∧ H D = some (.lst (ns.map V.str)) ∧ H F = some (.lst xs) ∧ TwsV H xs ps
theorem WebAt.mono {H H' : Hp} {W : Addr} {ns : List Str} {ps : List Tw} (h : WebAt H W ns ps) (e : Same H H') : WebAt H' W ns ps := by
  obtain ⟨D, F, xs, a, b, c, d⟩ := h
  exact ⟨D, F, xs, e _ _ a, e _ _ b, e _ _ c, d.kp (Same.kpt e)⟩
structure WebOk (ns : List Str) (ps : List Tw) (most : Nat) : Prop where
  ne : ns ≠ []
  ln : ns.length ≤ most
  nm : Nms ns
  nd : ns.Nodup
  ok : PsOk ns ps
  lp : ps.length ≤ 100
/-- the steps of a row -/
def stp (ns : List Str) (k : Nat) : Tw := (ns.getD k "", ns.getD (k + 1) "")
def rowU (ns : List Str) (n : Nat) : List Tw := (List.range n).map (stp ns)
def flp (q : Tw) : Tw := (q.2, q.1)
theorem idx_getD {ns : List Str} (nd : ns.Nodup) {k : Nat} (h : k < ns.length) : ns.getD k "" ∈ ns ∧ ns.idxOf (ns.getD k "") = k := by
  rw [List.getD_eq_getElem?_getD, List.getElem?_eq_getElem h]
  refine ⟨List.getElem_mem h, ?_⟩
  have m := List.getElem_mem h
  have lt := List.idxOf_lt_length_of_mem m
  have e := List.getElem_idxOf lt
  exact (List.getElem_inj nd).mp e
theorem rowU_at {ns : List Str} (nd : ns.Nodup) {n : Nat} (h : n + 1 ≤ ns.length) {q : Tw} (m : q ∈ rowU ns n) : q.1 ∈ ns ∧ q.2 ∈ ns ∧ ns.idxOf q.1 + 1 = ns.idxOf q.2 := by
  obtain ⟨k, mk, rfl⟩ := List.mem_map.mp m
  have lk := List.mem_range.mp mk
  obtain ⟨a1, a2⟩ := idx_getD nd (k := k) (by omega)
  obtain ⟨b1, b2⟩ := idx_getD nd (k := k + 1) (by omega)
  refine ⟨a1, b1, ?_⟩
  show ns.idxOf (ns.getD k "") + 1 = ns.idxOf (ns.getD (k + 1) "")
  rw [a2, b2]
theorem rowU_nd {ns : List Str} (nd : ns.Nodup) {n : Nat} (h : n + 1 ≤ ns.length) : (rowU ns n).Nodup := by
  refine nodup_on List.nodup_range fun a ma b mb e => ?_
  have la := List.mem_range.mp ma
  have lb := List.mem_range.mp mb
  have e := congrArg Prod.fst e
  have e : ns.getD a "" = ns.getD b "" := e
  have := (idx_getD nd (k := a) (by omega)).2
  rw [e, (idx_getD nd (k := b) (by omega)).2] at this
  exact this.symm
theorem rowU_len (ns : List Str) (n : Nat) : (rowU ns n).length = n := by
  unfold rowU
  rw [List.length_map, List.length_range]
/-- pairs that lead up the row -/
def Ups (ns : List Str) (ps : List Tw) : Prop := ∀ q ∈ ps, ns.idxOf q.1 + 1 = ns.idxOf q.2
theorem rowU_ok {ns : List Str} (nd : ns.Nodup) {n : Nat} (h : n + 1 ≤ ns.length) : PsOk ns (rowU ns n) ∧ Ups ns (rowU ns n) := by
  refine ⟨⟨rowU_nd nd h, fun q m => ?_⟩, fun q m => (rowU_at nd h m).2.2⟩
  obtain ⟨a, b, c⟩ := rowU_at nd h m
  refine ⟨a, b, fun e => ?_⟩
  rw [e] at c
  omega
theorem PsOk.add {ns : List Str} {ps : List Tw} (h : PsOk ns ps) {u v : Str} (a : u ∈ ns) (b : v ∈ ns) (c : u ≠ v) (n : (u, v) ∉ ps) : PsOk ns (ps ++ [(u, v)]) := by
  refine ⟨List.nodup_append.mpr ⟨h.1, nd1, fun y hy z hz => by rw [List.mem_singleton.mp hz]; exact fun q => n (q ▸ hy)⟩, fun q m => ?_⟩
  rcases List.mem_append.mp m with m | m
  · exact h.2 q m
  · rw [List.mem_singleton.mp m]
    exact ⟨a, b, c⟩
theorem PsOk.flips {ns : List Str} (nd : ns.Nodup) {ps : List Tw} (h : PsOk ns ps) (u : Ups ns ps) {n : Nat} (l : n + 1 ≤ ns.length) : PsOk ns (ps ++ (rowU ns n).map flp) := by
  obtain ⟨⟨r1, r2⟩, r3⟩ := rowU_ok nd l
  refine ⟨List.nodup_append.mpr ⟨h.1, nodup_on r1 fun a _ b _ e => ?_, fun y hy z hz e => ?_⟩, fun q m => ?_⟩
  · have e1 := congrArg Prod.fst e
    have e2 := congrArg Prod.snd e
    exact Prod.ext e2 e1
  · obtain ⟨w, mw, rfl⟩ := List.mem_map.mp hz
    have := u y hy
    have w3 := r3 w mw
    rw [e] at this
    have this : ns.idxOf w.2 + 1 = ns.idxOf w.1 := this
    omega
  · rcases List.mem_append.mp m with m | m
    · exact h.2 q m
    · obtain ⟨w, mw, rfl⟩ := List.mem_map.mp m
      obtain ⟨a, b, c⟩ := r2 w mw
      exact ⟨b, a, fun e => c e.symm⟩

/-! ### the search by rounds -/
/-- what is known: reached through P, and as many different ones as rounds -/
structure KnI (E : List Tw) (P : Str → Prop) (ws : List Str) (one : Str) (i : Nat) (known : List Str) : Prop where
  has : one ∈ known
  rch : ∀ x ∈ known, x = one ∨ (P x ∧ Rch E P one x)
  sub : ∀ x ∈ known, x ∈ ws
  many : ∃ us : List Str, us.Nodup ∧ us.length = i + 1 ∧ ∀ x ∈ us, x ∈ known
theorem KnI.start {E : List Tw} {P : Str → Prop} {ws : List Str} {one : Str} (m : one ∈ ws) : KnI E P ws one 0 [one] :=
  ⟨List.mem_singleton.mpr rfl, fun x h => .inl (List.mem_singleton.mp h), fun x h => by rw [List.mem_singleton.mp h]; exact m, [one], nd1, rfl, fun x h => h⟩
theorem KnI.yes {E : List Tw} {P : Str → Prop} {ws : List Str} {one two x : Str} {i : Nat} {known : List Str} (h : KnI E P ws one i known) (m : x ∈ known) (e : (x, two) ∈ E) : Rch E P one two := by
  rcases h.rch x m with rfl | ⟨p, r⟩
  · exact .edge e
  · exact .step r p e
theorem KnI.no {E : List Tw} {P : Str → Prop} {ws : List Str} {one two : Str} {i : Nat} {known : List Str} (h : KnI E P ws one i known) (n : ∀ x, x ∈ known → (x, two) ∉ E) (c : ∀ x y, x ∈ known → (x, y) ∈ E → P y → y ∈ known) : ¬ Rch E P one two := by
  intro r
  have key : ∀ t, Rch E P one t → ∃ x ∈ known, (x, t) ∈ E := by
    intro t r
    induction r with
    | edge e => exact ⟨one, h.has, e⟩
    | step r p e ih =>
      obtain ⟨x, mx, ex⟩ := ih
      exact ⟨_, c _ _ mx ex p, e⟩
  obtain ⟨x, mx, ex⟩ := key two r
  exact n x mx ex
theorem KnI.more {E : List Tw} {P : Str → Prop} {ws : List Str} {one f0 : Str} {i : Nat} {known fresh : List Str} (h : KnI E P ws one i known) (m0 : f0 ∈ fresh) (n0 : f0 ∉ known) (all : ∀ y ∈ fresh, P y ∧ y ∈ ws ∧ ∃ x ∈ known, (x, y) ∈ E) : KnI E P ws one (i + 1) (known ++ fresh) := by
  obtain ⟨us, nu, lu, su⟩ := h.many
  refine ⟨List.mem_append_left _ h.has, fun x m => ?_, fun x m => ?_, us ++ [f0], List.nodup_append.mpr ⟨nu, nd1, fun a ma b mb e => ?_⟩, by rw [List.length_append, lu]; rfl, fun x m => ?_⟩
  · rcases List.mem_append.mp m with m | m
    · exact h.rch x m
    · obtain ⟨p, _, y, my, ey⟩ := all x m
      exact .inr ⟨p, h.yes my ey⟩
  · rcases List.mem_append.mp m with m | m
    · exact h.sub x m
    · exact (all x m).2.1
  · rw [List.mem_singleton.mp mb] at e
    rw [e] at ma
    exact n0 (su _ ma)
  · rcases List.mem_append.mp m with m | m
    · exact List.mem_append_left _ (su x m)
    · rw [List.mem_singleton.mp m]
      exact List.mem_append_right _ m0
theorem KnI.le {E : List Tw} {P : Str → Prop} {ws : List Str} {one : Str} {i : Nat} {known : List Str} (h : KnI E P ws one i known) : i + 1 ≤ ws.length := by
  obtain ⟨us, nu, lu, su⟩ := h.many
  have := nd_le nu fun x m => h.sub x (su x m)
  omega
theorem range_getD {α β : Type} (d : α) (f : α → β) (l : List α) (n : Nat) (h : n = l.length) : (List.range n).map (fun i => f (l.getD i d)) = l.map f := by
  subst h
  exact map_range_get d f l
theorem getD_at {α : Type} {l : List α} {i : Nat} {x d : α} (h : l[i]? = some x) : l.getD i d = x := by
  rw [List.getD_eq_getElem?_getD, h]
  rfl
/-- two low pairs that meet at a lower road -/
theorem LowP.join {E : List Tw} {order : List Str} {a m b : Str} (nd : order.Nodup) (h : LowP E order (a, m)) (k : LowP E order (m, b)) (ne : a ≠ b) (l1 : order.idxOf m < order.idxOf a) (l2 : order.idxOf m < order.idxOf b) : LowP E order (a, b) := by
  obtain ⟨ma, mm, _, r1⟩ := h
  obtain ⟨_, mb, _, r2⟩ := k
  have mm : m ∈ order := mm
  have r1 : Rch E (fun x => x ∈ order.take (min (order.idxOf a) (order.idxOf m))) a m := r1
  have r2 : Rch E (fun x => x ∈ order.take (min (order.idxOf m) (order.idxOf b))) m b := r2
  have up : ∀ {n : Nat} {x : Str}, n ≤ min (order.idxOf a) (order.idxOf b) → x ∈ order.take n → x ∈ order.take (min (order.idxOf a) (order.idxOf b)) := fun l h => (List.take_sublist_take_left l).mem h
  refine ⟨ma, mb, ne, (r1.mono fun x h => up (by omega) h).trans ?_ (r2.mono fun x h => up (by omega) h)⟩
  show m ∈ order.take (min (order.idxOf a) (order.idxOf b))
  exact (idx_take mm _).mp (by omega)
/-- ascending pairs, row by row -/
theorem rows_so {ws : List Str} (nd : ws.Nodup) (so : ws.Pairwise fun a b => stLe a b = true) : ws.Pairwise stLt := by
  refine (List.pairwise_and_iff.mpr ⟨so, nd⟩ : ws.Pairwise fun a b => stLe a b = true ∧ a ≠ b).imp fun {a b} h => ?_
  have h1 : decide (a.cps.toList ≤ b.cps.toList) = true := by
    have := h.1
    rw [stLe_eq] at this
    exact this
  have h1 := of_decide_eq_true h1
  rcases stLt_tri a b with c | c | c
  · exact c
  · exact absurd c h.2
  · exact absurd c (by
      intro q
      exact absurd h1 (List.not_le.mpr q))
theorem take_lt {ws : List Str} (so : ws.Pairwise stLt) {i : Nat} {z y : Str} (g : ws[i]? = some z) (m : y ∈ ws.take i) : stLt y z := by
  obtain ⟨j, hj⟩ := List.getElem?_of_mem m
  have lj : j < (ws.take i).length := (List.getElem?_eq_some_iff.mp hj).1
  rw [List.length_take] at lj
  rw [List.getElem?_take_of_lt (by omega)] at hj
  obtain ⟨l1, e1⟩ := List.getElem?_eq_some_iff.mp hj
  obtain ⟨l2, e2⟩ := List.getElem?_eq_some_iff.mp g
  have := List.pairwise_iff_getElem.mp so j i l1 l2 (by omega)
  rw [e1, e2] at this
  exact this
end Fb

set_option Elab.async false
set_option linter.all false
set_option maxRecDepth 100000
set_option maxHeartbeats 4000000
/-! from where a road was reached; low ways; the first lacking pair -/
namespace Fb
open PySem PySem.Spec L2
open PyProof.Rows hiding St
abbrev Cm := List (Str × Option Str)
def cmV : Option Str → V
  | none => .non
  | some p => .str p
def cmD (cl : Cm) : List (Key × V) := cl.map fun q => (nmK q.1, cmV q.2)
theorem cmD_keys (cl : Cm) : (cmD cl).map Prod.fst = (cl.map Prod.fst).map nmK := by
  unfold cmD
  rw [List.map_map, List.map_map]
  rfl
theorem cmD_len (cl : Cm) : (cmD cl).length = cl.length := List.length_map ..
theorem cmD_some (cl : Cm) (z : Str) : (valV (cmD cl) (Sum.inr z)).isSome = decide (z ∈ cl.map Prod.fst) := val_in (cmD_keys cl) z
theorem cmD_put {cl : Cm} {z p : Str} (h : z ∉ cl.map Prod.fst) : putK (cmD cl) (nmK z) (.str p) = cmD (cl ++ [(z, some p)]) := by
  have n : valV (cmD cl) (nmK z) = none := by
    have e := cmD_some cl z
    rw [decide_eq_false h] at e
    exact Option.isNone_iff_eq_none.mp (by rw [← Option.not_isSome, show (valV (cmD cl) (nmK z)).isSome = false from e]; rfl)
  rw [putK_new _ n]
  unfold cmD
  rw [List.map_append]
  rfl
theorem valV_cons_hit {k : Key} {v : V} {kvs : List (Key × V)} : valV ((k, v) :: kvs) k = some v := by
  unfold valV
  simp
theorem valV_cons_miss {k k' : Key} {v : V} {kvs : List (Key × V)} (h : k' ≠ k) : valV ((k', v) :: kvs) k = valV kvs k := by
  unfold valV
  simp [h]
theorem cmD_val : ∀ {cl : Cm} {z : Str} {o : Option Str}, (cl.map Prod.fst).Nodup → (z, o) ∈ cl → valV (cmD cl) (Sum.inr z) = some (cmV o)
  | (y, o') :: cl, z, o, nd, m => by
    obtain ⟨n1, n2⟩ := List.nodup_cons.mp nd
    show valV ((nmK y, cmV o') :: cmD cl) (Sum.inr z) = _
    rcases List.mem_cons.mp m with e | m
    · cases e
      exact valV_cons_hit
    · rw [valV_cons_miss, cmD_val n2 m]
      intro e
      cases e
      exact n1 (List.mem_map.mpr ⟨_, m, rfl⟩)
/-- a way whose inner roads are all P -/
structure LowWay (E : List Tw) (P : Str → Prop) (s t : Str) (w : List Str) : Prop where
  nd : w.Nodup
  wlk : Wlk E w
  hd : w.head? = some s
  lt : w.getLast? = some t
  inn : ∀ z ∈ w, z = s ∨ z = t ∨ P z
/-- what came from where: all but the first from one ahead -/
structure CmI (E : List Tw) (al : Str → Prop) (src : Str) (cl : Cm) : Prop where
  nd : (cl.map Prod.fst).Nodup
  hd : cl[0]? = some (src, none)
  up : ∀ i z o, cl[i + 1]? = some (z, o) → ∃ p, o = some p ∧ p ∈ (cl.take (i + 1)).map Prod.fst ∧ (p, z) ∈ E ∧ al z
theorem CmI.start {E : List Tw} {al : Str → Prop} {src : Str} : CmI E al src [(src, none)] :=
  ⟨nd1, rfl, fun i z o h => by cases h⟩
theorem CmI.more {E : List Tw} {al : Str → Prop} {src z p : Str} {cl : Cm} (h : CmI E al src cl) (n : z ∉ cl.map Prod.fst) (mp : p ∈ cl.map Prod.fst) (e : (p, z) ∈ E) (a : al z) : CmI E al src (cl ++ [(z, some p)]) := by
  refine ⟨?_, ?_, fun i y o g => ?_⟩
  · rw [List.map_append]
    exact List.nodup_append.mpr ⟨h.nd, nd1, fun a ma b mb e => by rw [List.mem_singleton.mp mb] at e; rw [e] at ma; exact n ma⟩
  · rw [List.getElem?_append_left (List.getElem?_eq_some_iff.mp h.hd).1]
    exact h.hd
  · by_cases c : i + 1 < cl.length
    · rw [List.getElem?_append_left c] at g
      obtain ⟨q, h1, h2, h3, h4⟩ := h.up i y o g
      refine ⟨q, h1, ?_, h3, h4⟩
      rw [List.take_append_of_le_length (by omega)]
      exact h2
    · have l := (List.getElem?_eq_some_iff.mp g).1
      rw [List.length_append, List.length_singleton] at l
      have ei : i + 1 = cl.length := by omega
      rw [ei, List.getElem?_append_right (Nat.le_refl _), Nat.sub_self] at g
      cases g
      refine ⟨p, rfl, ?_, e, a⟩
      rw [ei, List.take_append_of_le_length (Nat.le_refl _), List.take_length]
      exact mp
theorem CmI.imp {E : List Tw} {al al' : Str → Prop} {src : Str} {cl : Cm} (h : CmI E al src cl) (k : ∀ z, al z → al' z) : CmI E al' src cl :=
  ⟨h.nd, h.hd, fun i z o g => by obtain ⟨p, a, b, c, d⟩ := h.up i z o g; exact ⟨p, a, b, c, k _ d⟩⟩
/-- the place of a road -/
def cmI (cl : Cm) (z : Str) : Nat := (cl.map Prod.fst).idxOf z
theorem CmI.at {E : List Tw} {al : Str → Prop} {src z : Str} {cl : Cm} {o : Option Str} (h : CmI E al src cl) (m : (z, o) ∈ cl) : (o = none ∧ z = src ∧ cmI cl z = 0) ∨ ∃ p, o = some p ∧ p ∈ cl.map Prod.fst ∧ cmI cl p < cmI cl z ∧ (p, z) ∈ E ∧ al z := by
  obtain ⟨j, hj⟩ := List.getElem?_of_mem m
  have hk : (cl.map Prod.fst)[j]? = some z := by rw [List.getElem?_map, hj]; rfl
  have ij : cmI cl z = j := by
    obtain ⟨l, e⟩ := List.getElem?_eq_some_iff.mp hk
    have m2 : z ∈ cl.map Prod.fst := List.mem_of_getElem? hk
    have l2 := List.idxOf_lt_length_of_mem m2
    have e2 := List.getElem_idxOf l2
    exact (List.getElem_inj h.nd).mp (e2.trans e.symm)
  cases j with
  | zero =>
    rw [h.hd] at hj
    cases hj
    exact .inl ⟨rfl, rfl, ij⟩
  | succ i =>
    obtain ⟨p, h1, h2, h3, h4⟩ := h.up i z o hj
    have l := (List.getElem?_eq_some_iff.mp hj).1
    rw [List.map_take] at h2
    have mp := List.mem_of_mem_take h2
    refine .inr ⟨p, h1, mp, ?_, h3, h4⟩
    rw [ij]
    exact (idx_take mp _).mpr h2
/-- the way back, as far as it is traced -/
structure TrI (E : List Tw) (al : Str → Prop) (cl : Cm) (t z : Str) (o : Option Str) (w : List Str) : Prop where
  at_ : (z, o) ∈ cl
  nd : (z :: w).Nodup
  wlk : Wlk E (z :: w)
  lt : (z :: w).getLast? = some t
  lo : ∀ y ∈ w, cmI cl z < cmI cl y
  al : ∀ y ∈ w, al y
theorem TrI.start {E : List Tw} {al : Str → Prop} {cl : Cm} {t : Str} {o : Option Str} (m : (t, o) ∈ cl) : TrI E al cl t t o [] :=
  ⟨m, nd1, (fun i a b _ g => (by cases i <;> cases g)), rfl, (fun y m => (nomatch m)), (fun y m => (nomatch m))⟩
theorem TrI.step {E : List Tw} {al : Str → Prop} {src : Str} {cl : Cm} {t z p : Str} {o : Option Str} {w : List Str} (h : TrI E al cl t z (some p) w) (I : CmI E al src cl) (m : (p, o) ∈ cl) : TrI E al cl t p o (z :: w) := by
  obtain ⟨h1, h2, h3⟩ : cmI cl p < cmI cl z ∧ (p, z) ∈ E ∧ al z := by
    rcases I.at h.at_ with ⟨q, _⟩ | ⟨p', q, a, b, c⟩
    · cases q
    · cases q
      exact ⟨b, c⟩
  have lo : ∀ y ∈ z :: w, cmI cl p < cmI cl y := fun y my => by
    rcases List.mem_cons.mp my with rfl | my
    · exact h1
    · exact Nat.lt_trans h1 (h.lo y my)
  refine ⟨m, List.nodup_cons.mpr ⟨fun mp => Nat.lt_irrefl _ (lo p mp), h.nd⟩, fun i a b ga gb => ?_, ?_, lo, fun y my => ?_⟩
  · cases i with
    | zero =>
      cases ga
      cases gb
      exact h2
    | succ i => exact h.wlk i a b ga gb
  · have := h.lt
    rw [List.getLast?_cons_cons]
    exact this
  · rcases List.mem_cons.mp my with rfl | my
    · exact h3
    · exact h.al y my
theorem TrI.whole {E : List Tw} {al P : Str → Prop} {src : Str} {cl : Cm} {t z : Str} {w : List Str} (h : TrI E al cl t z none w) (I : CmI E al src cl) (k : ∀ y, al y → y = t ∨ P y) : LowWay E P src t (z :: w) := by
  rcases I.at h.at_ with ⟨_, rfl, _⟩ | ⟨p, q, _⟩
  · refine ⟨h.nd, h.wlk, rfl, h.lt, fun y my => ?_⟩
    rcases List.mem_cons.mp my with rfl | my
    · exact .inl rfl
    · exact .inr (k y (h.al y my))
  · cases q
theorem LowWay.len {E : List Tw} {P : Str → Prop} {s t : Str} {w : List Str} (h : LowWay E P s t w) (ne : s ≠ t) : 2 ≤ w.length := by
  cases w with
  | nil => cases h.hd
  | cons a w =>
    cases w with
    | nil =>
      have h1 := h.hd
      have h2 := h.lt
      cases h1
      cases h2
      exact absurd rfl ne
    | cons b w => exact Nat.le_add_left _ _
/-- a closed search has found all -/
theorem clo_rch {E : List Tw} {P : Str → Prop} {s t : Str} {ks : List Str} (h : s ∈ ks) (c : ∀ z ∈ ks, ∀ y, (z, y) ∈ E → (P y ∨ y = t) → y ∈ ks) (r : Rch E P s t) : t ∈ ks := by
  have key : ∀ u, Rch E P s u → (P u ∨ u = t) → u ∈ ks := by
    intro u r
    induction r with
    | edge e => exact fun k => c _ h _ e k
    | step r p e ih => exact fun k => c _ (ih (.inl p)) _ e k
  exact key t r (.inr rfl)
/-! ### the least of pairs of numbers -/
abbrev Ip := Int × Int
def ipD (p : Ip) : PyData := .tuple [.int p.1, .int p.2]
def ipLe (a b : Ip) : Prop := a.1 < b.1 ∨ (a.1 = b.1 ∧ a.2 ≤ b.2)
instance (a b : Ip) : Decidable (ipLe a b) := by unfold ipLe; infer_instance
theorem ipLt (a b : Ip) : PySem.W.dataLt (ipD b) (ipD a) = !decide (ipLe a b) := by
  have h := congrFun (congrFun (PySem.W.dataLe_ii (β := Ip) (fun p => p.1) (fun p => p.2)) a) b
  rw [PySem.W.dataLe_eq] at h
  have h : (!PySem.W.dataLt (ipD b) (ipD a)) = decide (a.1 < b.1 ∨ (a.1 = b.1 ∧ a.2 ≤ b.2)) := h
  rw [show decide (ipLe a b) = decide (a.1 < b.1 ∨ (a.1 = b.1 ∧ a.2 ≤ b.2)) from rfl, ← h, Bool.not_not]
theorem ip_min : ∀ (l : List Ip) (a : Ip), ∃ m ∈ a :: l, PySem.W.minD (ipD a) (l.map ipD) = ipD m ∧ ∀ z ∈ a :: l, ipLe m z
  | [], a => ⟨a, List.mem_cons_self, rfl, fun z mz => by rw [List.mem_singleton.mp mz]; exact .inr ⟨rfl, Int.le_refl _⟩⟩
  | b :: l, a => by
    have step : PySem.W.minD (ipD a) ((b :: l).map ipD) = PySem.W.minD (if PySem.W.dataLt (ipD b) (ipD a) = true then ipD b else ipD a) (l.map ipD) := rfl
    by_cases c : ipLe a b
    · rw [step, ipLt, decide_eq_true c]
      obtain ⟨m, mm, e, k⟩ := ip_min l a
      refine ⟨m, ?_, e, fun z mz => ?_⟩
      · rcases List.mem_cons.mp mm with rfl | mm
        · exact List.mem_cons_self
        · exact List.mem_cons_of_mem _ (List.mem_cons_of_mem _ mm)
      · rcases List.mem_cons.mp mz with rfl | mz
        · exact k _ List.mem_cons_self
        · rcases List.mem_cons.mp mz with rfl | mz
          · have := k _ List.mem_cons_self
            unfold ipLe at this c ⊢
            omega
          · exact k z (List.mem_cons_of_mem _ mz)
    · rw [step, ipLt, decide_eq_false c]
      obtain ⟨m, mm, e, k⟩ := ip_min l b
      refine ⟨m, List.mem_cons_of_mem _ mm, e, fun z mz => ?_⟩
      rcases List.mem_cons.mp mz with rfl | mz
      · have := k _ List.mem_cons_self
        unfold ipLe at this c ⊢
        omega
      · exact k z mz
/-- the places of a pair -/
def rkP (order : List Str) (q : Tw) : Ip := ((order.idxOf q.1 : Nat), (order.idxOf q.2 : Nat))
/-- the first of the pairs that are P, by the places -/
def IsFirst (order : List Str) (P : Tw → Prop) (q : Tw) : Prop := P q ∧ ∀ r, P r → ipLe (rkP order q) (rkP order r)
def IpV (H : Hp) (v : V) (p : Ip) : Prop := ∃ a, v = .ref a ∧ H a = some (.tup [.int p.1, .int p.2])
abbrev IpsV (H : Hp) : List V → List Ip → Prop := Paired (IpV H)
theorem IpV.kp {H H' : Hp} {v : V} {p : Ip} (e : Kpt H H') (h : IpV H v p) : IpV H' v p := by
  obtain ⟨a, rfl, h⟩ := h
  exact ⟨a, rfl, e _ _ h⟩
theorem IpsV.kp {H H' : Hp} {xs : List V} {ps : List Ip} (e : Kpt H H') (h : IpsV H xs ps) : IpsV H' xs ps := Paired.mapP h fun _ _ h => h.kp e
theorem IpV.dp {K : PySem.W.Frag} {H : Hp} {v : V} {p : Ip} (h : IpV H v p) : Dp K H v (ipD p) := by
  obtain ⟨a, rfl, h⟩ := h
  exact .tup (SqT.of h) (.cons (.int _) (.cons (.int _) .nil))
theorem IpsV.dp {K : PySem.W.Frag} {H : Hp} {xs : List V} {ps : List Ip} (h : IpsV H xs ps) : DpAll K H xs (ps.map ipD) := by
  unfold IpsV at h
  induction h with
  | nil => exact .nil
  | cons a _ ih => exact .cons a.dp ih
theorem IpsV.app {H : Hp} : ∀ {xs : List V} {ps : List Ip}, IpsV H xs ps → ∀ {ys : List V} {qs : List Ip}, IpsV H ys qs → IpsV H (xs ++ ys) (ps ++ qs)
  | _, _, .nil, _, _, h => h
  | _, _, .cons a r, _, _, h => .cons a (IpsV.app r h)
theorem depth_ips : ∀ ps : List Ip, PyData.depthAll (ps.map ipD) ≤ 1
  | [] => Nat.zero_le _
  | p :: ps => by
    have ih := depth_ips ps
    show max ((ipD p).depth) (PyData.depthAll (ps.map ipD)) ≤ 1
    have : (ipD p).depth = 1 := rfl
    omega
theorem alike_ips (ps : List Ip) : PySem.W.AlikeAll (ps.map ipD) := by
  refine ⟨fun x hx y hy => ?_, fun x hx e => ?_⟩
  · obtain ⟨p, _, rfl⟩ := List.mem_map.mp hx
    obtain ⟨q, _, rfl⟩ := List.mem_map.mp hy
    simp [ipD, PySem.W.alike, PySem.W.alikeAll]
  · obtain ⟨p, _, rfl⟩ := List.mem_map.mp hx
    exact nomatch e
/-! ### verdicts on plans -/
def tkF (n m : Int) : List (Str × V) := [("taken", .bl true), ("needed", .int n), ("spare", .int m)]
def TakAt (C : Addr) (H : Hp) (x : Addr) (n m : Int) : Prop := ∃ dx, H x = some (.ins C dx (tkF n m))
def rfF (s t : Str) (W : Addr) : List (Str × V) := [("taken", .bl false), ("source", .str s), ("target", .str t), ("way", .ref W)]
def RefAt (C : Addr) (H : Hp) (x : Addr) (s t : Str) (W : Addr) : Prop := ∃ dx, H x = some (.ins C dx (rfF s t W))
theorem TakAt.mono {C : Addr} {H H' : Hp} {x : Addr} {n m : Int} (h : TakAt C H x n m) (e : Same H H') : TakAt C H' x n m := by
  obtain ⟨dx, h⟩ := h
  exact ⟨dx, e _ _ h⟩
theorem RefAt.mono {C : Addr} {H H' : Hp} {x : Addr} {s t : Str} {W : Addr} (h : RefAt C H x s t W) (e : Same H H') : RefAt C H' x s t W := by
  obtain ⟨dx, h⟩ := h
  exact ⟨dx, e _ _ h⟩
theorem tkF_n {n m : Int} : (tkF n m).lookup ("needed" : Str) = some (.int n) := (lk_miss (by decide +kernel)).trans lk_hit
theorem tkF_s {n m : Int} : (tkF n m).lookup ("spare" : Str) = some (.int m) := (lk_miss (by decide +kernel)).trans ((lk_miss (by decide +kernel)).trans lk_hit)
theorem tkF_t {n m : Int} : (tkF n m).lookup ("taken" : Str) = some (.bl true) := lk_hit
theorem rfF_t {s t : Str} {W : Addr} : (rfF s t W).lookup ("taken" : Str) = some (.bl false) := lk_hit
theorem rfF_s {s t : Str} {W : Addr} : (rfF s t W).lookup ("source" : Str) = some (.str s) := (lk_miss (by decide +kernel)).trans lk_hit
theorem rfF_g {s t : Str} {W : Addr} : (rfF s t W).lookup ("target" : Str) = some (.str t) := (lk_miss (by decide +kernel)).trans ((lk_miss (by decide +kernel)).trans lk_hit)
theorem rfF_w {s t : Str} {W : Addr} : (rfF s t W).lookup ("way" : Str) = some (.ref W) := (lk_miss (by decide +kernel)).trans ((lk_miss (by decide +kernel)).trans ((lk_miss (by decide +kernel)).trans lk_hit))
section
variable {P : Program} {w : World} {K : PySem.W.Frag} {mg : Str → Option Value} {base : Heap} {m qual : Str} {st : Stmt} {f : Addr} {fd : FuncData} {N : List Str} {k : Nat} {p1 p2 p3 p4 : Str}
theorem fm4 {g : V → V → V → V → Hp → VK → Prop} (F : C8.Fun K m qual st f fd) (S : FnScope N [p1, p2, p3, p4] (C8.fnScope st))
    (body : ∀ (cdv : Value) (A : Around) (outer : List Env) (s : Shared) (H : Hp) (a b c d : V) (Q : VK) (E : XK), Room k (A.deeper (envOfC qual (C8.fnScope st) s.heap.objs.size f cdv)) → g a b c d H Q →
      ∃ t, PSs (cxOf C8.CX0 P w K mg base N qual (C8.fnScope st) f cdv A outer s H E).nox (C8.fnBody st) t ∧ t { nx := fun _ H' => Q .non H', rt := Q } (L2.start N [a, b, c, d]) H) : FnOk P w K mg base C8.CX0 (k + 1) f fd [p1, p2, p3, p4] (sp4 g) := by
  refine C8.fn0 F S ?_ ?_
  · rintro vs H Q E ⟨a, b, c, d, rfl, _⟩
    rfl
  · rintro cdv A outer s H vs Q E hr ⟨a, b, c, d, rfl, h⟩
    exact body cdv A outer s H a b c d Q E hr h
end
/-- the roads that are newly reached from some -/
structure StI (E : List Tw) (als : List Str) (src : Str) (cl : Cm) (rs : List Str) (clo : Str → Str → Prop) (nw : Cm) : Prop where
  cm : CmI E (fun z => z ∈ als) src (cl ++ nw)
  clo : ∀ p y, clo p y → (p, y) ∈ E → y ∈ als → y ∈ (cl ++ nw).map Prod.fst
theorem LowWay.imp {E : List Tw} {P P' : Str → Prop} {s t : Str} {w : List Str} (h : LowWay E P s t w) (k : ∀ z, P z → P' z) : LowWay E P' s t w :=
  ⟨h.nd, h.wlk, h.hd, h.lt, fun z m => (h.inn z m).imp id fun h => h.imp id (k z)⟩
end Fb

set_option Elab.async false
set_option linter.all false
set_option maxRecDepth 100000
set_option maxHeartbeats 4000000
/-! y = {k: v for ..} where y is a plain name -/
namespace Fb
open PySem PySem.Spec L2
open PyProof.Rows hiding St
section
variable {X : Cx}
theorem ps_setDc {i : Nat} {y : Str} {py : Pos} {kx vx tg iter : Expr} {ifs : List Expr} {scope : Scope} {own : List (Str × Nat)} {pos spos : Pos} {wi : TI} {g : TG} {tt : TT} {tk tv : TE} (hc : X.calm = true) (hN : X.N.Nodup) (hy : X.N[i]? = some y) (hyl : X.env.scope.names.lookup y = some .local)
    (hsw : swapsWith (.DictComp kx vx [⟨tg, iter, ifs, 0⟩] scope pos) (some (.Name y py)) spos.line X.env = pure true) (hi : PI X tg iter wi) (ok : BlkOk X.N X.env.scope scope own)
    (hg : ∀ (s : Shared) (H : Hp) (C : Addr) (cl : List (Str × Addr)) (fp : List Addr), PG (X.blk s H scope (compEnvC scope cl C X.env) fp) tg g) (ht : ∀ (s : Shared) (H : Hp) (C : Addr) (cl : List (Str × Addr)) (fp : List Addr), PTs (X.blk s H scope (compEnvC scope cl C X.env) fp) ifs tt)
    (hk : ∀ (s : Shared) (H : Hp) (C : Addr) (cl : List (Str × Addr)) (fp : List Addr), PE (X.blk s H scope (compEnvC scope cl C X.env) fp) kx tk)
    (he : ∀ (s : Shared) (H : Hp) (C : Addr) (cl : List (Str × Addr)) (fp : List Addr), PE (X.blk s H scope (compEnvC scope cl C X.env) fp) vx tv) (hs : ∀ x, foldedSetIterable iter X.env x = pure x := by intro _; rfl) :
    PS X (.Assign [.Name y py] (.DictComp kx vx [⟨tg, iter, ifs, 0⟩] scope pos) spos) (tAsg (tDc wi g tt tk tv (own.map (·.2))) (gName i)) := by
  refine ⟨fun pins s σ H D I h => ?_⟩
  rw [exec_Assign_Name_used _ _ _ _ hsw]
  refine wpAny_bind (wpAny_standAt (wpAny_bind ?_))
  show wpAny _ X.A (do let _ ← comprehension (.DictComp kx vx [⟨tg, iter, ifs, 0⟩] scope pos) scope X.env (firstIterPos [⟨tg, iter, ifs, 0⟩] pos) newDict false (eval iter X.env) (some (assign (.Name y py) X.env))) _ _ s
  have h : tDc wi g tt tk tv (own.map (·.2)) σ H (fun x H1 => gName i x σ H1 D.nx) := h
  refine wpAny_bind (thn (dc_core (Qf := fun _ s' => SP X pins D .next s') hc hN I hi ok hg ht hk he hs h fun L C s' m H' I' q hn f => ?_) fun _ s' hq => wpAny_pure (wpAny_pure hq))
  show wpAny _ _ (assign (.Name y py) X.env (.ref L)) _ _ _
  refine wpAny_assign_Name (store_ok2 (v := V.ref L) I' hN hy (.inl hyl) rfl (fun s2 I2 ⟨a, sb, ha⟩ => ?_) (.inr hyl))
  obtain ⟨f0, f1, f2, f3, f4, f5⟩ := f
  have haC : C ≠ a := by
    rcases ha with z | z
    · rw [z]; exact f1
    · exact fun e => f4 y a z e.symm
  refine ⟨m, hn.sameBut sb haC, fun h3 sb3 => ?_⟩
  exact ⟨_, H', I2.turned (t' := s2.toks) (fun b o hb e => (sb3.2 b hb).trans e) f0 f1 f3 f4 f5, q⟩
theorem sw_trueD {kx vx : Expr} {gs : List Comprehension} {scope : Scope} {pos py : Pos} {y : Str} {l : Nat} {env : Env} (hk : env.scope.kind = .function) (hy : env.scope.names.lookup y = some .local) (hl : (py.line == pos.line) = true)
    (ha : (scope.names.any fun (n, k) => n == y && (k == .local || k == .cell)) = false) : swapsWith (.DictComp kx vx gs scope pos) (some (.Name y py)) l env = pure true := by
  have ky : env.kindOf y = some .local := hy
  have hb : env.blockKind = .function := by unfold Env.blockKind; rw [hk]; rfl
  unfold swapsWith
  simp only [hb, ky, ha, Expr.pos, hl]
  rfl
end
end Fb

set_option Elab.async false
set_option linter.all false
set_option maxRecDepth 100000
set_option maxHeartbeats 4000000
/-! lines: which of them alone are least on a stretch -/
namespace Fb
abbrev Ln := Int × Int
/-- read at the setting n / d, times d -/
def vA (l : Ln) (n d : Int) : Int := l.1 * d + l.2 * n
def nevM (x y z : Ln) : Bool := decide ((z.1 - y.1) * (x.2 - y.2) ≤ (y.1 - x.1) * (y.2 - z.2))
def blwM (l o : Ln) (s : Int) : Bool := decide (l.1 + l.2 * s < o.1 + o.2 * s)
/-- x stands before y: a rises, b falls -/
def Bf (x y : Ln) : Prop := x.1 < y.1 ∧ y.2 < x.2
theorem Bf.trans {x y z : Ln} (h : Bf x y) (k : Bf y z) : Bf x z := ⟨Int.lt_trans h.1 k.1, Int.lt_trans k.2 h.2⟩
def popM (l : Ln) : List Ln → List Ln
  | y :: x :: r => if nevM x y l = true then popM l (x :: r) else y :: x :: r
  | r => r
def addM (top : Int) (l : Ln) (R : List Ln) : List Ln := match popM l R with
  | [] => [l]
  | y :: r => if blwM l y top = true then l :: y :: r else y :: r
def lowM (top : Int) (rows : List Ln) : List Ln := (rows.foldl (fun R l => addM top l R) []).reverse
/-- what is kept, the last one first -/
def Good (top : Int) : List Ln → Prop
  | y :: x :: r => Bf x y ∧ blwM y x top = true ∧ (∀ w r', r = w :: r' → nevM w x y = false) ∧ Good top (x :: r)
  | _ => True
theorem Good.tail {top : Int} {y : Ln} : ∀ {r : List Ln}, Good top (y :: r) → Good top r
  | [], _ => trivial
  | _ :: _, h => h.2.2.2
theorem pop_sub {l : Ln} : ∀ {R : List Ln}, ∀ q ∈ popM l R, q ∈ R
  | [], q, h => h
  | [_], q, h => h
  | y :: x :: r, q, h => by
    unfold popM at h
    by_cases e : nevM x y l = true
    · rw [if_pos e] at h
      exact List.mem_cons_of_mem _ (pop_sub q h)
    · rw [if_neg e] at h
      exact h
theorem pop_good {top : Int} {l : Ln} : ∀ {R : List Ln}, Good top R → Good top (popM l R)
  | [], h => h
  | [_], h => h
  | y :: x :: r, h => by
    unfold popM
    by_cases e : nevM x y l = true
    · rw [if_pos e]
      exact pop_good h.tail
    · rw [if_neg e]
      exact h
theorem pop_top {l y x : Ln} {r : List Ln} : ∀ {R : List Ln}, popM l R = y :: x :: r → nevM x y l = false
  | [], h => by cases h
  | [_], h => by cases h
  | b :: a :: s, h => by
    unfold popM at h
    by_cases e : nevM a b l = true
    · rw [if_pos e] at h
      exact pop_top h
    · rw [if_neg e] at h
      cases h
      cases q : nevM x y l with
      | false => rfl
      | true => exact absurd q e
theorem pop_ne {l : Ln} : ∀ {R : List Ln}, R ≠ [] → popM l R ≠ []
  | [], h, _ => h rfl
  | [_], _, e => by cases e
  | y :: x :: r, _, e => by
    unfold popM at e
    by_cases q : nevM x y l = true
    · rw [if_pos q] at e
      exact pop_ne (List.cons_ne_nil _ _) e
    · rw [if_neg q] at e
      cases e
/-- a line that is nowhere alone least: one of its neighbours is no greater -/
theorem nev_cover {x y z : Ln} {n d : Int} (h : nevM x y z = true) (xy : Bf x y) (yz : Bf y z) (hd : 0 < d) : vA x n d ≤ vA y n d ∨ vA z n d ≤ vA y n d := by
  have h := of_decide_eq_true h
  obtain ⟨a1, b1⟩ := xy
  obtain ⟨a2, b2⟩ := yz
  by_cases c : vA x n d ≤ vA y n d
  · exact .inl c
  · refine .inr ?_
    by_cases e : vA z n d ≤ vA y n d
    · exact e
    · exfalso
      unfold vA at c e
      have c1 : 0 < (x.2 - y.2) * n - (y.1 - x.1) * d := by grind
      have e1 : 0 < (z.1 - y.1) * d - (y.2 - z.2) * n := by grind
      have m1 := Int.mul_pos c1 (show 0 < y.2 - z.2 by omega)
      have m2 := Int.mul_pos e1 (show 0 < x.2 - y.2 by omega)
      have m3 := Int.mul_le_mul_of_nonneg_right h (Int.le_of_lt hd)
      grind
theorem pop_cover {l : Ln} {n d : Int} (hd : 0 < d) {top : Int} : ∀ {R : List Ln}, Good top R → (∀ y ∈ R, Bf y l) → ∀ q ∈ R, ∃ t, (t = l ∨ t ∈ popM l R) ∧ vA t n d ≤ vA q n d
  | [], _, _, q, h => by cases h
  | [_], _, _, q, h => ⟨q, .inr h, Int.le_refl _⟩
  | y :: x :: r, g, hb, q, h => by
    unfold popM
    by_cases e : nevM x y l = true
    · rw [if_pos e]
      have ih := pop_cover (l := l) (n := n) hd g.tail (fun z hz => hb z (List.mem_cons_of_mem _ hz))
      rcases List.mem_cons.mp h with rfl | h
      · rcases nev_cover (n := n) e g.1 (hb _ (List.mem_cons_self ..)) hd with c | c
        · obtain ⟨t, ht, le⟩ := ih x (List.mem_cons_self ..)
          exact ⟨t, ht, Int.le_trans le c⟩
        · exact ⟨l, .inl rfl, c⟩
      · exact ih q h
    · rw [if_neg e]
      exact ⟨q, .inr h, Int.le_refl _⟩
theorem not_below {l y : Ln} {top n d : Int} (h : blwM l y top = false) (b : Bf y l) (hd : 0 < d) (h2 : n ≤ top * d) : vA y n d ≤ vA l n d := by
  have h : ¬ l.1 + l.2 * top < y.1 + y.2 * top := of_decide_eq_false h
  obtain ⟨a1, b1⟩ := b
  unfold vA
  have m1 := Int.mul_le_mul_of_nonneg_right (show y.1 + y.2 * top ≤ l.1 + l.2 * top by omega) (Int.le_of_lt hd)
  have m2 := Int.mul_le_mul_of_nonneg_left h2 (show 0 ≤ y.2 - l.2 by omega)
  grind
theorem add_sub {top : Int} {l : Ln} {R : List Ln} : ∀ q ∈ addM top l R, q = l ∨ q ∈ R := by
  intro q h
  unfold addM at h
  cases e : popM l R with
  | nil =>
    rw [e] at h
    exact .inl (List.mem_singleton.mp h)
  | cons y r =>
    rw [e] at h
    have s := fun x hx => pop_sub (l := l) (R := R) x (by rw [e]; exact hx)
    by_cases b : blwM l y top = true
    · have h : q ∈ (if blwM l y top = true then l :: y :: r else y :: r) := h
      rw [if_pos b] at h
      rcases List.mem_cons.mp h with h | h
      · exact .inl h
      · exact .inr (s q h)
    · have h : q ∈ (if blwM l y top = true then l :: y :: r else y :: r) := h
      rw [if_neg b] at h
      exact .inr (s q h)
theorem add_good {top : Int} {l : Ln} {R : List Ln} (g : Good top R) (hb : ∀ y ∈ R, Bf y l) : Good top (addM top l R) := by
  unfold addM
  have pg := pop_good (l := l) g
  cases e : popM l R with
  | nil => exact trivial
  | cons y r =>
    rw [e] at pg
    show Good top (if blwM l y top = true then l :: y :: r else y :: r)
    by_cases b : blwM l y top = true
    · rw [if_pos b]
      refine ⟨hb y (pop_sub y (by rw [e]; exact List.mem_cons_self ..)), b, ?_, pg⟩
      rintro w r' rfl
      exact pop_top e
    · rw [if_neg b]
      exact pg
theorem add_cover {top : Int} {l : Ln} {R : List Ln} {n d : Int} (g : Good top R) (hb : ∀ y ∈ R, Bf y l) (hd : 0 < d) (h2 : n ≤ top * d) : ∀ q, (q = l ∨ q ∈ R) → ∃ t ∈ addM top l R, vA t n d ≤ vA q n d := by
  have lc : ∃ t ∈ addM top l R, vA t n d ≤ vA l n d := by
    unfold addM
    cases e : popM l R with
    | nil => exact ⟨l, List.mem_singleton.mpr rfl, Int.le_refl _⟩
    | cons y r =>
      show ∃ t ∈ (if blwM l y top = true then l :: y :: r else y :: r), _
      cases b : blwM l y top with
      | true => exact ⟨l, List.mem_cons_self .., Int.le_refl _⟩
      | false => exact ⟨y, List.mem_cons_self .., not_below b (hb y (pop_sub y (by rw [e]; exact List.mem_cons_self ..))) hd h2⟩
  have pc : ∀ q ∈ popM l R, q ∈ addM top l R := by
    intro q h
    unfold addM
    cases e : popM l R with
    | nil =>
      rw [e] at h
      cases h
    | cons y r =>
      rw [e] at h
      show q ∈ (if blwM l y top = true then l :: y :: r else y :: r)
      cases b : blwM l y top with
      | true => exact List.mem_cons_of_mem _ h
      | false => exact h
  rintro q (rfl | h)
  · exact lc
  · obtain ⟨t, ht, le⟩ := pop_cover (l := l) (n := n) hd g hb q h
    rcases ht with rfl | ht
    · obtain ⟨u, hu, le2⟩ := lc
      exact ⟨u, hu, Int.le_trans le2 le⟩
    · exact ⟨t, pc t ht, le⟩
/-- rows in their order: a rises, b falls -/
def Rows (rows : List Ln) : Prop := rows.Pairwise Bf
theorem fold_ok {top : Int} : ∀ (rows R done : List Ln), Rows rows → (∀ y ∈ done, ∀ l ∈ rows, Bf y l) → (∀ y ∈ R, y ∈ done) → Good top R → (∀ n d, 0 < d → n ≤ top * d → ∀ q ∈ done, ∃ t ∈ R, vA t n d ≤ vA q n d) →
    (∀ y ∈ rows.foldl (fun R l => addM top l R) R, y ∈ done ∨ y ∈ rows) ∧ Good top (rows.foldl (fun R l => addM top l R) R) ∧
    ∀ n d, 0 < d → n ≤ top * d → ∀ q, (q ∈ done ∨ q ∈ rows) → ∃ t ∈ rows.foldl (fun R l => addM top l R) R, vA t n d ≤ vA q n d
  | [], R, done, _, _, sub, g, c => ⟨fun y hy => .inl (sub y hy), g, fun n d hd h2 q hq => by
      rcases hq with hq | hq
      · exact c n d hd h2 q hq
      · cases hq⟩
  | l :: rows, R, done, hr, hb, sub, g, c => by
    have hr := List.pairwise_cons.mp hr
    have hl : ∀ y ∈ R, Bf y l := fun y hy => hb y (sub y hy) l (List.mem_cons_self ..)
    obtain ⟨i1, i2, i3⟩ := fold_ok rows (addM top l R) (l :: done) hr.2
      (fun y hy m hm => by
        rcases List.mem_cons.mp hy with rfl | hy
        · exact hr.1 m hm
        · exact hb y hy m (List.mem_cons_of_mem _ hm))
      (fun y hy => by
        rcases add_sub y hy with rfl | hy
        · exact List.mem_cons_self ..
        · exact List.mem_cons_of_mem _ (sub y hy))
      (add_good g hl)
      (fun n d hd h2 q hq => by
        rcases List.mem_cons.mp hq with rfl | hq
        · exact add_cover g hl hd h2 q (.inl rfl)
        · obtain ⟨t, ht, le⟩ := c n d hd h2 q hq
          obtain ⟨u, hu, le2⟩ := add_cover (n := n) g hl hd h2 t (.inr ht)
          exact ⟨u, hu, Int.le_trans le2 le⟩)
    refine ⟨fun y hy => ?_, i2, fun n d hd h2 q hq => ?_⟩
    · rcases i1 y hy with h | h
      · rcases List.mem_cons.mp h with rfl | h
        · exact .inr (List.mem_cons_self ..)
        · exact .inl h
      · exact .inr (List.mem_cons_of_mem _ h)
    · rcases hq with hq | hq
      · exact i3 n d hd h2 q (.inl (List.mem_cons_of_mem _ hq))
      · rcases List.mem_cons.mp hq with rfl | hq
        · exact i3 n d hd h2 q (.inl (List.mem_cons_self ..))
        · exact i3 n d hd h2 q (.inr hq)
/-- the lowest lines: of the rows, in their chain, and nowhere above a row -/
theorem low_ok {top : Int} {rows : List Ln} (hr : Rows rows) : (∀ y ∈ lowM top rows, y ∈ rows) ∧ Good top (lowM top rows).reverse ∧ ∀ n d, 0 < d → n ≤ top * d → ∀ q ∈ rows, ∃ t ∈ lowM top rows, vA t n d ≤ vA q n d := by
  obtain ⟨h1, h2, h3⟩ := fold_ok (top := top) rows [] [] hr (fun y hy => by cases hy) (fun y hy => by cases hy) trivial (fun n d _ _ q hq => by cases hq)
  unfold lowM
  refine ⟨fun y hy => ?_, by rw [List.reverse_reverse]; exact h2, fun n d hd hn q hq => ?_⟩
  · rcases h1 y (List.mem_reverse.mp hy) with h | h
    · cases h
    · exact h
  · obtain ⟨t, ht, le⟩ := h3 n d hd hn q (.inr hq)
    exact ⟨t, List.mem_reverse.mpr ht, le⟩
theorem low_ne {top : Int} {l : Ln} {rows : List Ln} (hr : Rows (l :: rows)) : lowM top (l :: rows) ≠ [] := by
  intro e
  by_cases h : 0 ≤ top
  · obtain ⟨t, ht, _⟩ := (low_ok (top := top) hr).2.2 0 1 (by decide) (by omega) l (List.mem_cons_self ..)
    rw [e] at ht
    cases ht
  · obtain ⟨t, ht, _⟩ := (low_ok (top := top) hr).2.2 top 1 (by decide) (by omega) l (List.mem_cons_self ..)
    rw [e] at ht
    cases ht
/-! ### alone least -/
theorem nev_lt {s t u : Ln} (h : nevM s t u = false) : (t.1 - s.1) * (t.2 - u.2) < (u.1 - t.1) * (s.2 - t.2) := Int.not_le.mp (of_decide_eq_false h)
theorem blw_lt {l o : Ln} {s : Int} (h : blwM l o s = true) : l.1 + l.2 * s < o.1 + o.2 * s := of_decide_eq_true h
/-- behind the meeting with s, t loses to u later than it wins against s -/
theorem vA_up {s t u : Ln} {n d : Int} (st : Bf s t) (tu : Bf t u) (h : nevM s t u = false) (hd : 0 < d) (k : vA s n d < vA t n d) : vA t n d < vA u n d := by
  have h := nev_lt h
  obtain ⟨a1, b1⟩ := st
  obtain ⟨a2, b2⟩ := tu
  unfold vA at k ⊢
  have k1 : (s.2 - t.2) * n < (t.1 - s.1) * d := by grind
  have m1 := Int.mul_lt_mul_of_pos_left k1 (show 0 < t.2 - u.2 by omega)
  have m2 := Int.mul_lt_mul_of_pos_right h hd
  have m3 : (s.2 - t.2) * ((t.2 - u.2) * n) < (s.2 - t.2) * ((u.1 - t.1) * d) := by grind
  have m4 := Int.lt_of_mul_lt_mul_left m3 (show 0 ≤ s.2 - t.2 by omega)
  grind
theorem vA_down {s t u : Ln} {n d : Int} (st : Bf s t) (tu : Bf t u) (h : nevM s t u = false) (hd : 0 < d) (k : vA u n d < vA t n d) : vA t n d < vA s n d := by
  have h := nev_lt h
  obtain ⟨a1, b1⟩ := st
  obtain ⟨a2, b2⟩ := tu
  unfold vA at k ⊢
  have k1 : (u.1 - t.1) * d < (t.2 - u.2) * n := by grind
  have m1 := Int.mul_lt_mul_of_pos_left k1 (show 0 < s.2 - t.2 by omega)
  have m2 := Int.mul_lt_mul_of_pos_right h hd
  have m3 : (t.2 - u.2) * ((t.1 - s.1) * d) < (t.2 - u.2) * ((s.2 - t.2) * n) := by grind
  have m4 := Int.lt_of_mul_lt_mul_left m3 (show 0 ≤ t.2 - u.2 by omega)
  grind
theorem chain_down {top n d : Int} (hd : 0 < d) : ∀ {suf : List Ln} {t : Ln}, Good top (t :: suf) → (∀ s r, suf = s :: r → vA t n d < vA s n d) → ∀ z ∈ suf, vA t n d < vA z n d
  | [], _, _, _, z, h => by cases h
  | s :: r, t, g, k, z, h => by
    have h1 := k s r rfl
    rcases List.mem_cons.mp h with rfl | h
    · exact h1
    · have ih := chain_down hd (suf := r) (t := s) g.tail (fun w r' e => by
        subst e
        have g2 := g.tail
        exact vA_down g2.1 g.1 (g.2.2.1 w r' rfl) hd h1) z h
      exact Int.lt_trans h1 ih
theorem good_at {top : Int} : ∀ {pre : List Ln} {t : Ln} {suf : List Ln}, Good top (pre ++ t :: suf) → Good top (t :: suf)
  | [], _, _, g => g
  | _ :: pre, _, _, g => good_at (pre := pre) g.tail
theorem chain_up {top n d : Int} (hd : 0 < d) : ∀ {pre : List Ln} {t : Ln} {suf : List Ln}, Good top (pre ++ t :: suf) → (∀ u p, pre = p ++ [u] → vA t n d < vA u n d) →
    (∀ y p, pre = y :: p → ∀ x r, p ++ t :: suf = x :: r → vA x n d < vA y n d) ∧ ∀ z ∈ pre, vA t n d < vA z n d
  | [], _, _, _, _ => ⟨fun y p e => (by cases e), fun z h => by cases h⟩
  | [y], t, suf, g, k => by
    have h := k y [] rfl
    refine ⟨fun y' p e x r e2 => ?_, fun z hz => ?_⟩
    · cases e
      cases e2
      exact h
    · cases List.mem_singleton.mp hz
      exact h
  | y :: y2 :: p, t, suf, g, k => by
    obtain ⟨i1, i2⟩ := chain_up hd (pre := y2 :: p) (t := t) (suf := suf) g.tail (fun u q e => k u (y :: q) (by rw [e]; rfl))
    have key : vA y2 n d < vA y n d := by
      have g : Good top (y :: y2 :: (p ++ t :: suf)) := g
      cases e : p ++ t :: suf with
      | nil => cases p <;> cases e
      | cons x r =>
        rw [e] at g
        have h1 := i1 y2 p rfl x r e
        exact vA_up g.tail.1 g.1 (g.2.2.1 x r rfl) hd h1
    refine ⟨fun y' p' e x r e2 => ?_, fun z hz => ?_⟩
    · cases e
      cases e2
      exact key
    · rcases List.mem_cons.mp hz with rfl | hz
      · exact Int.lt_trans (i2 y2 (List.mem_cons_self ..)) key
      · exact i2 z hz
/-- the settings of the law, as whole places over F -/
structure Places (rays : List Ln) (roof F : Int) (ps : List Int) : Prop where
  fp : 0 < F
  up : ps.Pairwise (· < ·)
  m0 : 0 ∈ ps
  mr : roof * F ∈ ps
  inn : ∀ x ∈ ps, 0 ≤ x ∧ x ≤ roof * F
  cross : ∀ l ∈ rays, ∀ u ∈ rays, Bf l u → u.1 - l.1 < roof * (l.2 - u.2) → ∃ x ∈ ps, x * (l.2 - u.2) = (u.1 - l.1) * F
theorem next_at {a b : Int} : ∀ {ps : List Int}, ps.Pairwise (· < ·) → a ∈ ps → b ∈ ps → a < b → ∃ k, k + 1 < ps.length ∧ ps.getD k 0 = a ∧ ps.getD (k + 1) 0 ≤ b ∧ a < ps.getD (k + 1) 0 ∧ ∀ x ∈ ps, ¬ (a < x ∧ x < ps.getD (k + 1) 0)
  | [], _, h, _, _ => by cases h
  | c :: ps, hp, ha, hb, lt => by
    have hp := List.pairwise_cons.mp hp
    rcases List.mem_cons.mp ha with rfl | ha
    · rcases List.mem_cons.mp hb with rfl | hb
      · omega
      · cases ps with
        | nil => cases hb
        | cons e r =>
          have h2 := List.pairwise_cons.mp hp.2
          refine ⟨0, by show 1 < r.length + 1 + 1; omega, rfl, ?_, hp.1 e (List.mem_cons_self ..), fun x hx hh => ?_⟩
          · rcases List.mem_cons.mp hb with rfl | hb
            · exact Int.le_refl _
            · exact Int.le_of_lt (h2.1 b hb)
          · have hh2 : x < e := hh.2
            rcases List.mem_cons.mp hx with rfl | hx
            · omega
            · rcases List.mem_cons.mp hx with rfl | hx
              · omega
              · have := h2.1 x hx
                omega
    · have ca := hp.1 a ha
      have hb : b ∈ ps := by
        rcases List.mem_cons.mp hb with rfl | hb
        · omega
        · exact hb
      obtain ⟨k, h1, h2, h3, h4, h5⟩ := next_at hp.2 ha hb lt
      refine ⟨k + 1, by show k + 1 + 1 < ps.length + 1; omega, h2, h3, h4, fun x hx hh => ?_⟩
      rcases List.mem_cons.mp hx with rfl | hx
      · omega
      · exact h5 x hx hh
theorem alone {rays R : List Ln} {roof F : Int} {qs : List Int} (P : Places rays roof F qs) (hr : 0 < roof) (g : Good roof R) (sub : ∀ t ∈ R, t ∈ rays) (cov : ∀ n d, 0 ≤ n → 0 < d → n ≤ roof * d → ∀ q ∈ rays, ∃ t ∈ R, vA t n d ≤ vA q n d) {t : Ln} (ht : t ∈ R) :
    ∃ k, k + 1 < qs.length ∧ ∀ z ∈ rays, z ≠ t → vA t (qs.getD k 0 + qs.getD (k + 1) 0) (F * 2) < vA z (qs.getD k 0 + qs.getD (k + 1) 0) (F * 2) := by
  obtain ⟨pre, suf, rfl⟩ := List.append_of_mem ht
  have F0 := P.fp
  have gt := good_at g
  have tr := sub t ht
  -- where t wins
  obtain ⟨lo, hlo, l0, lz, l1⟩ : ∃ lo ∈ qs, 0 ≤ lo ∧ (suf = [] → lo = 0) ∧ ∀ s r, suf = s :: r → lo * (s.2 - t.2) = (t.1 - s.1) * F ∧ Bf s t := by
    cases suf with
    | nil => exact ⟨0, P.m0, Int.le_refl _, fun _ => rfl, fun s r e => by cases e⟩
    | cons s r =>
      have b := blw_lt gt.2.1
      have bs : Bf s t := gt.1
      obtain ⟨x, hx, ex⟩ := P.cross s (sub s (by simp)) t (sub t (by simp)) bs (by grind)
      refine ⟨x, hx, (P.inn x hx).1, (fun e => by cases e), fun s' r' e => ?_⟩
      cases e
      exact ⟨ex, bs⟩
  -- where t loses
  obtain ⟨hi, hhi, hz, h2⟩ : ∃ hi ∈ qs, (pre = [] → hi = roof * F) ∧ ∀ u p, pre = p ++ [u] → hi * (t.2 - u.2) = (u.1 - t.1) * F ∧ Bf t u ∧ (∀ s r, suf = s :: r → nevM s t u = false) := by
    rcases List.eq_nil_or_concat pre with rfl | ⟨p, u, rfl⟩
    · refine ⟨roof * F, P.mr, fun _ => rfl, fun u p e => ?_⟩
      have := congrArg List.length e
      simp at this
    · rw [List.concat_eq_append, List.append_assoc] at g
      have gu : Good roof (u :: t :: suf) := good_at g
      have b := blw_lt gu.2.1
      have bu : Bf t u := gu.1
      obtain ⟨x, hx, ex⟩ := P.cross t tr u (sub u (by simp)) bu (by grind)
      refine ⟨x, hx, fun e => ?_, fun u' p' e => ?_⟩
      · have := congrArg List.length e
        simp at this
      · rw [List.concat_eq_append] at e
        have e2 := (List.append_inj' e rfl).2
        cases e2
        exact ⟨ex, bu, gu.2.2.1⟩
  have lt : lo < hi := by
    rcases List.eq_nil_or_concat pre with e | ⟨p, u, e⟩
    · have eh := hz e
      have rF := Int.mul_pos hr F0
      cases suf with
      | nil =>
        rw [lz rfl, eh]
        exact rF
      | cons s r =>
        obtain ⟨e1, bs⟩ := l1 s r rfl
        have b := blw_lt gt.2.1
        obtain ⟨a1, b1⟩ := bs
        have q1 : t.1 - s.1 < roof * (s.2 - t.2) := by
          rw [Int.mul_sub, Int.mul_comm roof, Int.mul_comm roof]
          omega
        have m1 := Int.mul_lt_mul_of_pos_right q1 F0
        have m2 : lo * (s.2 - t.2) < hi * (s.2 - t.2) := by
          rw [e1, eh, Int.mul_right_comm]
          exact m1
        exact Int.lt_of_mul_lt_mul_right m2 (by omega)
    · rw [List.concat_eq_append] at e
      obtain ⟨e2, bu, nv⟩ := h2 u p e
      obtain ⟨a2, b2⟩ := bu
      cases suf with
      | nil =>
        rw [lz rfl]
        have m1 := Int.mul_pos (show 0 < u.1 - t.1 by omega) F0
        rw [← e2] at m1
        have m2 : 0 * (t.2 - u.2) < hi * (t.2 - u.2) := by
          rw [Int.zero_mul]
          exact m1
        exact Int.lt_of_mul_lt_mul_right m2 (by omega)
      | cons s r =>
        obtain ⟨e1, bs⟩ := l1 s r rfl
        have nv := nev_lt (nv s r rfl)
        obtain ⟨a1, b1⟩ := bs
        have m1 := Int.mul_lt_mul_of_pos_right nv F0
        have m2 : lo * ((s.2 - t.2) * (t.2 - u.2)) < hi * ((s.2 - t.2) * (t.2 - u.2)) := by
          have k1 : lo * ((s.2 - t.2) * (t.2 - u.2)) = (t.1 - s.1) * (t.2 - u.2) * F := by
            rw [← Int.mul_assoc, e1, Int.mul_right_comm]
          have k2 : hi * ((s.2 - t.2) * (t.2 - u.2)) = (u.1 - t.1) * (s.2 - t.2) * F := by
            rw [Int.mul_comm (s.2 - t.2), ← Int.mul_assoc, e2, Int.mul_right_comm]
          rw [k1, k2]
          exact m1
        exact Int.lt_of_mul_lt_mul_right m2 (Int.le_of_lt (Int.mul_pos (by omega) (by omega)))
  obtain ⟨k, k1, k2, k3, k4, k5⟩ := next_at P.up hlo hhi lt
  refine ⟨k, k1, ?_⟩
  rw [k2]
  generalize qs.getD (k + 1) 0 = nx at k3 k4 k5
  have hm : lo * 2 < lo + nx ∧ lo + nx < nx * 2 := by omega
  have hD : 0 < F * 2 := by omega
  have down := chain_down (n := lo + nx) hD gt (fun s r e => by
    obtain ⟨e1, a1, b1⟩ := l1 s r e
    have m1 := Int.mul_lt_mul_of_pos_right hm.1 (show 0 < s.2 - t.2 by omega)
    have m2 : lo * 2 * (s.2 - t.2) = (t.1 - s.1) * F * 2 := by rw [Int.mul_right_comm, e1]
    unfold vA
    rw [m2] at m1
    grind)
  have up := (chain_up (n := lo + nx) hD g (fun u p e => by
    obtain ⟨e2, ⟨a2, b2⟩, _⟩ := h2 u p e
    have m1 := Int.mul_lt_mul_of_pos_right (show lo + nx < hi * 2 by omega) (show 0 < t.2 - u.2 by omega)
    have m2 : hi * 2 * (t.2 - u.2) = (u.1 - t.1) * F * 2 := by rw [Int.mul_right_comm, e2]
    unfold vA
    rw [m2] at m1
    grind)).2
  have inT : ∀ z ∈ pre ++ t :: suf, z = t ∨ vA t (lo + nx) (F * 2) < vA z (lo + nx) (F * 2) := by
    intro z hz
    rcases List.mem_append.mp hz with h | h
    · exact .inr (up z h)
    · rcases List.mem_cons.mp h with h | h
      · exact .inl h
      · exact .inr (down z h)
  have hiF := (P.inn hi hhi).2
  have mroof : lo + nx ≤ roof * (F * 2) := by
    rw [← Int.mul_assoc]
    omega
  intro z hz ne
  obtain ⟨u, hu, le⟩ := cov (lo + nx) (F * 2) (by omega) hD mroof z hz
  rcases inT u hu with rfl | h
  · -- not equal: a crossing between two neighbouring places
    rcases Int.lt_or_le (vA u (lo + nx) (F * 2)) (vA z (lo + nx) (F * 2)) with h | h
    · exact h
    exfalso
    have eq := Int.le_antisymm le h
    unfold vA at eq
    have no : ∀ l ∈ rays, ∀ v ∈ rays, Bf l v → (l.2 - v.2) * (lo + nx) = (v.1 - l.1) * (F * 2) → False := by
      intro l hl v hv b e
      obtain ⟨a1, b1⟩ := b
      have lt2 : v.1 - l.1 < roof * (l.2 - v.2) := by
        have m1 := Int.mul_lt_mul_of_pos_left (show lo + nx < roof * (F * 2) by rw [← Int.mul_assoc]; omega) (show 0 < l.2 - v.2 by omega)
        rw [e, show (l.2 - v.2) * (roof * (F * 2)) = roof * (l.2 - v.2) * (F * 2) by rw [← Int.mul_assoc, Int.mul_comm (l.2 - v.2)]] at m1
        exact Int.lt_of_mul_lt_mul_right m1 (Int.le_of_lt hD)
      obtain ⟨x, hx, ex⟩ := P.cross l hl v hv ⟨a1, b1⟩ lt2
      have x2 : x * 2 = lo + nx := by
        have m1 : (l.2 - v.2) * (x * 2) = (l.2 - v.2) * (lo + nx) := by
          rw [e, ← Int.mul_assoc, ← Int.mul_assoc, Int.mul_comm (l.2 - v.2), ex]
        exact Int.eq_of_mul_eq_mul_left (by omega) m1
      exact k5 x hx ⟨by omega, by omega⟩
    have mpos : 0 < lo + nx := by omega
    rcases Int.lt_trichotomy z.2 u.2 with hb | hb | hb
    · refine no u tr z hz ⟨?_, hb⟩ (by grind)
      have m1 := Int.mul_pos (show 0 < u.2 - z.2 by omega) mpos
      have m2 : 0 * (F * 2) < (z.1 - u.1) * (F * 2) := by grind
      have := Int.lt_of_mul_lt_mul_right m2 (Int.le_of_lt hD)
      omega
    · rw [hb] at eq
      have m2 : u.1 * (F * 2) = z.1 * (F * 2) := by omega
      have := Int.eq_of_mul_eq_mul_right (by omega) m2
      exact ne (Prod.ext this.symm hb)
    · refine no z hz u tr ⟨?_, hb⟩ (by grind)
      have m1 := Int.mul_pos (show 0 < z.2 - u.2 by omega) mpos
      have m2 : 0 * (F * 2) < (u.1 - z.1) * (F * 2) := by grind
      have := Int.lt_of_mul_lt_mul_right m2 (Int.le_of_lt hD)
      omega
  · exact Int.lt_of_lt_of_le h le
end Fb

set_option Elab.async false
set_option linter.all false
set_option maxRecDepth 100000
set_option maxHeartbeats 4000000
/-! rows of ints on the heap -/
namespace Fb
open PySem PySem.Spec L2
open PyProof.Rows hiding St
def rowD (l : List Int) : PyData := .tuple (l.map .int)
def RowsV (K : PySem.W.Frag) (H : Hp) (xs : List V) (ls : List (List Int)) : Prop := DpAll K H xs (ls.map rowD)
theorem RowsV.mono {K : PySem.W.Frag} {H H' : Hp} {xs : List V} {ls : List (List Int)} (h : RowsV K H xs ls) (e : Same H H') : RowsV K H' xs ls := dpAll_mono e _ h
theorem RowsV.len {K : PySem.W.Frag} {H : Hp} {xs : List V} {ls : List (List Int)} (h : RowsV K H xs ls) : xs.length = ls.length := by
  have := dpAll_len h
  rw [List.length_map] at this
  exact this
theorem RowsV.get {K : PySem.W.Frag} {H : Hp} {xs : List V} {ls : List (List Int)} (h : RowsV K H xs ls) {i : Nat} {x : V} (e : xs[i]? = some x) : ∃ l, ls[i]? = some l ∧ TupI K H x l := by
  obtain ⟨d, g1, g2⟩ := dpAll_get h e
  rw [List.getElem?_map] at g1
  cases hl : ls[i]? with
  | none =>
    rw [hl] at g1
    cases g1
  | some l =>
    rw [hl] at g1
    cases g1
    exact ⟨l, rfl, optD_tup g2⟩
theorem RowsV.upd {K : PySem.W.Frag} {H : Hp} {q : Addr} {ys : List V} {o : HO} (hq : H q = some (.lst ys)) : ∀ {ls : List (List Int)} {xs : List V}, RowsV K H xs ls → RowsV K (upd H q o) xs ls
  | [], _, h => by
    cases h
    exact .nil
  | l :: r, _, h => by
    have h : DpAll K H _ (rowD l :: r.map rowD) := h
    cases h with
    | cons a b => exact .cons (optD_upd (r := some l) hq a) (RowsV.upd hq b)
theorem RowsV.snoc {K : PySem.W.Frag} {H : Hp} {xs : List V} {ls : List (List Int)} {x : V} {l : List Int} (h : RowsV K H xs ls) (t : TupI K H x l) : RowsV K H (xs ++ [x]) (ls ++ [l]) := by
  unfold RowsV
  rw [List.map_append]
  exact dpAll_snoc h t.dp
/-- one row at most another, place by place -/
def leM (f g : List Int) : Bool := (List.range f.length).all fun i => decide (f.getD i 0 ≤ g.getD i 0)
def rowLe : List Int → List Int → Bool := PySem.W.dataLe false rowD
def thinS (k : List (List Int)) (r : List Int) : List (List Int) := if (k.any fun o => leM o r) = true then k else k ++ [r]
def thinM (ls : List (List Int)) : List (List Int) := (ls.mergeSort rowLe).foldl thinS []
theorem thinS_t {k : List (List Int)} {r : List Int} (h : (k.any fun o => leM o r) = true) : thinS k r = k := if_pos h
theorem thinS_f {k : List (List Int)} {r : List Int} (h : (k.any fun o => leM o r) = false) : thinS k r = k ++ [r] := if_neg (by rw [h]; exact Bool.false_ne_true)
theorem sortD_snd {zs : List (V × PyData)} {ls : List (List Int)} (h : zs.map Prod.snd = ls.map rowD) : (sortD zs).map Prod.snd = (ls.mergeSort rowLe).map rowD := by
  have h1 : (sortD zs).map Prod.snd = (zs.map Prod.snd).mergeSort (PySem.W.dataLe false id) := List.map_mergeSort fun a _ b _ => rfl
  have h2 : (ls.mergeSort rowLe).map rowD = (ls.map rowD).mergeSort (PySem.W.dataLe false id) := List.map_mergeSort fun a _ b _ => rfl
  rw [h1, h2, h]
theorem rows_sorted {K : PySem.W.Frag} {H : Hp} {zs : List (V × PyData)} {ls : List (List Int)} (hd : ∀ z ∈ zs, Dp K H z.1 z.2) (h : zs.map Prod.snd = ls.map rowD) : RowsV K H ((sortD zs).map Prod.fst) (ls.mergeSort rowLe) := by
  unfold RowsV
  rw [← sortD_snd h]
  exact dpAll_map fun z hz => hd z (List.mem_mergeSort.mp hz)
theorem zip_rows {K : PySem.W.Frag} {H : Hp} {xs : List V} {ls : List (List Int)} (h : RowsV K H xs ls) (hw : ∀ l ∈ ls, l ≠ []) :
    ∃ zs : List (V × PyData), zs.map Prod.fst = xs ∧ zs.map Prod.snd = ls.map rowD ∧ (∀ z ∈ zs, Dp K H z.1 z.2 ∧ z.2.depth ≤ 60) ∧ PySem.W.AllAlike (zs.map Prod.snd) ∧ PySem.W.Sortable (zs.map Prod.snd) := by
  have len : xs.length = (ls.map rowD).length := by rw [h.len, List.length_map]
  have e1 : (xs.zip (ls.map rowD)).map Prod.fst = xs := List.map_fst_zip (by omega)
  have e2 : (xs.zip (ls.map rowD)).map Prod.snd = ls.map rowD := List.map_snd_zip (by omega)
  refine ⟨xs.zip (ls.map rowD), e1, e2, fun z hz => ?_, ?_, ?_⟩
  · obtain ⟨i, hi⟩ := List.getElem?_of_mem hz
    obtain ⟨g1, g2⟩ := List.getElem?_zip_eq_some.mp hi
    obtain ⟨d, k1, k2⟩ := dpAll_get h g1
    rw [g2] at k1
    cases k1
    refine ⟨k2, ?_⟩
    rw [List.getElem?_map] at g2
    cases hl : ls[i]? with
    | none =>
      rw [hl] at g2
      cases g2
    | some l =>
      rw [hl] at g2
      rw [← Option.some.inj g2]
      show PyData.depth (.tuple (l.map .int)) ≤ 60
      simp only [PyData.depth, PySem.W.depth_ints]
      omega
  · rw [e2]
    exact PySem.W.AllAlike.of fun a b => PySem.W.alike_ints a b
  · rw [e2]
    refine .inl fun d hd => ?_
    obtain ⟨l, hl, rfl⟩ := List.mem_map.mp hd
    cases l with
    | nil => exact absurd rfl (hw _ hl)
    | cons a r => exact ⟨.int a, r.map .int, rfl⟩
theorem take_fold {α β : Type} (f : β → α → β) (b : β) (l : List α) (i : Nat) (x : α) (h : l[i]? = some x) : (l.take (i + 1)).foldl f b = f ((l.take i).foldl f b) x := by
  rw [List.take_add_one, h, List.foldl_append]
  rfl
theorem thin_sub : ∀ (ls k : List (List Int)), ∀ r ∈ ls.foldl thinS k, r ∈ k ∨ r ∈ ls
  | [], k, r, h => .inl h
  | l :: ls, k, r, h => by
    rcases thin_sub ls (thinS k l) r h with h | h
    · unfold thinS at h
      split at h
      · exact .inl h
      · rcases List.mem_append.mp h with h | h
        · exact .inl h
        · exact .inr (List.mem_cons.mpr (.inl (List.mem_singleton.mp h)))
    · exact .inr (List.mem_cons_of_mem _ h)
section
variable {P : Program} {w : World} {K : PySem.W.Frag} {mg : Str → Option Value} {base : Heap} {m qual : Str} {st : Stmt} {f : Addr} {fd : FuncData} {N : List Str} {k : Nat} {p1 p2 p3 p4 : Str}
end
/-! ### lines as pairs -/
def tol (p : Ln) : List Int := [p.1, p.2]
def pairLe (p q : Ln) : Bool := decide (p.1 < q.1 ∨ (p.1 = q.1 ∧ p.2 ≤ q.2))
def leP (o r : Ln) : Bool := decide (o.1 ≤ r.1) && decide (o.2 ≤ r.2)
def thinPS (k : List Ln) (r : Ln) : List Ln := if (k.any fun o => leP o r) = true then k else k ++ [r]
def thinP (rays : List Ln) : List Ln := (rays.mergeSort pairLe).foldl thinPS []
theorem leM_tol (o r : Ln) : leM (tol o) (tol r) = leP o r := by
  show ([0, 1] : List Nat).all _ = _
  simp only [List.all_cons, List.all_nil, Bool.and_true]
  rfl
theorem fold_tol : ∀ (l k : List Ln), (l.map tol).foldl thinS (k.map tol) = (l.foldl thinPS k).map tol
  | [], k => rfl
  | r :: l, k => by
    show (l.map tol).foldl thinS (thinS (k.map tol) (tol r)) = (l.foldl thinPS (thinPS k r)).map tol
    rw [← fold_tol l (thinPS k r)]
    congr 1
    unfold thinS thinPS
    rw [List.any_map]
    have e : ((fun o => leM o (tol r)) ∘ tol) = fun o => leP o r := by
      funext o
      exact leM_tol o r
    rw [e]
    split
    · rfl
    · rw [List.map_append]
      rfl
theorem thin_tol (rays : List Ln) : thinM (rays.map tol) = (thinP rays).map tol := by
  unfold thinM thinP
  have e : (rays.mergeSort pairLe).map tol = (rays.map tol).mergeSort rowLe := by
    refine List.map_mergeSort fun a _ b _ => ?_
    exact (congrFun (congrFun (PySem.W.dataLe_ii (β := Ln) Prod.fst Prod.snd) a) b).symm
  rw [← e]
  exact fold_tol _ []
theorem thinP_sub : ∀ (l k : List Ln), ∀ r ∈ l.foldl thinPS k, r ∈ k ∨ r ∈ l
  | [], k, r, h => .inl h
  | a :: l, k, r, h => by
    rcases thinP_sub l (thinPS k a) r h with h | h
    · unfold thinPS at h
      split at h
      · exact .inl h
      · rcases List.mem_append.mp h with h | h
        · exact .inl h
        · exact .inr (List.mem_cons.mpr (.inl (List.mem_singleton.mp h)))
    · exact .inr (List.mem_cons_of_mem _ h)
theorem thinP_cover : ∀ (l k : List Ln), (∀ o ∈ k, o ∈ l.foldl thinPS k) ∧ ∀ q ∈ l, ∃ r ∈ l.foldl thinPS k, leP r q = true
  | [], k => ⟨fun o h => h, fun q h => by cases h⟩
  | a :: l, k => by
    obtain ⟨i1, i2⟩ := thinP_cover l (thinPS k a)
    have kk : ∀ o ∈ k, o ∈ thinPS k a := fun o h => by
      unfold thinPS
      split
      · exact h
      · exact List.mem_append_left _ h
    refine ⟨fun o h => i1 o (kk o h), fun q h => ?_⟩
    rcases List.mem_cons.mp h with rfl | h
    · by_cases c : (k.any fun o => leP o q) = true
      · obtain ⟨o, ho, le⟩ := List.any_eq_true.mp c
        exact ⟨o, i1 o (kk o ho), le⟩
      · refine ⟨q, i1 q ?_, by unfold leP; simp⟩
        unfold thinPS
        rw [if_neg c]
        exact List.mem_append_right _ (List.mem_singleton.mpr rfl)
    · exact i2 q h
theorem pair_rows {p q : Ln} (h : pairLe p q = true) (n : leP p q = false) : Bf p q := by
  have h := of_decide_eq_true h
  unfold leP at n
  rw [← Bool.decide_and] at n
  have n := of_decide_eq_false n
  constructor <;> omega
theorem thinP_rows : ∀ (l k : List Ln), Rows k → (∀ o ∈ k, ∀ q ∈ l, pairLe o q = true) → l.Pairwise (fun a b => pairLe a b = true) → Rows (l.foldl thinPS k)
  | [], k, h, _, _ => h
  | a :: l, k, h, h2, h3 => by
    have h3 := List.pairwise_cons.mp h3
    refine thinP_rows l (thinPS k a) ?_ ?_ h3.2
    · unfold thinPS
      split
      · exact h
      · rename_i c
        refine List.pairwise_append.mpr ⟨h, List.pairwise_singleton _ _, fun o ho b hb => ?_⟩
        cases List.mem_singleton.mp hb
        refine pair_rows (h2 o ho a (List.mem_cons_self ..)) ?_
        cases e : leP o a with
        | false => rfl
        | true => exact absurd (List.any_eq_true.mpr ⟨o, ho, e⟩) c
    · intro o ho q hq
      unfold thinPS at ho
      split at ho
      · exact h2 o ho q (List.mem_cons_of_mem _ hq)
      · rcases List.mem_append.mp ho with ho | ho
        · exact h2 o ho q (List.mem_cons_of_mem _ hq)
        · cases List.mem_singleton.mp ho
          exact h3.1 q hq
theorem thinP_ok (rays : List Ln) : (∀ r ∈ thinP rays, r ∈ rays) ∧ Rows (thinP rays) ∧ ∀ q ∈ rays, ∃ r ∈ thinP rays, r.1 ≤ q.1 ∧ r.2 ≤ q.2 := by
  have tr : ∀ a b c : Ln, pairLe a b = true → pairLe b c = true → pairLe a c = true := fun a b c h k => by
    have h := of_decide_eq_true h
    have k := of_decide_eq_true k
    exact decide_eq_true (by omega)
  have to : ∀ a b : Ln, (pairLe a b || pairLe b a) = true := fun a b => by
    unfold pairLe
    rw [← Bool.decide_or]
    exact decide_eq_true (by omega)
  refine ⟨fun r h => ?_, ?_, fun q hq => ?_⟩
  · rcases thinP_sub _ _ r h with h | h
    · cases h
    · exact List.mem_mergeSort.mp h
  · exact thinP_rows _ [] List.Pairwise.nil (fun o h => by cases h) (List.pairwise_mergeSort tr to rays)
  · obtain ⟨r, h1, h2⟩ := (thinP_cover (rays.mergeSort pairLe) []).2 q (List.mem_mergeSort.mpr hq)
    unfold leP at h2
    rw [Bool.and_eq_true] at h2
    exact ⟨r, h1, of_decide_eq_true h2.1, of_decide_eq_true h2.2⟩
/-- the value of a dial that is left of lines -/
def lowestM (top : Int) (rays : List Ln) : Option (List Ln) := if rays = [] then none else some (lowM top (thinP rays))
def lnD : Option (List Ln) → PyData
  | none => .none
  | some T => .tuple (T.map fun t => rowD (tol t))
theorem lowest_ok {top : Int} {rays T : List Ln} (h : lowestM top rays = some T) : T ≠ [] ∧ (∀ y ∈ T, y ∈ rays) ∧ Good top T.reverse ∧ ∀ n d, 0 ≤ n → 0 < d → n ≤ top * d → ∀ q ∈ rays, ∃ t ∈ T, vA t n d ≤ vA q n d := by
  unfold lowestM at h
  split at h
  · cases h
  · rename_i ne
    cases h
    obtain ⟨s, rw1, c⟩ := thinP_ok rays
    obtain ⟨l1, l2, l3⟩ := low_ok (top := top) rw1
    refine ⟨?_, fun y hy => s y (l1 y hy), l2, fun n d n0 hd h2 q hq => ?_⟩
    · cases rays with
      | nil => exact absurd rfl ne
      | cons q r =>
        obtain ⟨y, hy, _⟩ := c q (List.mem_cons_self ..)
        cases e : thinP (q :: r) with
        | nil =>
          rw [e] at hy
          cases hy
        | cons a b =>
          rw [e] at rw1
          exact low_ne rw1
    · obtain ⟨y, hy, a1, a2⟩ := c q hq
      obtain ⟨t, ht, le⟩ := l3 n d hd h2 y hy
      refine ⟨t, ht, Int.le_trans le ?_⟩
      unfold vA
      have m1 := Int.mul_le_mul_of_nonneg_right a1 (Int.le_of_lt hd)
      have m2 := Int.mul_le_mul_of_nonneg_right a2 n0
      omega
def BdL (l : Ln) : Prop := -10000000000000 ≤ l.1 ∧ l.1 ≤ 10000000000000 ∧ -10000000000000 ≤ l.2 ∧ l.2 ≤ 10000000000000
theorem dpAll_last {K : PySem.W.Frag} {H : Hp} {d : PyData} : ∀ {ds : List PyData} {xs : List V}, DpAll K H xs (ds ++ [d]) → ∃ ys y, xs = ys ++ [y] ∧ DpAll K H ys ds ∧ Dp K H y d
  | [], _, h => by
    cases h with
    | cons a b =>
      cases b
      exact ⟨[], _, rfl, .nil, a⟩
  | e :: ds, _, h => by
    have h : DpAll K H _ (e :: (ds ++ [d])) := h
    cases h with
    | cons a b =>
      obtain ⟨ys, y, rfl, h1, h2⟩ := dpAll_last b
      exact ⟨_ :: ys, y, rfl, .cons a h1, h2⟩
theorem rows_last {K : PySem.W.Frag} {H : Hp} {y : Ln} {R : List Ln} {us : List V} (h : RowsV K H us ((y :: R).reverse.map tol)) : ∃ vs u, us = vs ++ [u] ∧ RowsV K H vs (R.reverse.map tol) ∧ TupI K H u (tol y) := by
  unfold RowsV at h
  rw [List.reverse_cons, List.map_append, List.map_append] at h
  obtain ⟨vs, u, e, h1, h2⟩ := dpAll_last h
  exact ⟨vs, u, e, h1, optD_tup (f := tol y) h2⟩
theorem ix_end {n k : Nat} (h : k ≤ n) (h0 : 0 < k) : ixN n (-(k : Int)) = some (n - k) := by
  unfold ixN
  rw [if_neg (by omega), if_pos (by omega)]
  exact congrArg some (by omega)
theorem atI_last (us : List V) (u : V) : atI (us ++ [u]) (-1) = some u := by
  have e : ixN (us ++ [u]).length (-((1 : Nat) : Int)) = some us.length := by
    rw [ix_end (by rw [List.length_append]; exact Nat.le_add_left _ _) (by decide), List.length_append]
    rfl
  show (ixN (us ++ [u]).length (-((1 : Nat) : Int))).bind _ = _
  rw [e]
  show (us ++ [u])[us.length]? = some u
  rw [List.getElem?_append_right (Nat.le_refl _), Nat.sub_self]
  rfl
theorem atI_last2 (us : List V) (a u : V) : atI (us ++ [a] ++ [u]) (-2) = some a := by
  have e : ixN (us ++ [a] ++ [u]).length (-((2 : Nat) : Int)) = some us.length := by
    rw [ix_end (by rw [List.length_append, List.length_append]; exact Nat.le_add_left _ _) (by decide), List.length_append, List.length_append]
    rfl
  show (ixN (us ++ [a] ++ [u]).length (-((2 : Nat) : Int))).bind _ = _
  rw [e, List.append_assoc]
  show (us ++ ([a] ++ [u]))[us.length]? = some a
  rw [List.getElem?_append_right (Nat.le_refl _), Nat.sub_self]
  rfl
theorem pop_step {l y x : Ln} {r : List Ln} (h : nevM x y l = true) : popM l (y :: x :: r) = popM l (x :: r) := if_pos h
theorem pop_stop {l y x : Ln} {r : List Ln} (h : nevM x y l = false) : popM l (y :: x :: r) = y :: x :: r := if_neg (by rw [h]; exact Bool.false_ne_true)
theorem thinP_len0 : ∀ (l k : List Ln), (l.foldl thinPS k).length ≤ k.length + l.length
  | [], k => Nat.le_refl _
  | a :: l, k => by
    have h := thinP_len0 l (thinPS k a)
    have h2 : (thinPS k a).length ≤ k.length + 1 := by
      unfold thinPS
      split
      · exact Nat.le_succ _
      · rw [List.length_append]
        exact Nat.le_refl _
    show (l.foldl thinPS (thinPS k a)).length ≤ k.length + (l.length + 1)
    omega
theorem thinP_len (rays : List Ln) : (thinP rays).length ≤ rays.length := by
  have h := thinP_len0 (rays.mergeSort pairLe) []
  rw [List.length_mergeSort] at h
  exact Nat.le_trans h (by rw [List.length_nil, Nat.zero_add]; exact Nat.le_refl _)
def dfl (top : Int) (t : Addr) : List (Str × V) := putF "stay" (.ref t) (putF "top" (.int top) (putF "slope" (.str "b") (putF "wish" (.str "a") [])))
def DialAt (CH : Addr) (H : Hp) (p : Addr) (top : Int) : Prop := ∃ dx t, H p = some (.ins CH dx (dfl top t))
theorem DialAt.mono {CH : Addr} {H H' : Hp} {p : Addr} {top : Int} (h : DialAt CH H p top) (e : Same H H') : DialAt CH H' p top := by
  obtain ⟨dx, t, a⟩ := h
  exact ⟨dx, t, e _ _ a⟩
theorem dfl_top (top : Int) (t : Addr) : (dfl top t).lookup ("top" : Str) = some (.int top) := by
  unfold dfl
  rw [lookup_putF, if_neg (by decide +kernel), lookup_putF, if_pos rfl]
theorem dfl_no (top : Int) (t : Addr) {m : Str} (h1 : ¬ m = "stay") (h2 : ¬ m = "top") (h3 : ¬ m = "slope") (h4 : ¬ m = "wish") : (dfl top t).lookup m = none := by
  unfold dfl
  rw [lookup_putF, if_neg h1, lookup_putF, if_neg h2, lookup_putF, if_neg h3, lookup_putF, if_neg h4]
  rfl
theorem ln_tup {K : PySem.W.Frag} {H : Hp} {v : V} {T : List Ln} (h : Dp K H v (lnD (some T))) : ∃ A xs, v = .ref A ∧ SqT K H A xs ∧ RowsV K H xs (T.map tol) := by
  cases h with
  | tup s x =>
    refine ⟨_, _, rfl, s, ?_⟩
    unfold RowsV
    rw [List.map_map]
    exact x
theorem op_catT_K {X : Cx} {K : PySem.W.Frag} (e : X.K = K) : OpR X (binaryOp .Add) (rCatT K) := e ▸ op_catT
theorem dpAll_app {K : PySem.W.Frag} {H : Hp} : ∀ {xs ys : List V} {ds es : List PyData}, DpAll K H xs ds → DpAll K H ys es → DpAll K H (xs ++ ys) (ds ++ es)
  | _, _, _, _, .nil, h => h
  | _, _, _, _, .cons a b, h => .cons a (dpAll_app b h)
theorem RowsV.app {K : PySem.W.Frag} {H : Hp} {xs ys : List V} {ls ms : List (List Int)} (h : RowsV K H xs ls) (k : RowsV K H ys ms) : RowsV K H (xs ++ ys) (ls ++ ms) := by
  unfold RowsV
  rw [List.map_append]
  exact dpAll_app h k
/-! ### rays as values -/
def BdR (r : Ln) : Prop := 0 ≤ r.1 ∧ r.1 ≤ 100000000 ∧ 0 ≤ r.2 ∧ r.2 ≤ 1000
def RayV (K : PySem.W.Frag) (B : Ln → Prop) (H : Hp) (v : V) : Prop := ∃ r, TupI K H v (tol r) ∧ B r
theorem RayV.mono {K : PySem.W.Frag} {B : Ln → Prop} {H H' : Hp} {v : V} (h : RayV K B H v) (e : Same H H') : RayV K B H' v := by
  obtain ⟨r, a, b⟩ := h
  exact ⟨r, a.mono e, b⟩
theorem RayV.upd {K : PySem.W.Frag} {B : Ln → Prop} {H : Hp} {v : V} {q : Addr} {ys : List V} {o : HO} (hq : H q = some (.lst ys)) (h : RayV K B H v) : RayV K B (upd H q o) v := by
  obtain ⟨r, a, b⟩ := h
  exact ⟨r, tupI_upd hq a, b⟩
theorem RayV.imp {K : PySem.W.Frag} {B B' : Ln → Prop} {H : Hp} {v : V} (h : RayV K B H v) (k : ∀ r, B r → B' r) : RayV K B' H v := by
  obtain ⟨r, a, b⟩ := h
  exact ⟨r, a, k r b⟩
theorem rays_of {K : PySem.W.Frag} {B : Ln → Prop} {H : Hp} : ∀ {us : List V}, (∀ v ∈ us, RayV K B H v) → ∃ rays : List Ln, RowsV K H us (rays.map tol) ∧ ∀ r ∈ rays, B r
  | [], _ => ⟨[], .nil, fun r h => by cases h⟩
  | u :: us, h => by
    obtain ⟨r, a, b⟩ := h u (List.mem_cons_self ..)
    obtain ⟨rs, c, d⟩ := rays_of fun v hv => h v (List.mem_cons_of_mem _ hv)
    refine ⟨r :: rs, .cons a.dp c, fun x hx => ?_⟩
    rcases List.mem_cons.mp hx with rfl | hx
    · exact b
    · exact d x hx
theorem cut_memV (xs : List V) (lo hi : Option Int) : (∀ v ∈ cutV xs lo hi, v ∈ xs) ∧ (cutV xs lo hi).length ≤ xs.length := by
  unfold cutV
  refine ⟨fun v hv => List.mem_of_mem_drop (List.mem_of_mem_take hv), ?_⟩
  rw [List.length_take, List.length_drop]
  omega
theorem cut_len {xs : List V} {h : Int} (h0 : 0 ≤ h) (h1 : h ≤ xs.length) : ((cutV xs none (some h)).length : Int) = h := by
  obtain ⟨n, rfl⟩ := Int.eq_ofNat_of_zero_le h0
  unfold cutV
  rw [HT.sIx_none, HT.sIx_nat, List.length_take, List.length_drop]
  omega
theorem rays_mono {K : PySem.W.Frag} {B : Ln → Prop} {H H' : Hp} {us : List V} (h : ∀ v ∈ us, RayV K B H v) (e : Same H H') : ∀ v ∈ us, RayV K B H' v := fun v hv => (h v hv).mono e
/-- one more ray at the end of a list -/
theorem rays_snoc {K : PySem.W.Frag} {B B' : Ln → Prop} {H : Hp} {us : List V} {v : V} {q : Addr} {o : HO} (hq : H q = some (.lst us)) (h : ∀ v ∈ us, RayV K B H v) (i : ∀ r, B r → B' r) (hv : RayV K B' H v) : ∀ u ∈ us ++ [v], RayV K B' (upd H q o) u := by
  intro u hu
  rcases List.mem_append.mp hu with hu | hu
  · exact ((h u hu).imp i).upd hq
  · cases List.mem_singleton.mp hu
    exact hv.upd hq
/-! ### a list of new pairs -/
def PairsV (H : Hp) (us : List V) (zs : List (V × V)) : Prop := us.length = zs.length ∧ ∀ (i : Nat) u, us[i]? = some u → ∃ z U, zs[i]? = some z ∧ u = .ref U ∧ H U = some (.tup [z.1, z.2])
theorem PairsV.mono {H H' : Hp} {us : List V} {zs : List (V × V)} (h : PairsV H us zs) (e : Same H H') : PairsV H' us zs := by
  refine ⟨h.1, fun i u hu => ?_⟩
  obtain ⟨z, U, a, b, c⟩ := h.2 i u hu
  exact ⟨z, U, a, b, e _ _ c⟩
theorem PairsV.upd {H : Hp} {us ys : List V} {zs : List (V × V)} {q : Addr} {o : HO} (hq : H q = some (.lst ys)) (h : PairsV H us zs) : PairsV (upd H q o) us zs := by
  refine ⟨h.1, fun i u hu => ?_⟩
  obtain ⟨z, U, a, b, c⟩ := h.2 i u hu
  refine ⟨z, U, a, b, ?_⟩
  rw [upd_ne fun e => by rw [e, hq] at c; cases c]
  exact c
theorem PairsV.snoc {H : Hp} {us : List V} {zs : List (V × V)} {z : V × V} {U : Addr} (h : PairsV H us zs) (k : H U = some (.tup [z.1, z.2])) : PairsV H (us ++ [.ref U]) (zs ++ [z]) := by
  refine ⟨by rw [List.length_append, List.length_append, h.1]; rfl, fun i u hu => ?_⟩
  by_cases q : i < us.length
  · rw [List.getElem?_append_left q] at hu
    obtain ⟨z', U', a, b, c⟩ := h.2 i u hu
    exact ⟨z', U', by rw [List.getElem?_append_left (by rw [← h.1]; exact q)]; exact a, b, c⟩
  · have hi : i = us.length := by
      have := (List.getElem?_eq_some_iff.mp hu).1
      rw [List.length_append] at this
      have this : i < us.length + 1 := this
      omega
    subst hi
    rw [List.getElem?_append_right (Nat.le_refl _), Nat.sub_self] at hu
    cases hu
    exact ⟨z, U, by rw [h.1, List.getElem?_append_right (Nat.le_refl _), Nat.sub_self]; rfl, rfl, k⟩
def prodV (xs ys : List V) : List (V × V) := xs.flatMap fun x => ys.map fun y => (x, y)
theorem prod_take {xs ys : List V} {i : Nat} {x : V} (h : xs[i]? = some x) : prodV (xs.take (i + 1)) ys = prodV (xs.take i) ys ++ ys.map fun y => (x, y) := by
  unfold prodV
  rw [List.take_add_one, h, List.flatMap_append]
  show _ ++ ([x].flatMap fun x => ys.map fun y => (x, y)) = _
  rw [List.flatMap_singleton]
theorem map_take {xs : List V} {i : Nat} {y x : V} (h : xs[i]? = some y) : ((xs.take (i + 1)).map fun y => (x, y)) = ((xs.take i).map fun y => (x, y)) ++ [(x, y)] := by
  rw [List.take_add_one, h, List.map_append]
  rfl
/-! ### a comprehension within a comprehension -/
theorem lc_in {J : It} {n : Nat} {G : Hp → Prop} {Y : Nat → Hp → V → Hp → Prop} (w : Walk J n G Y) {H4 : Hp} {Nx : Hp → Prop} {R : V → Hp → (Hp → Prop) → Prop} (Pv : Nat → Hp → Prop) (h0 : Pv 0 H4) (hG : ∀ i H, i ≤ n → Pv i H → G H)
    (hs : ∀ i x H H', i < n → Pv i H → Y i H x H' → R x H' (Pv (i + 1))) (hd : ∀ H, Pv n H → Nx H) :
    ∃ W1 : Nat → Nat → Hp → Prop, (∃ m, W1 0 m H4) ∧ ∀ j k H, W1 j k H →
      (J.stop j H ∧ Nx H) ∨ (J.go j H ∧ ∃ Nx1 : Hp → Prop, (∀ H', Nx1 H' → ∃ k', k' < k ∧ W1 (j + 1) k' H') ∧ ∀ x H', J.yld j H x H' → R x H' Nx1) := by
  refine ⟨fun i m H => m = n - i ∧ i ≤ n ∧ Pv i H, ⟨n, rfl, Nat.zero_le _, h0⟩, ?_⟩
  rintro i m H ⟨rfl, hi, pv⟩
  have g := hG i H hi pv
  rcases Nat.lt_or_ge i n with lt | ge
  · refine .inr ⟨w.goes i H lt g, Pv (i + 1), fun H' p' => ⟨n - (i + 1), by omega, rfl, lt, p'⟩, ?_⟩
    exact fun x H' y => hs i x H H' lt pv (w.yields i H x H' lt g y)
  · have e : i = n := Nat.le_antisymm hi ge
    subst e
    exact .inl ⟨w.stops H g, hd H pv⟩
def sumsM (one two : List Ln) : List Ln := one.flatMap fun p => two.map fun q => (p.1 + q.1, p.2 + q.2)
theorem sums_take {one two : List Ln} {i : Nat} {p : Ln} (h : one[i]? = some p) : sumsM (one.take (i + 1)) two = sumsM (one.take i) two ++ two.map fun q => (p.1 + q.1, p.2 + q.2) := by
  unfold sumsM
  rw [List.take_add_one, h, List.flatMap_append]
  show _ ++ ([p].flatMap fun p => two.map fun q => (p.1 + q.1, p.2 + q.2)) = _
  rw [List.flatMap_singleton]
theorem sums_len (one two : List Ln) : (sumsM one two).length = one.length * two.length := by
  unfold sumsM
  rw [List.length_flatMap]
  simp [List.map_const', List.sum_replicate_nat]
theorem line_get {K : PySem.W.Frag} {H : Hp} {xs : List V} {one : List Ln} {i : Nat} {x : V} (h : RowsV K H xs (one.map tol)) (g : xs[i]? = some x) : ∃ p, one[i]? = some p ∧ TupI K H x (tol p) := by
  obtain ⟨l, gl, tl⟩ := h.get g
  rw [List.getElem?_map] at gl
  cases e : one[i]? with
  | none =>
    rw [e] at gl
    cases gl
  | some p =>
    rw [e] at gl
    cases gl
    exact ⟨p, rfl, tl⟩
theorem take_map_add {α β : Type} (f : α → β) {l : List α} {i : Nat} {x : α} (h : l[i]? = some x) : (l.take (i + 1)).map f = (l.take i).map f ++ [f x] := by
  rw [List.take_add_one, h, List.map_append]
  rfl
theorem rows_from {K : PySem.W.Frag} {H : Hp} (g : Nat → List Int) {xs : List V} (h : ∀ i v, xs[i]? = some v → TupI K H v (g i)) : RowsV K H xs ((List.range xs.length).map g) := by
  induction xs generalizing g with
  | nil => exact .nil
  | cons x r ih =>
    have e : ((List.range (x :: r).length).map g).map rowD = rowD (g 0) :: ((List.range r.length).map (g ∘ Nat.succ)).map rowD := by
      rw [List.length_cons, List.range_succ_eq_map, List.map_cons, List.map_cons]
      congr 1
      rw [List.map_map, List.map_map, List.map_map]
      rfl
    unfold RowsV
    rw [e]
    exact .cons (h 0 x rfl).dp (ih (g ∘ Nat.succ) fun i v e => h (i + 1) v e)
theorem dec_int2 (i j : Int) : decide (V.int i = V.int j) = decide (i = j) := decide_eq_decide.mpr ⟨fun e => V.int.inj e, fun e => congrArg V.int e⟩
def BdH (r : Ln) : Prop := 0 ≤ r.1 ∧ r.1 ≤ 50000000 ∧ 0 ≤ r.2 ∧ r.2 ≤ 500
theorem BdH.r {r : Ln} (h : BdH r) : BdR r := by
  obtain ⟨a, b, c, d⟩ := h
  exact ⟨a, by omega, c, by omega⟩
theorem BdR.l {r : Ln} (h : BdR r) : BdL r := by
  obtain ⟨a, b, c, d⟩ := h
  exact ⟨by omega, by omega, by omega, by omega⟩
theorem bd_sums {one two : List Ln} (h1 : ∀ r ∈ one, BdH r) (h2 : ∀ r ∈ two, BdH r) : ∀ r ∈ sumsM one two, BdR r := by
  intro r hr
  unfold sumsM at hr
  obtain ⟨p, hp, hr⟩ := List.mem_flatMap.mp hr
  obtain ⟨q, hq, rfl⟩ := List.mem_map.mp hr
  obtain ⟨a1, a2, a3, a4⟩ := h1 p hp
  obtain ⟨b1, b2, b3, b4⟩ := h2 q hq
  exact ⟨by show 0 ≤ p.1 + q.1; omega, by show p.1 + q.1 ≤ _; omega, by show 0 ≤ p.2 + q.2; omega, by show p.2 + q.2 ≤ _; omega⟩
end Fb

set_option Elab.async false
set_option linter.all false
set_option maxRecDepth 100000
set_option maxHeartbeats 4000000
/-! the law's own look at each line: the stretch on which it is least -/
namespace Fb
def spanS (t : Ln) (s : Ln × Ln) (u : Ln) : Ln × Ln :=
  if t.2 < u.2 then (if s.1.1 * (u.2 - t.2) < (t.1 - u.1) * s.1.2 then ((t.1 - u.1, u.2 - t.2), s.2) else s)
  else if u.2 < t.2 then (if (u.1 - t.1) * s.2.2 < s.2.1 * (t.2 - u.2) then (s.1, (u.1 - t.1, t.2 - u.2)) else s)
  else if u.1 < t.1 then (s.1, (-1, 1)) else s
def spanM (t : Ln) (rays : List Ln) (roof : Int) : Ln × Ln := rays.foldl (spanS t) ((0, 1), (roof, 1))
/-- it is least on a stretch of some length -/
def longM (t : Ln) (rays : List Ln) (roof : Int) : Bool := decide ((spanM t rays roof).1.1 * (spanM t rays roof).2.2 < (spanM t rays roof).2.1 * (spanM t rays roof).1.2)
theorem span_fold {t : Ln} {A B : Ln → Prop} : ∀ (rays : List Ln) (s : Ln × Ln), A s.1 → B s.2 → (∀ u ∈ rays, (t.2 < u.2 → A (t.1 - u.1, u.2 - t.2)) ∧ (u.2 < t.2 → B (u.1 - t.1, t.2 - u.2)) ∧ (u.2 = t.2 → t.1 ≤ u.1)) →
    A (rays.foldl (spanS t) s).1 ∧ B (rays.foldl (spanS t) s).2
  | [], s, a, b, _ => ⟨a, b⟩
  | u :: rays, s, a, b, h => by
    obtain ⟨h1, h2, h3⟩ := h u (List.mem_cons_self ..)
    have st : A (spanS t s u).1 ∧ B (spanS t s u).2 := by
      unfold spanS
      by_cases c1 : t.2 < u.2
      · rw [if_pos c1]
        split
        · exact ⟨h1 c1, b⟩
        · exact ⟨a, b⟩
      · rw [if_neg c1]
        by_cases c2 : u.2 < t.2
        · rw [if_pos c2]
          split
          · exact ⟨a, h2 c2⟩
          · exact ⟨a, b⟩
        · rw [if_neg c2, if_neg (by have := h3 (by omega); omega)]
          exact ⟨a, b⟩
    exact span_fold rays _ st.1 st.2 fun v hv => h v (List.mem_cons_of_mem _ hv)
theorem least_of (f g : Ln → Int) : ∀ rays : List Ln, rays ≠ [] → ∃ t ∈ rays, ∀ u ∈ rays, f t < f u ∨ (f t = f u ∧ g t ≤ g u)
  | [], h => absurd rfl h
  | [t], _ => ⟨t, List.mem_cons_self .., fun u hu => by
      cases List.mem_singleton.mp hu
      exact .inr ⟨rfl, Int.le_refl _⟩⟩
  | a :: b :: r, _ => by
    obtain ⟨t, ht, h⟩ := least_of f g (b :: r) (List.cons_ne_nil _ _)
    by_cases c : f t < f a ∨ (f t = f a ∧ g t ≤ g a)
    · refine ⟨t, List.mem_cons_of_mem _ ht, fun u hu => ?_⟩
      rcases List.mem_cons.mp hu with rfl | hu
      · exact c
      · exact h u hu
    · refine ⟨a, List.mem_cons_self .., fun u hu => ?_⟩
      rcases List.mem_cons.mp hu with rfl | hu
      · exact .inr ⟨rfl, Int.le_refl _⟩
      · have := h u hu
        omega
/-- the lines that are least on some stretch are, together, nowhere above a line -/
theorem long_cover {rays : List Ln} {roof n d : Int} (hr : 0 < roof) (n0 : 0 ≤ n) (hd : 0 < d) (h2 : n ≤ roof * d) {q : Ln} (hq : q ∈ rays) : ∃ t ∈ rays, longM t rays roof = true ∧ vA t n d ≤ vA q n d := by
  have ne : rays ≠ [] := fun e => by
    rw [e] at hq
    cases hq
  have same : ∀ t u : Ln, vA t n d ≤ vA u n d → u.2 = t.2 → t.1 ≤ u.1 := fun t u h e => by
    unfold vA at h
    rw [e] at h
    have : t.1 * d ≤ u.1 * d := by omega
    exact Int.le_of_mul_le_mul_right this hd
  by_cases c : n < roof * d
  · obtain ⟨t, ht, h⟩ := least_of (fun l => vA l n d) (fun l => l.2) rays ne
    have le : ∀ u ∈ rays, vA t n d ≤ vA u n d := fun u hu => by
      have := h u hu
      omega
    refine ⟨t, ht, ?_, le q hq⟩
    obtain ⟨⟨a1, a2⟩, b1, b2⟩ := span_fold (t := t) (A := fun l => 0 < l.2 ∧ l.1 * d ≤ l.2 * n) (B := fun l => 0 < l.2 ∧ l.2 * n < l.1 * d) rays ((0, 1), (roof, 1)) ⟨by show (0 : Int) < 1; decide, by show 0 * d ≤ 1 * n; omega⟩ ⟨by show (0 : Int) < 1; decide, by show 1 * n < roof * d; omega⟩ (fun u hu => by
      refine ⟨fun e => ⟨by show 0 < u.2 - t.2; omega, ?_⟩, fun e => ⟨by show 0 < t.2 - u.2; omega, ?_⟩, same t u (le u hu)⟩
      · have := le u hu
        unfold vA at this
        show (t.1 - u.1) * d ≤ (u.2 - t.2) * n
        rw [Int.sub_mul, Int.sub_mul]
        omega
      · have : vA t n d < vA u n d := by
          rcases h u hu with h | ⟨_, h⟩
          · exact h
          · have h : t.2 ≤ u.2 := h
            omega
        unfold vA at this
        show (t.2 - u.2) * n < (u.1 - t.1) * d
        rw [Int.sub_mul, Int.sub_mul]
        omega)
    refine decide_eq_true ?_
    change 0 < (spanM t rays roof).1.2 at a1
    change (spanM t rays roof).1.1 * d ≤ (spanM t rays roof).1.2 * n at a2
    change 0 < (spanM t rays roof).2.2 at b1
    change (spanM t rays roof).2.2 * n < (spanM t rays roof).2.1 * d at b2
    generalize (spanM t rays roof).1 = lo at *
    generalize (spanM t rays roof).2 = hi at *
    have m1 := Int.mul_le_mul_of_nonneg_right a2 (Int.le_of_lt b1)
    have m2 := Int.mul_lt_mul_of_pos_right b2 a1
    have m3 : lo.1 * hi.2 * d < hi.1 * lo.2 * d := by grind
    exact Int.lt_of_mul_lt_mul_right m3 (Int.le_of_lt hd)
  · have eq : n = roof * d := by omega
    obtain ⟨t, ht, h⟩ := least_of (fun l => vA l n d) (fun l => -l.2) rays ne
    have le : ∀ u ∈ rays, vA t n d ≤ vA u n d := fun u hu => by
      have := h u hu
      omega
    refine ⟨t, ht, ?_, le q hq⟩
    have np : 0 < n := by
      rw [eq]
      exact Int.mul_pos hr hd
    obtain ⟨⟨a1, a2⟩, b1, b2⟩ := span_fold (t := t) (A := fun l => 0 < l.2 ∧ l.1 * d < l.2 * n) (B := fun l => 0 < l.2 ∧ l.2 * n ≤ l.1 * d) rays ((0, 1), (roof, 1)) ⟨by show (0 : Int) < 1; decide, by show 0 * d < 1 * n; omega⟩ ⟨by show (0 : Int) < 1; decide, by show 1 * n ≤ roof * d; omega⟩ (fun u hu => by
      refine ⟨fun e => ⟨by show 0 < u.2 - t.2; omega, ?_⟩, fun e => ⟨by show 0 < t.2 - u.2; omega, ?_⟩, same t u (le u hu)⟩
      · have : vA t n d < vA u n d := by
          rcases h u hu with h | ⟨_, h⟩
          · exact h
          · have h : -t.2 ≤ -u.2 := h
            omega
        unfold vA at this
        show (t.1 - u.1) * d < (u.2 - t.2) * n
        rw [Int.sub_mul, Int.sub_mul]
        omega
      · have := le u hu
        unfold vA at this
        show (t.2 - u.2) * n ≤ (u.1 - t.1) * d
        rw [Int.sub_mul, Int.sub_mul]
        omega)
    refine decide_eq_true ?_
    change 0 < (spanM t rays roof).1.2 at a1
    change (spanM t rays roof).1.1 * d < (spanM t rays roof).1.2 * n at a2
    change 0 < (spanM t rays roof).2.2 at b1
    change (spanM t rays roof).2.2 * n ≤ (spanM t rays roof).2.1 * d at b2
    generalize (spanM t rays roof).1 = lo at *
    generalize (spanM t rays roof).2 = hi at *
    have m1 := Int.mul_lt_mul_of_pos_right a2 b1
    have m2 := Int.mul_le_mul_of_nonneg_right b2 (Int.le_of_lt a1)
    have m3 : lo.1 * hi.2 * d < hi.1 * lo.2 * d := by grind
    exact Int.lt_of_mul_lt_mul_right m3 (Int.le_of_lt hd)
/-! ### the settings at which two lines meet -/
def meetS (roof : Int) (l u : Ln) (found : List (Int × Int)) : List (Int × Int) :=
  if u.2 < l.2 ∧ l.1 < u.1 ∧ u.1 - l.1 < roof * (l.2 - u.2) then
    (if (found.any fun p => decide (p.1 * (l.2 - u.2) = (u.1 - l.1) * p.2)) = true then found else found ++ [(u.1 - l.1, l.2 - u.2)]) else found
def meetM (rays : List Ln) (roof : Int) : List (Int × Int) := rays.foldl (fun f l => rays.foldl (fun f u => meetS roof l u f) f) [(0, 1), (roof, 1)]
/-- what stands in found -/
structure MeetOk (roof : Int) (f : List (Int × Int)) : Prop where
  m0 : ((0, 1) : Int × Int) ∈ f
  mr : (roof, (1 : Int)) ∈ f
  inn : ∀ p ∈ f, 0 < p.2 ∧ 0 ≤ p.1 ∧ p.1 ≤ roof * p.2
  ne : f.Pairwise fun p q => p.1 * q.2 ≠ q.1 * p.2
theorem meetS_ok {roof : Int} {l u : Ln} {f : List (Int × Int)} (h : MeetOk roof f) : MeetOk roof (meetS roof l u f) ∧ (∀ p ∈ f, p ∈ meetS roof l u f) ∧ (Bf l u → u.1 - l.1 < roof * (l.2 - u.2) → ∃ p ∈ meetS roof l u f, p.1 * (l.2 - u.2) = (u.1 - l.1) * p.2) := by
  unfold meetS
  by_cases c : u.2 < l.2 ∧ l.1 < u.1 ∧ u.1 - l.1 < roof * (l.2 - u.2)
  · rw [if_pos c]
    by_cases a : (f.any fun p => decide (p.1 * (l.2 - u.2) = (u.1 - l.1) * p.2)) = true
    · rw [if_pos a]
      refine ⟨h, fun p hp => hp, fun _ _ => ?_⟩
      obtain ⟨p, hp, e⟩ := List.any_eq_true.mp a
      exact ⟨p, hp, of_decide_eq_true e⟩
    · rw [if_neg a]
      refine ⟨⟨List.mem_append_left _ h.m0, List.mem_append_left _ h.mr, fun p hp => ?_, ?_⟩, fun p hp => List.mem_append_left _ hp, fun _ _ => ⟨_, List.mem_append_right _ (List.mem_singleton.mpr rfl), ?_⟩⟩
      · rcases List.mem_append.mp hp with hp | hp
        · exact h.inn p hp
        · cases List.mem_singleton.mp hp
          exact ⟨by show 0 < l.2 - u.2; omega, by show 0 ≤ u.1 - l.1; omega, by show u.1 - l.1 ≤ roof * (l.2 - u.2); omega⟩
      · refine List.pairwise_append.mpr ⟨h.ne, List.pairwise_singleton _ _, fun p hp q hq e => ?_⟩
        cases List.mem_singleton.mp hq
        exact a (List.any_eq_true.mpr ⟨p, hp, decide_eq_true e⟩)
      · exact Int.mul_comm _ _ ▸ rfl
  · rw [if_neg c]
    exact ⟨h, fun p hp => hp, fun b lt => absurd ⟨b.2, b.1, lt⟩ c⟩
theorem meet_in {roof : Int} {l : Ln} : ∀ (us : List Ln) (f : List (Int × Int)), MeetOk roof f → MeetOk roof (us.foldl (fun f u => meetS roof l u f) f) ∧ (∀ p ∈ f, p ∈ us.foldl (fun f u => meetS roof l u f) f) ∧
    ∀ u ∈ us, Bf l u → u.1 - l.1 < roof * (l.2 - u.2) → ∃ p ∈ us.foldl (fun f u => meetS roof l u f) f, p.1 * (l.2 - u.2) = (u.1 - l.1) * p.2
  | [], f, h => ⟨h, fun p hp => hp, fun u hu => by cases hu⟩
  | u :: us, f, h => by
    obtain ⟨a1, a2, a3⟩ := meetS_ok (l := l) (u := u) h
    obtain ⟨b1, b2, b3⟩ := meet_in us _ a1
    refine ⟨b1, fun p hp => b2 p (a2 p hp), fun v hv bf lt => ?_⟩
    rcases List.mem_cons.mp hv with rfl | hv
    · obtain ⟨p, hp, e⟩ := a3 bf lt
      exact ⟨p, b2 p hp, e⟩
    · exact b3 v hv bf lt
theorem meet_out {roof : Int} {rays : List Ln} : ∀ (ls : List Ln) (f : List (Int × Int)), MeetOk roof f → MeetOk roof (ls.foldl (fun f l => rays.foldl (fun f u => meetS roof l u f) f) f) ∧ (∀ p ∈ f, p ∈ ls.foldl (fun f l => rays.foldl (fun f u => meetS roof l u f) f) f) ∧
    ∀ l ∈ ls, ∀ u ∈ rays, Bf l u → u.1 - l.1 < roof * (l.2 - u.2) → ∃ p ∈ ls.foldl (fun f l => rays.foldl (fun f u => meetS roof l u f) f) f, p.1 * (l.2 - u.2) = (u.1 - l.1) * p.2
  | [], f, h => ⟨h, fun p hp => hp, fun u hu => by cases hu⟩
  | l :: ls, f, h => by
    obtain ⟨a1, a2, a3⟩ := meet_in (l := l) rays f h
    obtain ⟨b1, b2, b3⟩ := meet_out (rays := rays) ls _ a1
    refine ⟨b1, fun p hp => b2 p (a2 p hp), fun v hv u hu bf lt => ?_⟩
    rcases List.mem_cons.mp hv with rfl | hv
    · obtain ⟨p, hp, e⟩ := a3 u hu bf lt
      exact ⟨p, b2 p hp, e⟩
    · exact b3 v hv u hu bf lt
theorem meet_ok {rays : List Ln} {roof : Int} (hr : 0 < roof) : MeetOk roof (meetM rays roof) ∧ ∀ l ∈ rays, ∀ u ∈ rays, Bf l u → u.1 - l.1 < roof * (l.2 - u.2) → ∃ p ∈ meetM rays roof, p.1 * (l.2 - u.2) = (u.1 - l.1) * p.2 := by
  have h0 : MeetOk roof [(0, 1), (roof, 1)] := by
    refine ⟨by simp, by simp, fun p hp => ?_, ?_⟩
    · simp only [List.mem_cons, List.not_mem_nil, or_false] at hp
      rcases hp with rfl | rfl
      · exact ⟨by decide, by decide, by show (0 : Int) ≤ roof * 1; omega⟩
      · exact ⟨by show (0 : Int) < 1; decide, by show 0 ≤ roof; omega, by show roof ≤ roof * 1; omega⟩
    · refine List.pairwise_cons.mpr ⟨fun q hq => ?_, List.pairwise_singleton _ _⟩
      cases List.mem_singleton.mp hq
      show (0 : Int) * 1 ≠ roof * 1
      omega
  obtain ⟨a, _, c⟩ := meet_out (rays := rays) rays _ h0
  exact ⟨a, c⟩
/-- one denominator for all -/
def flatM (f : List (Int × Int)) : Int := f.foldl (fun F p => if F % p.2 ≠ 0 then F * p.2 else F) 1
theorem flat_ok : ∀ (f : List (Int × Int)) (F : Int), 0 < F → (∀ p ∈ f, 0 < p.2) → 0 < f.foldl (fun F p => if F % p.2 ≠ 0 then F * p.2 else F) F ∧ F ∣ f.foldl (fun F p => if F % p.2 ≠ 0 then F * p.2 else F) F ∧ ∀ p ∈ f, p.2 ∣ f.foldl (fun F p => if F % p.2 ≠ 0 then F * p.2 else F) F
  | [], F, h, _ => ⟨h, Int.dvd_refl _, fun p hp => by cases hp⟩
  | p :: f, F, h, hp => by
    have p0 := hp p (List.mem_cons_self ..)
    have st : 0 < (if F % p.2 ≠ 0 then F * p.2 else F) ∧ F ∣ (if F % p.2 ≠ 0 then F * p.2 else F) ∧ p.2 ∣ (if F % p.2 ≠ 0 then F * p.2 else F) := by
      by_cases c : F % p.2 ≠ 0
      · rw [if_pos c]
        exact ⟨Int.mul_pos h p0, Int.dvd_mul_right _ _, Int.dvd_mul_left _ _⟩
      · rw [if_neg c]
        exact ⟨h, Int.dvd_refl _, Int.dvd_of_emod_eq_zero (by omega)⟩
    obtain ⟨a, b, c⟩ := flat_ok f _ st.1 fun q hq => hp q (List.mem_cons_of_mem _ hq)
    refine ⟨a, Int.dvd_trans st.2.1 b, fun q hq => ?_⟩
    rcases List.mem_cons.mp hq with rfl | hq
    · exact Int.dvd_trans st.2.2 b
    · exact c q hq
/-- the places, put in order, are places -/
theorem places_ok {rays : List Ln} {roof : Int} (hr : 0 < roof) {ps : List Int} (hp : ps.Perm ((meetM rays roof).map fun p => p.1 * (flatM (meetM rays roof) / p.2))) (hs : ps.Pairwise (· ≤ ·)) : Places rays roof (flatM (meetM rays roof)) ps := by
  obtain ⟨M, cr⟩ := meet_ok (rays := rays) hr
  generalize meetM rays roof = f at *
  obtain ⟨F0, _, dv⟩ := flat_ok f 1 (by decide) fun p hp => (M.inn p hp).1
  change 0 < flatM f at F0
  change ∀ p ∈ f, p.2 ∣ flatM f at dv
  generalize flatM f = F at *
  have mem : ∀ x, x ∈ ps ↔ ∃ p ∈ f, p.1 * (F / p.2) = x := fun x => by
    rw [hp.mem_iff, List.mem_map]
  have quo : ∀ p ∈ f, p.2 * (F / p.2) = F := fun p hp => Int.mul_ediv_cancel' (dv p hp)
  refine ⟨F0, ?_, (mem 0).mpr ⟨(0, 1), M.m0, Int.zero_mul _⟩, (mem _).mpr ⟨(roof, 1), M.mr, by show roof * (F / 1) = roof * F; rw [Int.ediv_one]⟩, fun x hx => ?_, fun l hl u hu bf lt => ?_⟩
  · have nd : ps.Nodup := by
      refine hp.nodup_iff.mpr ?_
      refine List.pairwise_map.mpr (M.ne.imp_of_mem fun {p q} hp hq ne e => ne ?_)
      have e1 := quo p hp
      have e2 := quo q hq
      have m : p.1 * q.2 * F = q.1 * p.2 * F := by
        have : p.1 * (F / p.2) * (p.2 * q.2) = q.1 * (F / q.2) * (p.2 * q.2) := by rw [e]
        grind
      exact Int.eq_of_mul_eq_mul_right (by omega) m
    exact (hs.and nd).imp fun {a b} h => by
      have h1 := h.1
      have h2 := h.2
      omega
  · obtain ⟨p, hp, rfl⟩ := (mem x).mp hx
    obtain ⟨p0, p1, p2⟩ := M.inn p hp
    have e1 := quo p hp
    have q0 : 0 ≤ F / p.2 := Int.ediv_nonneg (Int.le_of_lt F0) (Int.le_of_lt p0)
    refine ⟨Int.mul_nonneg p1 q0, ?_⟩
    have m := Int.mul_le_mul_of_nonneg_right p2 q0
    rw [Int.mul_assoc, e1] at m
    exact m
  · obtain ⟨p, hp, e⟩ := cr l hl u hu bf lt
    refine ⟨_, (mem _).mpr ⟨p, hp, rfl⟩, ?_⟩
    have e1 := quo p hp
    grind
/-! ### the lowest lines of the lowest lines -/
theorem good_rows {top : Int} : ∀ {R : List Ln}, Good top R → R.Pairwise (fun y x => Bf x y)
  | [], _ => List.Pairwise.nil
  | [_], _ => List.pairwise_singleton _ _
  | y :: x :: r, g => by
    have ih := good_rows g.tail
    refine List.pairwise_cons.mpr ⟨fun z hz => ?_, ih⟩
    rcases List.mem_cons.mp hz with rfl | hz
    · exact g.1
    · exact ((List.pairwise_cons.mp ih).1 z hz).trans g.1
theorem thin_again : ∀ (l k : List Ln), Rows (k ++ l) → l.foldl thinPS k = k ++ l
  | [], k, _ => (List.append_nil k).symm
  | a :: l, k, h => by
    have e : thinPS k a = k ++ [a] := by
      unfold thinPS
      refine if_neg fun c => ?_
      obtain ⟨o, ho, le⟩ := List.any_eq_true.mp c
      have b := (List.pairwise_append.mp h).2.2 o ho a (List.mem_cons_self ..)
      unfold leP at le
      rw [Bool.and_eq_true] at le
      have := of_decide_eq_true le.2
      have := b.2
      omega
    show l.foldl thinPS (thinPS k a) = _
    rw [e, thin_again l (k ++ [a]) (by rw [List.append_assoc]; exact h), List.append_assoc]
    rfl
theorem add_again {top : Int} {a : Ln} : ∀ {R : List Ln}, Good top (a :: R) → addM top a R = a :: R
  | [], _ => rfl
  | [y], g => if_pos g.2.1
  | y :: x :: r, g => by
    unfold addM
    rw [pop_stop (g.2.2.1 x r rfl)]
    exact if_pos g.2.1
theorem low_fold {top : Int} : ∀ (l R : List Ln), Good top (l.reverse ++ R) → l.foldl (fun R l => addM top l R) R = l.reverse ++ R
  | [], R, _ => rfl
  | a :: l, R, g => by
    rw [List.reverse_cons, List.append_assoc] at g ⊢
    have g2 : Good top (a :: R) := good_at g
    show l.foldl (fun R l => addM top l R) (addM top a R) = _
    rw [add_again g2]
    exact low_fold l (a :: R) g
theorem low_again {top : Int} {T : List Ln} (ne : T ≠ []) (g : Good top T.reverse) : lowestM top T = some T := by
  have rw0 : Rows T := by
    have := good_rows g
    exact List.pairwise_reverse.mp this
  have sorted : T.mergeSort pairLe = T := List.mergeSort_of_pairwise (rw0.imp fun {a b} h => decide_eq_true (.inl h.1))
  have e1 : thinP T = T := by
    unfold thinP
    rw [sorted]
    exact thin_again T [] rw0
  unfold lowestM
  rw [if_neg ne, e1]
  unfold lowM
  rw [low_fold T [] (by rw [List.append_nil]; exact g), List.append_nil, List.reverse_reverse]
theorem fold_inv {α β : Type} (I : β → Prop) (g : β → α → β) : ∀ (l : List α) (b : β), I b → (∀ b x, x ∈ l → I b → I (g b x)) → I (l.foldl g b)
  | [], _, h, _ => h
  | x :: l, b, h, k => fold_inv I g l (g b x) (k b x (List.mem_cons_self ..) h) fun b y hy => k b y (List.mem_cons_of_mem _ hy)
theorem meet_bd {rays : List Ln} {roof : Int} (bd : ∀ r ∈ rays, BdR r) : ∀ p ∈ meetM rays roof, p.2 ≤ 1000 := by
  unfold meetM
  refine fold_inv (fun f : List (Int × Int) => ∀ p ∈ f, p.2 ≤ 1000) _ rays _ (fun p hp => ?_) fun f l hl hf => fold_inv (fun f : List (Int × Int) => ∀ p ∈ f, p.2 ≤ 1000) _ rays f hf fun f u hu hf p hp => ?_
  · simp only [List.mem_cons, List.not_mem_nil, or_false] at hp
    rcases hp with rfl | rfl
    · decide
    · show (1 : Int) ≤ 1000
      decide
  · obtain ⟨_, _, _, a⟩ := bd l hl
    obtain ⟨_, _, b, _⟩ := bd u hu
    unfold meetS at hp
    split at hp
    · split at hp
      · exact hf p hp
      · rcases List.mem_append.mp hp with hp | hp
        · exact hf p hp
        · cases List.mem_singleton.mp hp
          show l.2 - u.2 ≤ 1000
          omega
    · exact hf p hp
end Fb

set_option Elab.async false
set_option linter.all false
set_option maxRecDepth 100000
set_option maxHeartbeats 4000000
/-! sorted by a key that a lambda of one name tells -/
namespace Fb
open PySem PySem.Spec L2
open PyProof.Rows hiding St
open LamX (TabB Tabs TabS ExtN CodeO)

/-! ### the heap without the tables of code objects -/
/-- what is tracked but the tables -/
def noT (H : Hp) : Hp := fun b => match H b with
  | some (.tbl _) => none
  | o => o
theorem noT_at {H : Hp} {b : Addr} {o : HO} (h : H b = some o) (n : ∀ ps, o ≠ .tbl ps) : noT H b = some o := by
  unfold noT
  rw [h]
  cases o <;> first | rfl | exact absurd rfl (n _)
theorem noT_of {H : Hp} {b : Addr} {o : HO} (h : noT H b = some o) : H b = some o ∧ ∀ ps, o ≠ .tbl ps := by
  unfold noT at h
  split at h
  · cases h
  · rename_i o' hn
    refine ⟨h, fun ps e => ?_⟩
    subst e
    exact hn ps h
theorem noT_same (H : Hp) : Same (noT H) H := fun _ _ h => (noT_of h).1
theorem ext_same {H H' : Hp} (e : ExtN H H') : Same (noT H) H' := fun b o h => e b o (noT_of h).1 (noT_of h).2
theorem same_ext {H H' : Hp} (e : Same (noT H) H') : ExtN H H' := fun b o h n => e b o (noT_at h n)
theorem noT_mono {H H' : Hp} (e : Same H H') : Same (noT H) (noT H') := fun b o h => noT_at (e b o (noT_of h).1) (noT_of h).2
theorem noT_sqt {K : PySem.W.Frag} {H : Hp} {a : Addr} {xs : List V} (h : SqT K H a xs) : SqT K (noT H) a xs := by
  rcases h with (h | ⟨o, h⟩) | h
  · exact .inl (.inl (noT_at h fun _ e => nomatch e))
  · exact .inl (.inr ⟨o, noT_at h fun _ e => nomatch e⟩)
  · exact .inr h
theorem noT_sql {K : PySem.W.Frag} {H : Hp} {a : Addr} {xs : List V} (h : SqL K H a xs) : SqL K (noT H) a xs := by
  rcases h with (h | ⟨o, h⟩) | h
  · exact .inl (.inl (noT_at h fun _ e => nomatch e))
  · exact .inl (.inr ⟨o, noT_at h fun _ e => nomatch e⟩)
  · exact .inr h
mutual
theorem noT_dp {K : PySem.W.Frag} {H : Hp} : ∀ (d : PyData) {v : V}, Dp K H v d → Dp K (noT H) v d
  | .none, _, h => by cases h; exact .non
  | .bool _, _, h => by cases h; exact .bl _
  | .int _, _, h => by cases h; exact .int _
  | .str _, _, h => by cases h; exact .str _
  | .list ds, _, h => by
    cases h with
    | lst s a => exact .lst (noT_sql s) (noT_all ds a)
  | .tuple ds, _, h => by
    cases h with
    | tup s a => exact .tup (noT_sqt s) (noT_all ds a)
  | .dict _, _, h => by cases h
theorem noT_all {K : PySem.W.Frag} {H : Hp} : ∀ (ds : List PyData) {vs : List V}, DpAll K H vs ds → DpAll K (noT H) vs ds
  | [], _, h => by cases h; exact .nil
  | d :: ds, _, h => by
    cases h with
    | cons a b => exact .cons (noT_dp d a) (noT_all ds b)
end
theorem noT_bag {H : Hp} {p : Addr} (h : BagAt H p) : BagAt (noT H) p := by
  obtain ⟨q, ns, a, b⟩ := h
  exact ⟨q, ns, noT_at a (fun _ e => by unfold bagO at e; cases e), noT_at b fun _ e => nomatch e⟩
theorem tabs_same {T : List (Addr × Str)} {H H' : Hp} (t : Tabs T H) (e : Same H H') : Tabs T H' := t.ext e

/-! ### the lambda as a value -/
/-- the function at f, its code object at c' -/
def LamO (f c' : Addr) (q : Str) (params : Arguments) (body : Expr) (scope : Scope) : HO :=
  .ext fun h => ∃ pm ctv : Value, h.get? f = some (PySem.W.kla_obj "<lambda>" q params body scope [] pm c' ctv)
theorem lamO_ok {P : Program} {w : World} {H : Hp} {h : Heap} {f c' : Addr} {q : Str} {params : Arguments} {body : Expr} {scope : Scope} {pm ctv : Value} (e : h.get? f = some (PySem.W.kla_obj "<lambda>" q params body scope [] pm c' ctv)) :
    ObjOk P w H h f (LamO f c' q params body scope) :=
  ⟨⟨pm, ctv, e⟩, ⟨_, e⟩, fun h1 h2 ⟨pm, ctv, e⟩ k => ⟨pm, ctv, k _ e⟩⟩
section
variable {X : Cx} {pins : List (Addr × Obj)} {σ : L2.St} {H : Hp} {s : Shared}
theorem tabs_upd {T : List (Addr × Str)} {H : Hp} {f : Addr} {o : HO} (t : Tabs T H) (n : H f = none) : Tabs T (upd H f o) := t.ext (grow n)
theorem lam_new {T : List (Addr × Str)} {c P : Addr} {params : Arguments} {body : Expr} {scope : Scope} {pos : Pos} {q : Str} {E : Value → Shared → Prop} {Q : Value → Shared → Prop} (I : Inv X pins σ H s) (TB : TabB X.base X.mg c P) (hcode : X.env.code = .ref c)
    (eq : q = X.env.qual ++ "<lambda>") (hm : (P, q) ∈ T) (hu : ∀ p ∈ T, p.1 = P → p.2 = q) (hT : Tabs T H) (hdef : defaultsOf params X.env = ([], [])) (hfree : ∀ y ∈ scope.names, y.2 ≠ .free) (hclo : cloFrom X.env.cells scope.names [] = [])
    (k : ∀ (f c' : Addr) (H1 : Hp) (s' : Shared), Inv X pins σ H1 s' → ExtN H H1 → Tabs T H1 → H1 f = some (LamO f c' q params body scope) → H1 c' = some (CodeO c' q) → Q (.ref f) s') :
    wpAny (model X.prog X.w) X.A (eval (.Lambda params body scope pos) X.env) Q E s := by
  subst eq
  obtain ⟨ps, hP, ht, ha⟩ := hT _ hm
  have bP : s.heap.BuiltinsAt X.mg P := TB.bm.keeps I.bk
  have hP' : s.heap.get? P = some { cls := .none, data := .fields ps } := I.hok P _ hP
  have clo : closureFor scope X.env = pure [] := by
    have := closure_ok (env := X.env) (scope := scope) fun y hy e => absurd e (hfree y hy)
    rw [hclo] at this
    exact this
  -- the function is laid, once its code object is known
  have fin : ∀ (H2 : Hp) (h2 : Heap) (tk : Nat) (pm ctv : Value) (c' : Addr), Inv X pins σ H2 { s with heap := h2, toks := tk } → ExtN H H2 → Tabs T H2 → H2 c' = some (CodeO c' (X.env.qual ++ "<lambda>")) →
      Q (.ref h2.objs.size) { s with heap := h2.push (PySem.W.kla_obj "<lambda>" (X.env.qual ++ "<lambda>") params body scope [] pm c' ctv), toks := tk } := by
    intro H2 h2 tk pm ctv c' J e t hc
    have nF : H2 h2.objs.size = none := J.hok.fresh (Nat.le_refl _)
    refine k h2.objs.size c' (upd H2 h2.objs.size (LamO h2.objs.size c' (X.env.qual ++ "<lambda>") params body scope)) _ (J.laid (t' := tk) (fun b u z => Heap.get?_push_of_some _ z) (Nat.le_refl _) (lamO_ok (Heap.get?_push_size _ rfl)))
      (e.trans (ExtN.of (grow nF))) (tabs_upd t nF) upd_same ((grow nF) _ _ hc)
  refine PySem.W.kla_eval hdef ?_
  cases hc : codeAmong pos ps.toList with
  | none =>
    refine PySem.W.kla_makeFunction (mg := X.mg) (c := c) (P := P) (ps := ps) clo I.ok.glob (I.mod.glob.keeps I.bk) hcode (TB.code.keeps I.bk) hP' ht hc TB.gP bP fun c' ctv h' tk hx hge hlt hrec htb => ?_
    obtain ⟨c2, oc, vs, t, e2, hoc, hd, hv⟩ := hrec
    cases e2
    have nC : H c' = none := I.hok.fresh hge
    have J := LamX.inv_table (t' := tk) (q := X.env.qual ++ "<lambda>") (more := #[rawInt pos.line, rawInt pos.col, .ref c']) (h' := h') I hP (fun b o hb e => hx b o hb e) htb hge ⟨oc, vs, t, hoc, hd, hv⟩
    have hE : ExtN H (upd (upd H P (.tbl (ps ++ #[rawInt pos.line, rawInt pos.col, .ref c']))) c' (CodeO c' (X.env.qual ++ "<lambda>"))) := by
      intro b o e n
      rw [upd_ne (ne_of_none e nC), upd_ne]
      · exact e
      · intro z
        subst z
        exact n ps (Option.some.inj (e.symm.trans hP))
    have eL : (ps ++ #[rawInt pos.line, rawInt pos.col, Value.ref c']).toList = ps.toList ++ [rawInt pos.line, rawInt pos.col, .ref c'] := by simp
    refine fin _ h' tk _ ctv c' J hE (fun p hp => ?_) upd_same
    by_cases hb : p.1 = P
    · rw [hu p hp hb, hb]
      refine ⟨_, (upd_ne (ne_of_none hP nC)).trans upd_same, ?_, ?_⟩
      · rw [eL]
        exact PySem.TriplesOk_snoc _ _ _ _ ht
      · intro p' cv hcv
        rw [eL] at hcv
        rcases LamX.among_app _ ht hcv with z | z
        · obtain ⟨c0, e1, e2⟩ := ha p' cv z
          exact ⟨c0, e1, hE _ _ e2 LamX.codeO_ne⟩
        · exact ⟨c', z, upd_same⟩
    · obtain ⟨ps', a1, a2, a3⟩ := hT p hp
      refine ⟨ps', ?_, a2, ?_⟩
      · rw [upd_ne (ne_of_none a1 nC), upd_ne hb]
        exact a1
      · intro p' cv hcv
        obtain ⟨c0, e1, e2⟩ := a3 p' cv hcv
        exact ⟨c0, e1, hE _ _ e2 LamX.codeO_ne⟩
  | some cv =>
    obtain ⟨c', e, hco⟩ := ha pos cv hc
    subst e
    refine PySem.W.kla_makeFunctionHit (mg := X.mg) (c := c) (P := P) (ps := ps) clo I.ok.glob (I.mod.glob.keeps I.bk) hcode (TB.code.keeps I.bk) hP' ht hc bP fun ctv h' tk hx hsz => ?_
    exact fin H h' tk _ ctv c' (I.kept hx) (ExtN.refl H) hT hco
/-- a lambda, made -/
def tLamV (T : List (Addr × Str)) (q : Str) (params : Arguments) (body : Expr) (scope : Scope) : TE := fun σ H Q => Tabs T H ∧ ∀ f c' H1, ExtN H H1 → Tabs T H1 → H1 f = some (LamO f c' q params body scope) → H1 c' = some (CodeO c' q) → Q (.ref f) H1
theorem pe_lamV {T : List (Addr × Str)} {c P : Addr} {params : Arguments} {body : Expr} {scope : Scope} {pos : Pos} {q : Str} (TB : TabB X.base X.mg c P) (hcode : X.env.code = .ref c)
    (eq : q = X.env.qual ++ "<lambda>") (hm : (P, q) ∈ T) (hu : ∀ p ∈ T, p.1 = P → p.2 = q) (hdef : defaultsOf params X.env = ([], [])) (hfree : ∀ y ∈ scope.names, y.2 ≠ .free) (hclo : cloFrom X.env.cells scope.names [] = []) :
    PE X (.Lambda params body scope pos) (tLamV T q params body scope) := by
  refine ⟨fun pins s σ H Q I h => ?_⟩
  obtain ⟨hT, h⟩ := h
  exact lam_new I TB hcode eq hm hu hT hdef hfree hclo fun f c' H1 s' J e t h1 h2 => ⟨.ref f, H1, J, rfl, h f c' H1 e t h1 h2⟩
end

/-! ### a key: the negative of an item -/
/-- lambda x: -x[i] -/
structure NegKey (x : Str) (i : Int) (j : Nat) (params : Arguments) (body : Expr) (scope : Scope) : Prop where
  shape : ∃ p1 k p2 p3 p4, body = .UnaryOp .USub (.Subscript (.Name x p1) (.Constant (.int i) k p2) p3) p4
  kind : scope.kind = .function
  co : scope.isCoroutine = false
  gen : scope.isGenerator = false
  cell : ∀ y ∈ scope.names, y.2 ≠ .cell
  own : scope.names.lookup x = some .local
  bug : (x == ("__debug__" : Str)) = false
  bind : ∀ (q : Str) (pm cdv ctv v : Value), bindArgs (PySem.W.kla_fn "<lambda>" q params body scope [] pm cdv ctv) ⟨[v], []⟩ = pure [(x, v)]
  ix : i = j
  small : j < 1000
theorem neg_key {P : Program} {w : World} {A : Around} {s : Shared} {f c' t : Addr} {x q : Str} {i : Int} {j : Nat} {params : Arguments} {body : Expr} {scope : Scope} {pm ctv : Value} {items : Array Value} {z : Int} {tz : Tok} (N : NegKey x i j params body scope)
    (ho : s.heap.get? f = some (PySem.W.kla_obj "<lambda>" q params body scope [] pm c' ctv)) (hc : s.heap.CodeRec (.ref c') q) (lim : s.heap.NoLimit) (room : A.depth < recursionLimit) (ht : IsTup s.heap t items) (hx : items[j]? = some (.int z tz)) :
    wpAny (model P w) A (call (.ref f) [.ref t]) (PySem.W.KeyPure (.int (-z)) s) (fun _ _ => False) s := by
  obtain ⟨p1, k, p2, p3, p4, eb⟩ := N.shape
  have bind := N.bind q pm (.ref c') ctv (.ref t)
  refine wpAny_call (codeAny_mono (R := fun r s' => ∃ v, r = .ok (.ret v) ∧ PySem.W.KeyPure (.int (-z)) s v s') ?_ ?_)
  · refine PySem.W.kla_callFunE room ho rfl N.co N.gen rfl hc ?_
    rw [bind]
    refine wpAny_pure (wpAny_newFunctionEnv N.cell ?_ (fun h₁ hns hsb => ⟨lim.fresh _ hsb, ?_⟩) N.kind)
    · intro y hy
      rw [List.mem_singleton.mp hy]
      exact N.own
    · have kp : ∀ b o, s.heap.get? b = some o → h₁.get? b = some o := fun b o e => hsb.extBut b o (Nat.ne_of_lt (Heap.lt_size e)) (Heap.get?_push_of_some _ e)
      refine PySem.W.kla_codeExpr ?_
      rw [eb]
      refine UnaryOp_ (wpAny_Subscript_Constant_late (wpAny_Name (wpAny_loadName_local N.kind N.own hns (v := .ref t) ?_ ?_) N.bug))
      · show List.lookup x [(x, Value.ref t)] = some (.ref t)
        simp [List.lookup]
      · refine wpAny_Constant_int ?_
        have e := N.ix
        subst e
        have sm := N.small
        have lt : j < items.size := (Array.getElem?_eq_some_iff.mp hx).1
        refine ⟨"tuple", _, slot_tuple_getitem.lookup, (ht.keeps kp).typeIs, getItem_tuple (j := j) (ht.keeps kp) (by omega) (by omega) ?_ hx ?_⟩
        · unfold seqIndex?
          simp only [show ¬ ((j : Int) < 0) by omega, if_false]
          rw [if_pos]
          · simp
          · simp only [Bool.and_eq_true, decide_eq_true_eq]
            omega
        · exact neg_int ⟨_, rfl, h₁, _, rfl, kp, .int _ _⟩
  · rintro r s' ⟨v, rfl, h⟩
    exact h
/-- sorted(xs, key=lambda x: -x[i]): the items in some order -/
def rSortNeg (K : PySem.W.Frag) (j : Nat) (q : Str) (params : Arguments) (body : Expr) (scope : Scope) : List V → List V → Hp → VK → Prop := fun vs ws H Q => ∃ (a f c' : Addr) (zs : List (V × List Int)), vs = [V.ref a] ∧ ws = [V.ref f] ∧ SqL K H a (zs.map Prod.fst) ∧
  (∀ z ∈ zs, TupI K H z.1 z.2 ∧ j < z.2.length) ∧ H f = some (LamO f c' q params body scope) ∧ H c' = some (CodeO c' q) ∧ ∀ (p : Addr) (zs' : List (V × List Int)), zs'.Perm zs → H p = none → Q (.ref p) (upd H p (.lst (zs'.map Prod.fst)))
theorem negs_vals : ∀ {zs : List (V × List Int)} {us : List Value}, Vals (zs.map Prod.fst) us → PySem.W.EachIs (fun u (z : V × List Int) => RelV z.1 u) us zs
  | [], _, h => by
    cases h
    exact .nil
  | z :: r, _, h => by
    cases h with
    | cons a b => exact .cons a (negs_vals b)
theorem vals_negs : ∀ {zs : List (V × List Int)} {us : List Value}, PySem.W.EachIs (fun u (z : V × List Int) => RelV z.1 u) us zs → Vals (zs.map Prod.fst) us
  | _, _, .nil => .nil
  | _, _, .cons a b => .cons a (vals_negs b)
theorem cr_sortNeg {X : Cx} {k : Nat} {x q : Str} {i : Int} {j : Nat} {params : Arguments} {body : Expr} {scope : Scope} (hr : Room k X.A) (N : NegKey x i j params body scope) : CallRK X (.builtin "sorted") [Str.ofString "key"] (rSortNeg X.K j q params body scope) := by
  intro pins s σ H vs ws us us2 Q I r r2 h
  obtain ⟨a, f, c', zs, rfl, rfl, hs, hz, hf, hc, k⟩ := h
  rw [Vals.ref1 r, Vals.ref1 r2]
  obtain ⟨its, rv, hl, hz2⟩ := I.list hs
  obtain ⟨⟨pm, ctv, ef⟩, _, _⟩ := I.hok f _ hf
  obtain ⟨⟨oc, cvs, ct, ec, dc, vc⟩, _, _⟩ := I.hok c' _ hc
  have un := hr.un
  have dp := hr.dp
  rw [List.length_map] at hz2
  refine PySem.W.sorted_key_data (b := false) (bs := zs) (R := fun u (z : V × List Int) => RelV z.1 u) (fun z : V × List Int => .int (-(z.2.getD j 0))) hl.isList (negs_vals rv) (PySem.W.AllAlike.of fun _ _ => rfl)
    (PySem.W.Sortable.others fun b => ⟨(fun h => nomatch h), fun xs h => nomatch h⟩) hz2 (fun z _ => ?_) (PyProof.Rows.ksk_s1 _ _) (fun _ => PyProof.Rows.ksk_l1 _ _) (fun _ => PyProof.Rows.ksk_t1 _ _) (fun v z rz mz h tk kp => ?_) fun out c h' tk kp fr hD lo eo => ?_
  · show X.A.units + 2 + 0 < _
    omega
  · obtain ⟨⟨A1, e1, sA⟩, lt⟩ := hz z mz
    rw [e1] at rz
    cases rz
    obtain ⟨its2, rv2, hl2, _⟩ := I.tuple sA
    have g : (z.2.map V.int)[j]? = some (.int (z.2.getD j 0)) := by
      rw [List.getElem?_map, List.getElem?_eq_getElem lt, List.getD_eq_getElem?_getD, List.getElem?_eq_getElem lt]
      rfl
    obtain ⟨u, eu, ru⟩ := rv2.get g
    obtain ⟨tz, rfl⟩ := ru
    exact neg_key (s := { s with heap := h, toks := tk }) N (kp _ _ ef) ⟨c', oc, cvs, ct, rfl, kp _ _ ec, dc, vc⟩ (I.nolimit.keeps kp) (by show X.A.depth < _; omega) (hl2.keeps kp) (by simpa using eu)
  · have pm2 : (zs.mergeSort (PySem.W.dataLe false fun z : V × List Int => .int (-(z.2.getD j 0)))).Perm zs := List.mergeSort_perm _ _
    refine ⟨.ref _, upd H (s.heap.objs.size + 1) (.lst ((zs.mergeSort (PySem.W.dataLe false fun z : V × List Int => .int (-(z.2.getD j 0)))).map Prod.fst)), I.laid (t' := tk) kp (Nat.le_succ _) ⟨?_, out, c, vals_negs eo, hD⟩, rfl, k _ _ pm2 (I.hok.fresh (Nat.le_succ _))⟩
    rw [List.length_map, pm2.length_eq]
    exact hz2
theorem setOf_K {X : Cx} {K : PySem.W.Frag} {P : Program} {w : World} (eK : X.K = K) (eP : X.prog = P) (ew : X.w = w) (hc : X.calm = true) (hu : X.A.units + 64 < cLine) : CallR X (.type "set") (rSetOfT K P w) := by
  subst eK eP ew
  exact cr_setOfT hc hu
theorem sortedT_K {X : Cx} {K : PySem.W.Frag} {P : Program} {w : World} (eK : X.K = K) (eP : X.prog = P) (ew : X.w = w) (hc : X.calm = true) : CallR X (.builtin "sorted") (rSortedT K P w) := by
  subst eK eP ew
  exact cr_sortedT hc
theorem room_set {k : Nat} {A : Around} (hr : Room k A) : A.units + 64 < cLine := by
  have := hr.un
  omega
/-- sorted(e, key=lambda x: -x[i]) -/
theorem pe_sortNeg {X : Cx} {K : PySem.W.Frag} {k : Nat} {T : List (Addr × Str)} {c P : Addr} {x q : Str} {i : Int} {j : Nat} {params : Arguments} {body : Expr} {scope : Scope} {p lpos kpos pos : Pos} {e : Expr} {te : TE} (eK : X.K = K) (hr : Room k X.A) (hg : Gl X "sorted") (hm : X.mg "sorted" = none) (he0 : PE X e te)
    (TB : TabB X.base X.mg c P) (hcode : X.env.code = .ref c) (eq : q = X.env.qual ++ "<lambda>") (hT : (P, q) ∈ T) (hu : ∀ p ∈ T, p.1 = P → p.2 = q) (N : NegKey x i j params body scope) (hdef : defaultsOf params X.env = ([], []) := by rfl) (hfree : ∀ y ∈ scope.names, y.2 ≠ .free := by decide)
    (hclo : cloFrom X.env.cells scope.names [] = [] := by rfl) (hse : starEach [e] X.env = (false, eval e X.env) :: starEach [] X.env := by rfl) (he : backTo pos (starEach [e] X.env) = (false, eval e X.env) :: backTo pos (starEach [] X.env) := by rfl) (hpl : (backTo pos (starEach [e] X.env)).any (·.1) = false := by rfl) :
    PE X (.Call (.Name "sorted" p) [e] [⟨some "key", .Lambda params body scope lpos, kpos⟩] pos) (tCKw (rSortNeg K j q params body scope) (tCons te tNil) (tCons (tLamV T q params body scope) tNil)) := by
  subst eK
  exact pe_callBK (cr_sortNeg hr N) hg hm (by decide +kernel) (pa_cons he0 pa_nil (hs := hse)) (pk_cons (pe_lamV TB hcode eq hT hu hdef hfree hclo) pk_nil) (by decide) (by decide) he hpl rfl rfl rfl
end Fb

set_option Elab.async false
set_option linter.all false
set_option maxRecDepth 100000
set_option maxHeartbeats 4000000
/-! sorted(pairs, key=lambda x: (o.index(x[0]), o.index(x[1]))), o a name of the def -/
namespace Fb
open PySem PySem.Spec L2
open PyProof.Rows hiding St
open LamX (TabB Tabs TabS ExtN CodeO)
abbrev ixE (oN x : Str) (i : Int) (pa pb pc pd apos cpos : Pos) (k : Nat) : Expr := .Call (.Attribute (.Name oN pa) "index" apos) [.Subscript (.Name x pb) (.Constant (.int i) k pc) pd] [] cpos
theorem reads_strs {h : Heap} : ∀ {order : List Str} {us : List Value}, Vals (order.map V.str) us → ReadsAll h us (order.map .str) []
  | [], _, r => by
    cases r
    exact .nil
  | z :: l, _, r => by
    cases r with
    | cons a b =>
      obtain ⟨t, rfl⟩ := a
      exact .cons (as := []) (.str z t) (reads_strs b)
theorem eval_ix {P : Program} {w : World} {A : Around} {s : Shared} {env : Env} {oN x : Str} {i : Int} {j n k : Nat} {pa pb pc pd apos cpos : Pos} {cc O t : Addr} {order : List Str} {its : List Value} {items : Array Value} {z : Str} {tz : Tok} {mm : Str → Option Value} {E Q : Value → Shared → Prop}
    (hk : env.scope.kind = .function) (ho : env.kindOf oN = some .free) (hcl : env.cells.lookup oN = some cc) (hcell : s.heap.IsCell cc (some (.ref O))) (hx : env.kindOf x = some .local) (hns : s.heap.Ns env.locals mm) (hmx : mm x = some (.ref t))
    (b1 : (oN == ("__debug__" : Str)) = false) (b2 : (oN == ("__classdict__" : Str)) = false) (b3 : (x == ("__debug__" : Str)) = false)
    (hO : s.heap.get? O = some { cls := .type "list", data := .seq its.toArray n }) (hv : Vals (order.map V.str) its) (lo : order.length ≤ 1000) (nm : Nms order) (ht : IsTup s.heap t items) (hi : items[j]? = some (.str z tz)) (eij : i = j) (sm : j < 1000) (mz : z ∈ order) (hu : A.units + 65 < cLine)
    (hline : (apos.endLine == cpos.line) = true) (h : ∀ tk tk', Q (.int (order.idxOf z : Nat) tk) { s with toks := tk' }) :
    wpAny (model P w) A (eval (ixE oN x i pa pb pc pd apos cpos k) env) Q E s := by
  have rs : ReadsAll s.heap its (order.map .str) [] := reads_strs hv
  have sh := shaped_strs nm
  have lay : PyData.canLayAll0 (order.map .str) = true := lay_strs order nm
  refine wpAny_Call_method_late (by rfl) (by rfl) hline rfl (wpAny_Name (wpAny_loadName_free hk ho hcl hcell ?_ b2) b1)
  refine ⟨"list", "list.index", PySem.F.plainAttrs_list, PySem.F.slot_list_index, PySem.F.type_list_index, ⟨_, hO, rfl⟩, ?_, ?_⟩
  · intro a e
    cases e
    exact ⟨_, hO, rfl⟩
  refine Calls.callWith_builtin (by rfl) (Calls.evalArgs_plain ?_)
  refine Calls.spliced_cons ?_
  refine wpAny_Subscript_Constant_late (wpAny_Name (wpAny_loadName_local hk hx hns hmx ?_) b3)
  refine wpAny_Constant_int ?_
  subst eij
  have lt : j < items.size := (Array.getElem?_eq_some_iff.mp hi).1
  refine ⟨"tuple", _, slot_tuple_getitem.lookup, ht.typeIs, getItem_tuple (j := j) ht (by omega) (by omega) ?_ hi ?_⟩
  · unfold seqIndex?
    simp only [show ¬ ((j : Int) < 0) by omega, if_false]
    rw [if_pos]
    · simp
    · simp only [Bool.and_eq_true, decide_eq_true_eq]
      omega
  refine Calls.spliced_nil ?_
  have il := List.idxOf_lt_length_of_mem mz
  have hvl := hv.length
  rw [List.length_map] at hvl
  have hjl : order.idxOf z < its.toArray.size := by
    rw [List.size_toArray]
    omega
  have hsl := sizeLine_eq
  have at_ : ∀ (m : Nat) (hm : m < its.toArray.size) (hm2 : m < order.length), SeqAt.readOf s.heap its.toArray[m] = .str order[m] := by
    intro m hm hm2
    have e := SeqAt.readsAll_map (order.map .str) its [] lay rs
    have hml : m < its.length := by simpa using hm
    have e2 := congrArg (fun l => l[m]?) e
    rw [List.getElem?_map, List.getElem?_eq_getElem hml, List.getElem?_map, List.getElem?_eq_getElem hm2] at e2
    have e3 := Option.some.inj e2
    simpa using e3
  refine call_meets PySem.F.slot_list_index ⟨_, hO, rfl⟩ PySem.F.entry_list_index (PySem.F.args_list_index_2 _ _)
    (SeqAt.list_indexAt O its.toArray n none #[] (.str z tz) (fun u => PyData.eqv (SeqAt.readOf s.heap u) (.str z)) (order.idxOf z) hjl (by omega) ?_ ?_) ⟨hO, SeqAt.items_eqAt (vs := its.toArray) (show ReadsAll s.heap its.toArray.toList (order.map .str) [] from rs) (.str z tz) lay (SeqAt.canLay_of_shaped (shaped_st (nm z mz))) ?_, ?_⟩
  · show PyData.eqv (SeqAt.readOf s.heap its.toArray[order.idxOf z]) (.str z) = true
    rw [at_ _ hjl il, eqv_st, List.getElem_idxOf il]
    exact decide_eq_true rfl
  · intro m hm hmj
    have hm2 : m < order.length := by omega
    show PyData.eqv (SeqAt.readOf s.heap its.toArray[m]) (.str z) = false
    rw [at_ m hm hm2, eqv_st]
    refine decide_eq_false fun e => ?_
    have := idx_le (ws := order) (z := z) (j := m) (by rw [List.getElem?_eq_getElem hm2, e])
    omega
  · show A.units + 1 + min (PyData.depthAll (order.map .str)) _ < cLine
    rw [depth_strs']
    omega
  · exact h _ _
/-- the lambda: (o.index(x[0]), o.index(x[1])) -/
structure IxKey (oN x : Str) (params : Arguments) (body : Expr) (scope : Scope) : Prop where
  shape : ∃ (pa pb pc pd ap cp pa' pb' pc' pd' ap' cp' pt : Pos) (k k' kt : Nat), body = .Tuple [ixE oN x 0 pa pb pc pd ap cp k, ixE oN x 1 pa' pb' pc' pd' ap' cp' k'] kt pt ∧ (ap.endLine == cp.line) = true ∧ (ap'.endLine == cp'.line) = true
  kind : scope.kind = .function
  co : scope.isCoroutine = false
  gen : scope.isGenerator = false
  cell : ∀ y ∈ scope.names, y.2 ≠ .cell
  own : scope.names.lookup x = some .local
  free : scope.names.lookup oN = some .free
  fr : ∀ y ∈ scope.names, y.2 = .free → y.1 = oN
  b1 : (oN == ("__debug__" : Str)) = false
  b2 : (oN == ("__classdict__" : Str)) = false
  b3 : (x == ("__debug__" : Str)) = false
  bind : ∀ (q : Str) (cl : List (Str × Addr)) (pm cdv ctv v : Value), bindArgs (PySem.W.kla_fn "<lambda>" q params body scope cl pm cdv ctv) ⟨[v], []⟩ = pure [(x, v)]
theorem ix_key {P : Program} {w : World} {A : Around} {s : Shared} {f c' t cc O : Addr} {oN x q : Str} {params : Arguments} {body : Expr} {scope : Scope} {pm ctv : Value} {clo : List (Str × Addr)} {items : Array Value} {order : List Str} {its : List Value} {n : Nat} {u v : Str} {tu tv : Tok} (N : IxKey oN x params body scope)
    (ho : s.heap.get? f = some (PySem.W.kla_obj "<lambda>" q params body scope clo pm c' ctv)) (hc : s.heap.CodeRec (.ref c') q) (lim : s.heap.NoLimit) (room : A.depth < recursionLimit) (hu : A.units + 80 < cLine) (hcl : clo.lookup oN = some cc) (hcell : s.heap.IsCell cc (some (.ref O)))
    (hO : s.heap.get? O = some { cls := .type "list", data := .seq its.toArray n }) (hv : Vals (order.map V.str) its) (lo : order.length ≤ 1000) (nm : Nms order) (ht : IsTup s.heap t items) (h0 : items[0]? = some (.str u tu)) (h1 : items[1]? = some (.str v tv)) (mu : u ∈ order) (mv : v ∈ order) :
    wpAny (model P w) A (call (.ref f) [.ref t]) (PySem.W.KeyPure (ipD (rkP order (u, v))) s) (fun _ _ => False) s := by
  obtain ⟨pa, pb, pc, pd, ap, cp, pa', pb', pc', pd', ap', cp', pt, k, k', kt, eb, hl1, hl2⟩ := N.shape
  have bind := N.bind q clo pm (.ref c') ctv (.ref t)
  refine wpAny_call (codeAny_mono (R := fun r s' => ∃ r', r = .ok (.ret r') ∧ PySem.W.KeyPure (ipD (rkP order (u, v))) s r' s') ?_ ?_)
  · refine PySem.W.kla_callFunE room ho rfl N.co N.gen rfl hc ?_
    rw [bind]
    refine wpAny_pure (wpAny_newFunctionEnv N.cell ?_ (fun h₁ hns hsb => ⟨lim.fresh _ hsb, ?_⟩) N.kind)
    · intro y hy
      rw [List.mem_singleton.mp hy]
      exact N.own
    · have kp : ∀ b o, s.heap.get? b = some o → h₁.get? b = some o := fun b o e => hsb.extBut b o (Nat.ne_of_lt (Heap.lt_size e)) (Heap.get?_push_of_some _ e)
      have hcell1 : h₁.IsCell cc (some (.ref O)) := by
        obtain ⟨o, a, b⟩ := hcell
        exact ⟨o, kp _ _ a, b⟩
      have hmx : List.lookup x [(x, Value.ref t)] = some (.ref t) := by simp [List.lookup]
      refine PySem.W.kla_codeExpr ?_
      rw [eb]
      refine wpAny_Tuple_spliced ?_
      refine Calls.spliced_cons ?_
      refine eval_ix (j := 0) N.kind N.free hcl hcell1 N.own hns hmx N.b1 N.b2 N.b3 (kp _ _ hO) hv lo nm (ht.keeps kp) h0 rfl (by decide) mu (by show A.units + _ + 65 < _; omega) hl1 fun tk tk' => ?_
      refine Calls.spliced_cons ?_
      refine eval_ix (j := 1) N.kind N.free hcl hcell1 N.own hns hmx N.b1 N.b2 N.b3 (kp _ _ hO) hv lo nm (ht.keeps kp) h1 rfl (by decide) mv (by show A.units + _ + 65 < _; omega) hl2 fun tk2 tk3 => ?_
      refine Calls.spliced_nil ⟨Nat.le_of_ble_eq_true rfl, ?_⟩
      refine ⟨_, rfl, _, _, rfl, fun b o e => Heap.get?_push_of_some _ (kp _ _ e), ?_⟩
      exact .tuple (Heap.get?_push_size _ rfl) rfl rfl (.cons (as := []) (.int _ _) (.cons (as := []) (.int _ _) .nil))
  · rintro r s' ⟨r', rfl, h⟩
    exact h

theorem eachIs_fst : ∀ {zs : List (V × Tw)} {us : List Value}, Vals (zs.map Prod.fst) us → PySem.W.EachIs (fun u (z : V × Tw) => RelV z.1 u) us zs
  | [], _, h => by
    cases h
    exact .nil
  | z :: r, _, h => by
    cases h with
    | cons a b => exact .cons a (eachIs_fst b)
theorem vals_fst : ∀ {zs : List (V × Tw)} {us : List Value}, PySem.W.EachIs (fun u (z : V × Tw) => RelV z.1 u) us zs → Vals (zs.map Prod.fst) us
  | _, _, .nil => .nil
  | _, _, .cons a b => .cons a (vals_fst b)
theorem ipLe_tr {a b c : Ip} (h : ipLe a b) (k : ipLe b c) : ipLe a c := by
  unfold ipLe at *
  omega
theorem ipLe_to (a b : Ip) : ipLe a b ∨ ipLe b a := by
  unfold ipLe
  omega
/-- sorted(e, key=lambda x: (o.index(x[0]), o.index(x[1]))): the pairs in the order of their places -/
def tSortIx (K : PySem.W.Frag) (T : List (Addr × Str)) (io : Nat) (te : TE) : TE := fun σ H Q => tCons te tNil σ H fun vs H1 => ∃ (a O : Addr) (xs : List V) (ps : List Tw) (order : List Str), vs = [.ref a] ∧ SqL K H1 a xs ∧ TwsV H1 xs ps ∧ σ[io]? = some (some (.ref O)) ∧ H1 O = some (.lst (order.map V.str)) ∧ order.length ≤ 1000 ∧ Nms order ∧ (∀ q ∈ ps, q.1 ∈ order ∧ q.2 ∈ order) ∧ Tabs T H1 ∧
  ∀ (H2 : Hp) (p : Addr) (ys : List V) (rs : List Tw), ExtN H1 H2 → Tabs T H2 → H2 p = none → TwsV (upd H2 p (.lst ys)) ys rs → rs.Perm ps → rs.Pairwise (fun a b => ipLe (rkP order a) (rkP order b)) → Q (.ref p) (upd H2 p (.lst ys))
theorem pe_sortIx {X : Cx} {K : PySem.W.Frag} {k io : Nat} {T : List (Addr × Str)} {c P : Addr} {oN x q : Str} {params : Arguments} {body : Expr} {scope : Scope} {p lpos kpos pos : Pos} {e : Expr} {te : TE} (eK : X.K = K) (hr : Room k X.A) (hg : Gl X "sorted") (hm : X.mg "sorted" = none) (he0 : PE X e te)
    (TB : TabB X.base X.mg c P) (hcode : X.env.code = .ref c) (eq : q = X.env.qual ++ "<lambda>") (hT : (P, q) ∈ T) (hu : ∀ p ∈ T, p.1 = P → p.2 = q) (N : IxKey oN x params body scope) (hN : X.N[io]? = some oN) (hoc : X.env.scope.names.lookup oN = some .cell) (hdef : defaultsOf params X.env = ([], []) := by rfl)
    (hse : starEach [e] X.env = (false, eval e X.env) :: starEach [] X.env := by rfl) (he : backTo pos (starEach [e] X.env) = (false, eval e X.env) :: backTo pos (starEach [] X.env) := by rfl) (hpl : (backTo pos (starEach [e] X.env)).any (·.1) = false := by rfl) :
    PE X (.Call (.Name "sorted" p) [e] [⟨some "key", .Lambda params body scope lpos, kpos⟩] pos) (tSortIx K T io te) := by
  subst eK
  subst eq
  refine ⟨fun pins s σ H Q I h => ?_⟩
  refine wpAny_Call_Name_kw (ld_blt I hg hm (show bootBuiltins "sorted" = some (.builtin "sorted") by decide +kernel) ?_ (by decide) (by decide))
  have ha := pa_cons he0 pa_nil (hs := hse)
  refine PyProof.Rows.callWith_kw (thn (ha.run pos pins s σ H _ I h) fun us s1 h1 => ?_) he hpl (by rfl) (by rfl)
  obtain ⟨vs, H1, I1, r1, a, O, xs, ps, order, rfl, hs, hxs, hio, hO, lo, nm, hps, hTa, kk⟩ := h1
  rw [Vals.ref1 r1]
  have hfree : ∀ y ∈ scope.names, y.2 = .free → ∃ c, X.env.cells.lookup y.1 = some c := fun y hy ey => by
    rw [N.fr y hy ey]
    exact I1.ok.has _ (.inl hoc)
  show wpAny _ _ (evalAll ((do let v ← eval (.Lambda params body scope lpos) X.env; standAt pos; pure v) :: [])) _ _ s1
  refine wpAny_evalAll_cons (wpAny_bind (LamX.lam_make2 I1 TB hcode hT hu hTa hdef hfree fun f c' pm' ctv H2 s2 I2 eN T2 hf hfn hfr hco => wpAny_bind (wpAny_standAt (wpAny_pure (wpAny_evalAll_nil ?_)))))
  have hO2 : H2 O = some (.lst (order.map V.str)) := eN _ _ hO fun _ z => nomatch z
  have hs2 : SqL X.K H2 a xs := by
    rcases hs with (h | ⟨o, h⟩) | h
    · exact .inl (.inl (eN _ _ h fun _ z => nomatch z))
    · exact .inl (.inr ⟨o, eN _ _ h fun _ z => nomatch z⟩)
    · exact .inr h
  have kp12 : Kpt H1 H2 := fun b ys h => eN _ _ h fun _ z => nomatch z
  have hxs2 := hxs.kp kp12
  -- the captured name
  obtain ⟨cc, hcc, hcell⟩ : ∃ cc, (cloFrom X.env.cells scope.names []).lookup oN = some cc ∧ s2.heap.IsCell cc (some (.ref O)) := by
    obtain ⟨m, hn, hl⟩ := I2.loc
    obtain ⟨w', r, q⟩ := hl io oN _ hN hio (.inr (.inl hoc))
    cases r
    rcases q with ⟨k', _⟩ | ⟨_, c3, e', z⟩
    · have k' : X.env.scope.names.lookup oN = some .local := k'
      rw [hoc] at k'
      cases k'
    · have hy : (oN, NameKind.free) ∈ scope.names := PySem.mem_of_lookup N.free
      obtain ⟨c4, h4⟩ := mem_lookup (cloFrom_has (cells := X.env.cells) (acc := []) hy)
      refine ⟨c4, h4, ?_⟩
      have c43 : X.env.cells.lookup oN = some c4 := by
        rcases cloFrom_mem (PySem.mem_of_lookup h4) with hm | ⟨h1, h2⟩
        · cases hm
        · obtain ⟨c1, hc⟩ := hfree _ h1 rfl
          have hc : X.env.cells.lookup oN = some c1 := hc
          have e2 : c4 = c1 := by
            rw [h2, hc] <;> rfl
          rw [e2]
          exact hc
      rw [c43] at e'
      cases e'
      exact z
  obtain ⟨its, rv, hl, hz2⟩ := I2.list hs2
  obtain ⟨zO, itsO, nO, rO, eO⟩ := I2.hok O _ hO2
  obtain ⟨⟨oc, cvs, ct, ec, dc, vc⟩, _, _⟩ := I2.hok c' _ hco
  have un := hr.un
  have dp := hr.dp
  obtain ⟨zs, rfl, rfl, hzs⟩ := hxs2.zip
  rw [List.length_map] at hz2
  refine PySem.W.sorted_key_data (b := false) (bs := zs) (R := fun u (z : V × Tw) => RelV z.1 u) (fun z : V × Tw => ipD (rkP order z.2)) hl.isList (eachIs_fst rv) (PySem.W.AllAlike.of fun _ _ => by simp [ipD, PySem.W.alike, PySem.W.alikeAll])
    (PySem.W.Sortable.tuples fun b => ⟨_, _, rfl⟩) hz2 (fun z _ => ?_) (PyProof.Rows.ksk_s1 _ _) (fun _ => PyProof.Rows.ksk_l1 _ _) (fun _ => PyProof.Rows.ksk_t1 _ _) (fun v z rz mz h tk kp => ?_) fun out c h' tk kp fr hD lo eo => ?_
  · show X.A.units + 2 + 1 < _
    omega
  · obtain ⟨A1, e1, sA⟩ := hzs z mz
    rw [e1] at rz
    cases rz
    obtain ⟨its2, rv2, hl2, _⟩ := I2.tuple (SqT.of sA)
    obtain ⟨m1, m2⟩ := hps z.2 (List.mem_map.mpr ⟨z, mz, rfl⟩)
    obtain ⟨u0, eu0, ru0⟩ := rv2.get (show ([V.str z.2.1, V.str z.2.2] : List V)[0]? = some (.str z.2.1) from rfl)
    obtain ⟨u1, eu1, ru1⟩ := rv2.get (show ([V.str z.2.1, V.str z.2.2] : List V)[1]? = some (.str z.2.2) from rfl)
    obtain ⟨t0, rfl⟩ := ru0
    obtain ⟨t1, rfl⟩ := ru1
    have hcell2 : h.IsCell cc (some (.ref O)) := by
      obtain ⟨o, a, b⟩ := hcell
      exact ⟨o, kp _ _ a, b⟩
    exact ix_key (s := { s2 with heap := h, toks := tk }) (u := z.2.1) (v := z.2.2) N (kp _ _ hf) ⟨c', oc, cvs, ct, rfl, kp _ _ ec, dc, vc⟩ (I2.nolimit.keeps kp) (by show X.A.depth < _; omega) (by show X.A.units + 2 + 80 < _; omega) hcc hcell2 (kp _ _ eO) rO (by assumption) nm (hl2.keeps kp) (by simpa using eu0) (by simpa using eu1) m1 m2
  · have pm2 : (zs.mergeSort (PySem.W.dataLe false fun z : V × Tw => ipD (rkP order z.2))).Perm zs := List.mergeSort_perm _ _
    have so := List.pairwise_mergeSort (le := PySem.W.dataLe false fun z : V × Tw => ipD (rkP order z.2)) (fun a b c h1 h2 => by
        rw [PySem.W.dataLe_eq] at *
        simp only [cond_false, ipLt, Bool.not_not, decide_eq_true_eq] at *
        exact ipLe_tr h1 h2) (fun a b => by
        rw [PySem.W.dataLe_eq]
        simp only [cond_false, ipLt, Bool.not_not, Bool.or_eq_true, decide_eq_true_eq]
        exact ipLe_to _ _) zs
    generalize zs.mergeSort (PySem.W.dataLe false fun z : V × Tw => ipD (rkP order z.2)) = zs' at pm2 so eo
    have so : zs'.Pairwise (fun a b => ipLe (rkP order a.2) (rkP order b.2)) := so.imp fun {a b} h => by
      rw [PySem.W.dataLe_eq] at h
      simpa only [cond_false, ipLt, Bool.not_not, decide_eq_true_eq] using h
    have nf := I2.hok.fresh (Nat.le_succ s2.heap.objs.size)
    refine ⟨.ref _, upd H2 (s2.heap.objs.size + 1) (.lst (zs'.map Prod.fst)), I2.laid (t' := tk) kp (Nat.le_succ _) ⟨?_, out, c, vals_fst eo, hD⟩, rfl, kk H2 _ _ (zs'.map Prod.snd) eN T2 nf ?_ (pm2.map Prod.snd) ?_⟩
    · rw [List.length_map, pm2.length_eq]
      exact hz2
    · exact (TwsV.of fun z mz => hzs z (pm2.mem_iff.mp mz)).kp (Same.kpt (grow nf))
    · exact List.pairwise_map.mpr so
end Fb

set_option Elab.async false
set_option linter.all false
set_option maxRecDepth 100000
set_option maxHeartbeats 4000000
namespace Fb
open PySem PySem.Spec L2
open PyProof.Rows hiding St
open C8 (Cal Met Mak Def cal0 met0 mak0 pe_c pe_mk pe_mt pe_mt0 fnScope fnBody fnArgs pss_cut tCut)
/-! ### the text by places -/
def topS (i : Nat) : Stmt := PySem.Challenge.pw_feeblind_k36_whole_least_plans.main.body.getD i (.Pass ⟨0, 0, 0, 0⟩)
abbrev s_is_name : Stmt := topS 14
theorem sc_is_name : FnScope ["value", "letter"] ["value"] (fnScope s_is_name) := ⟨rfl, rfl, rfl, by decide +kernel, rfl, by decide +kernel, by decide +kernel⟩
abbrev s_check_different : Stmt := topS 16
theorem sc_check_different : FnScope ["names", "name", "ahead"] ["names"] (fnScope s_check_different) := ⟨rfl, rfl, rfl, by decide +kernel, rfl, by decide +kernel, by decide +kernel⟩
abbrev s_is_pair : Stmt := topS 17
theorem sc_is_pair : FnScope ["value", "known", "source", "target"] ["value", "known"] (fnScope s_is_pair) := ⟨rfl, rfl, rfl, by decide +kernel, rfl, by decide +kernel, by decide +kernel⟩
abbrev s_sides : Stmt := topS 18
theorem sc_sides : FnScope ["value"] ["value"] (fnScope s_sides) := ⟨rfl, rfl, rfl, by decide +kernel, rfl, by decide +kernel, by decide +kernel⟩
abbrev s_traced : Stmt := topS 20
theorem sc_traced : FnScope ["came", "road", "way"] ["came", "road"] (fnScope s_traced) := ⟨rfl, rfl, rfl, by decide +kernel, rfl, by decide +kernel, by decide +kernel⟩
abbrev s_stepped : Stmt := topS 21
theorem sc_stepped : FnScope ["shape", "present", "came", "allowed", "reached", "road", "step"] ["shape", "present", "came", "allowed"] (fnScope s_stepped) := ⟨rfl, rfl, rfl, by decide +kernel, rfl, by decide +kernel, by decide +kernel⟩
abbrev s_way_by : Stmt := topS 22
theorem sc_way_by : FnScope ["shape", "source", "target", "inner", "allowed", "came", "present", "road"] ["shape", "source", "target", "inner"] (fnScope s_way_by) := ⟨rfl, rfl, rfl, by decide +kernel, rfl, by decide +kernel, by decide +kernel⟩
abbrev s_check_places : Stmt := topS 26
theorem sc_check_places : FnScope ["order", "ahead", "road"] ["order"] (fnScope s_check_places) := ⟨rfl, rfl, rfl, by decide +kernel, rfl, by decide +kernel, by decide +kernel⟩
abbrev s_check_order : Stmt := topS 29
theorem sc_check_order : FnScope ["shape", "order", "ahead", "road"] ["shape", "order"] (fnScope s_check_order) := ⟨rfl, rfl, rfl, by decide +kernel, rfl, by decide +kernel, by decide +kernel⟩
abbrev s_check_roads : Stmt := topS 30
theorem sc_check_roads : FnScope ["shape", "plan", "order", "known", "lone", "road"] ["shape", "plan"] (fnScope s_check_roads) := ⟨rfl, rfl, rfl, by decide +kernel, rfl, by decide +kernel, by decide +kernel⟩
abbrev s_low_pairs : Stmt := topS 32
theorem sc_low_pairs : FnScope ["shape", "order", "links", "road"] ["shape", "order"] (fnScope s_low_pairs) := ⟨rfl, rfl, rfl, by decide +kernel, rfl, by decide +kernel, by decide +kernel⟩
abbrev s_plan_of : Stmt := topS 33
theorem sc_plan_of : FnScope ["shape", "order", "spare"] ["shape", "order", "spare"] (fnScope s_plan_of) := ⟨rfl, rfl, rfl, by decide +kernel, rfl, by decide +kernel, by decide +kernel⟩
abbrev s_low_way : Stmt := topS 38
theorem sc_low_way : FnScope ["shape", "plan", "source", "target", "inner", "road"] ["shape", "plan", "source", "target"] (fnScope s_low_way) := ⟨rfl, rfl, rfl, by decide +kernel, rfl, by decide +kernel, by decide +kernel⟩
abbrev s_judge_plan : Stmt := topS 39
theorem sc_judge_plan : FnScope ["shape", "plan", "order", "needed", "lacking", "source", "target", "rank"] ["shape", "plan"] (fnScope s_judge_plan) := ⟨rfl, rfl, rfl, by decide +kernel, rfl, by decide +kernel, by decide +kernel⟩
abbrev s__law_bag : Stmt := topS 41
theorem sc__law_bag : FnScope ["script", "seed", "cell"] ["script"] (fnScope s__law_bag) := ⟨rfl, rfl, rfl, by decide +kernel, rfl, by decide +kernel, by decide +kernel⟩
abbrev s__law_draw : Stmt := topS 42
theorem sc__law_draw : FnScope ["bag", "many", "seed", "cell", "digit"] ["bag", "many"] (fnScope s__law_draw) := ⟨rfl, rfl, rfl, by decide +kernel, rfl, by decide +kernel, by decide +kernel⟩
abbrev s__law_of : Stmt := topS 43
theorem sc__law_of : FnScope ["bag", "things"] ["bag", "things"] (fnScope s__law_of) := ⟨rfl, rfl, rfl, by decide +kernel, rfl, by decide +kernel, by decide +kernel⟩
abbrev s__law_mixed : Stmt := topS 44
theorem sc__law_mixed : FnScope ["bag", "things", "found", "thing"] ["bag", "things"] (fnScope s__law_mixed) := ⟨rfl, rfl, rfl, by decide +kernel, rfl, by decide +kernel, by decide +kernel⟩
abbrev s__law_names : Stmt := topS 45
theorem sc__law_names : FnScope ["bag", "many", "signs", "found", "k", "name", "start", "step", "j", "other", "sign"] ["bag", "many"] (fnScope s__law_names) := ⟨rfl, rfl, rfl, by decide +kernel, rfl, by decide +kernel, by decide +kernel⟩
abbrev s__law_web : Stmt := topS 46
theorem sc__law_web : FnScope ["bag", "most", "k", "many", "way", "roads", "turns", "pair"] ["bag", "most"] (fnScope s__law_web) := ⟨rfl, rfl, rfl, by decide +kernel, rfl, by decide +kernel, by decide +kernel⟩
abbrev s__law_figure : Stmt := topS 47
theorem sc__law_figure : FnScope ["bag", "web", "turns"] ["bag", "web"] (fnScope s__law_figure) := ⟨rfl, rfl, rfl, by decide +kernel, rfl, by decide +kernel, by decide +kernel⟩
abbrev s__law_reached : Stmt := topS 48
theorem sc__law_reached : FnScope ["order", "turns", "one", "other", "least", "known", "k", "fresh", "begun", "behind"] ["order", "turns", "one", "other"] (fnScope s__law_reached) := ⟨rfl, rfl, rfl, by decide +kernel, rfl, by decide +kernel, by decide +kernel⟩
abbrev s__law_low : Stmt := topS 49
theorem sc__law_low : FnScope ["order", "turns", "found", "one", "other"] ["order", "turns"] (fnScope s__law_low) := ⟨rfl, rfl, rfl, by decide +kernel, rfl, by decide +kernel, by decide +kernel⟩
abbrev s__law_order : Stmt := topS 50
theorem sc__law_order : FnScope ["bag", "roads"] ["bag", "roads"] (fnScope s__law_order) := ⟨rfl, rfl, rfl, by decide +kernel, rfl, by decide +kernel, by decide +kernel⟩
abbrev s__law_spare : Stmt := topS 51
theorem sc__law_spare : FnScope ["bag", "order", "low", "found", "k", "pair"] ["bag", "order", "low"] (fnScope s__law_spare) := ⟨rfl, rfl, rfl, by decide +kernel, rfl, by decide +kernel, by decide +kernel⟩
abbrev s__law_same : Stmt := topS 52
theorem sc__law_same : FnScope ["found", "due", "key", "one", "other"] ["found", "due"] (fnScope s__law_same) := ⟨rfl, rfl, rfl, by decide +kernel, rfl, by decide +kernel, by decide +kernel⟩
abbrev s__law_closed : Stmt := topS 53
theorem sc__law_closed : FnScope ["order", "pairs", "one", "middle", "also", "other", "lower"] ["order", "pairs"] (fnScope s__law_closed) := ⟨rfl, rfl, rfl, by decide +kernel, rfl, by decide +kernel, by decide +kernel⟩
abbrev s__law_refused_at : Stmt := topS 54
theorem sc__law_refused_at : FnScope ["figure", "order", "pairs", "pair", "found"] ["figure", "order", "pairs", "pair"] (fnScope s__law_refused_at) := ⟨rfl, rfl, rfl, by decide +kernel, rfl, by decide +kernel, by decide +kernel⟩
abbrev s_Shape___init__ : Stmt := inClass (topS 19) 0
theorem sc_Shape___init__ : FnScope ["self", "roads", "turns", "turn", "source", "target", "road"] ["self", "roads", "turns"] (fnScope s_Shape___init__) := ⟨rfl, rfl, rfl, by decide +kernel, rfl, by decide +kernel, by decide +kernel⟩
abbrev s_Shape_roads : Stmt := inClass (topS 19) 1
theorem sc_Shape_roads : FnScope ["self"] ["self"] (fnScope s_Shape_roads) := ⟨rfl, rfl, rfl, by decide +kernel, rfl, by decide +kernel, by decide +kernel⟩
abbrev s_Shape_turns : Stmt := inClass (topS 19) 2
theorem sc_Shape_turns : FnScope ["self"] ["self"] (fnScope s_Shape_turns) := ⟨rfl, rfl, rfl, by decide +kernel, rfl, by decide +kernel, by decide +kernel⟩
abbrev s_Shape_following : Stmt := inClass (topS 19) 3
theorem sc_Shape_following : FnScope ["self", "road"] ["self", "road"] (fnScope s_Shape_following) := ⟨rfl, rfl, rfl, by decide +kernel, rfl, by decide +kernel, by decide +kernel⟩
abbrev s_Shape___contains__ : Stmt := inClass (topS 19) 7
theorem sc_Shape___contains__ : FnScope ["self", "name"] ["self", "name"] (fnScope s_Shape___contains__) := ⟨rfl, rfl, rfl, by decide +kernel, rfl, by decide +kernel, by decide +kernel⟩
abbrev s_Plan___init__ : Stmt := inClass (topS 28) 0
theorem sc_Plan___init__ : FnScope ["self", "order", "pairs", "pair", "at", "road", "source", "target"] ["self", "order", "pairs"] (fnScope s_Plan___init__) := ⟨rfl, rfl, rfl, by decide +kernel, rfl, by decide +kernel, by decide +kernel⟩
abbrev s_Plan_order : Stmt := inClass (topS 28) 1
theorem sc_Plan_order : FnScope ["self"] ["self"] (fnScope s_Plan_order) := ⟨rfl, rfl, rfl, by decide +kernel, rfl, by decide +kernel, by decide +kernel⟩
abbrev s_Plan_rank : Stmt := inClass (topS 28) 2
theorem sc_Plan_rank : FnScope ["self", "road"] ["self", "road"] (fnScope s_Plan_rank) := ⟨rfl, rfl, rfl, by decide +kernel, rfl, by decide +kernel, by decide +kernel⟩
abbrev s_Plan_pairs : Stmt := inClass (topS 28) 3
theorem sc_Plan_pairs : FnScope ["self"] ["self"] (fnScope s_Plan_pairs) := ⟨rfl, rfl, rfl, by decide +kernel, rfl, by decide +kernel, by decide +kernel⟩
abbrev s_Plan_is_lower : Stmt := inClass (topS 28) 4
theorem sc_Plan_is_lower : FnScope ["self", "one", "other"] ["self", "one", "other"] (fnScope s_Plan_is_lower) := ⟨rfl, rfl, rfl, by decide +kernel, rfl, by decide +kernel, by decide +kernel⟩
abbrev s_Plan___contains__ : Stmt := inClass (topS 28) 8
theorem sc_Plan___contains__ : FnScope ["self", "pair"] ["self", "pair"] (fnScope s_Plan___contains__) := ⟨rfl, rfl, rfl, by decide +kernel, rfl, by decide +kernel, by decide +kernel⟩
abbrev s_Plan___len__ : Stmt := inClass (topS 28) 9
theorem sc_Plan___len__ : FnScope ["self"] ["self"] (fnScope s_Plan___len__) := ⟨rfl, rfl, rfl, by decide +kernel, rfl, by decide +kernel, by decide +kernel⟩
abbrev s_Links___init__ : Stmt := inClass (topS 31) 0
theorem sc_Links___init__ : FnScope ["self", "shape", "source", "target", "road"] ["self", "shape"] (fnScope s_Links___init__) := ⟨rfl, rfl, rfl, by decide +kernel, rfl, by decide +kernel, by decide +kernel⟩
abbrev s_Links_link : Stmt := inClass (topS 31) 1
theorem sc_Links_link : FnScope ["self", "source", "target"] ["self", "source", "target"] (fnScope s_Links_link) := ⟨rfl, rfl, rfl, by decide +kernel, rfl, by decide +kernel, by decide +kernel⟩
abbrev s_Links_settle : Stmt := inClass (topS 31) 2
theorem sc_Links_settle : FnScope ["self", "road", "sources", "targets", "source", "target"] ["self", "road"] (fnScope s_Links_settle) := ⟨rfl, rfl, rfl, by decide +kernel, rfl, by decide +kernel, by decide +kernel⟩
abbrev s_PlanTaken___init__ : Stmt := inClass (topS 35) 0
theorem sc_PlanTaken___init__ : FnScope ["self", "needed", "spare"] ["self", "needed", "spare"] (fnScope s_PlanTaken___init__) := ⟨rfl, rfl, rfl, by decide +kernel, rfl, by decide +kernel, by decide +kernel⟩
abbrev s_PlanTaken___eq__ : Stmt := inClass (topS 35) 1
theorem sc_PlanTaken___eq__ : FnScope ["self", "other"] ["self", "other"] (fnScope s_PlanTaken___eq__) := ⟨rfl, rfl, rfl, by decide +kernel, rfl, by decide +kernel, by decide +kernel⟩
abbrev s_PlanRefused___init__ : Stmt := inClass (topS 36) 0
theorem sc_PlanRefused___init__ : FnScope ["self", "source", "target", "way"] ["self", "source", "target", "way"] (fnScope s_PlanRefused___init__) := ⟨rfl, rfl, rfl, by decide +kernel, rfl, by decide +kernel, by decide +kernel⟩
abbrev s_law : Stmt := topS 55
theorem sc_law : FnScope ["script", "bag", "web", "low", "idle", "found", "handed", "pair", "figure", "order", "first", "wide", "left", "ranked", "at", "later", "other"] ["script"] (fnScope s_law) := ⟨rfl, rfl, rfl, by decide +kernel, rfl, by decide +kernel, by decide +kernel⟩
structure Top (K : PySem.W.Frag) (mg : Str → Option Value) (C_Shape C_Plan C_Links C_PlanTaken C_PlanRefused A_plan_of : Addr) : Prop where
  cl_Shape : Cls K C_Shape
  g_Shape : mg "Shape" = some (.ref C_Shape)
  na_Shape__following : NoAttr K C_Shape "_following"
  na_Shape__turns : NoAttr K C_Shape "_turns"
  na_Shape__leading : NoAttr K C_Shape "_leading"
  cl_Plan : Cls K C_Plan
  g_Plan : mg "Plan" = some (.ref C_Plan)
  na_Plan__ranks : NoAttr K C_Plan "_ranks"
  na_Plan__pairs : NoAttr K C_Plan "_pairs"
  cl_Links : Cls K C_Links
  g_Links : mg "Links" = some (.ref C_Links)
  na_Links_ins : NoAttr K C_Links "ins"
  na_Links_outs : NoAttr K C_Links "outs"
  na_Links_found : NoAttr K C_Links "found"
  cl_PlanTaken : Cls K C_PlanTaken
  g_PlanTaken : mg "PlanTaken" = some (.ref C_PlanTaken)
  na_PlanTaken_taken : NoAttr K C_PlanTaken "taken"
  na_PlanTaken_needed : NoAttr K C_PlanTaken "needed"
  na_PlanTaken_spare : NoAttr K C_PlanTaken "spare"
  ins_PlanTaken : C8.InsC K C_PlanTaken
  ne_PlanTaken : PySem.W.findIn K (.ref C_PlanTaken) "__ne__" = some (some (.builtin "object.__ne__"))
  cl_PlanRefused : Cls K C_PlanRefused
  g_PlanRefused : mg "PlanRefused" = some (.ref C_PlanRefused)
  na_PlanRefused_taken : NoAttr K C_PlanRefused "taken"
  na_PlanRefused_source : NoAttr K C_PlanRefused "source"
  na_PlanRefused_target : NoAttr K C_PlanRefused "target"
  na_PlanRefused_way : NoAttr K C_PlanRefused "way"
  ins_PlanRefused : C8.InsC K C_PlanRefused
  d_is_name : ∃ (f : Addr) (fd : FuncData), Def K mg "is_name" s_is_name f fd ∧ fd.defaults = .none
  d_check_different : ∃ (f : Addr) (fd : FuncData), Def K mg "check_different" s_check_different f fd ∧ fd.defaults = .none
  d_is_pair : ∃ (f : Addr) (fd : FuncData), Def K mg "is_pair" s_is_pair f fd ∧ fd.defaults = .none
  d_sides : ∃ (f : Addr) (fd : FuncData), Def K mg "sides" s_sides f fd ∧ fd.defaults = .none
  d_traced : ∃ (f : Addr) (fd : FuncData), Def K mg "traced" s_traced f fd ∧ fd.defaults = .none
  d_stepped : ∃ (f : Addr) (fd : FuncData), Def K mg "stepped" s_stepped f fd ∧ fd.defaults = .none
  d_way_by : ∃ (f : Addr) (fd : FuncData), Def K mg "way_by" s_way_by f fd ∧ fd.defaults = .none
  d_check_places : ∃ (f : Addr) (fd : FuncData), Def K mg "check_places" s_check_places f fd ∧ fd.defaults = .none
  d_check_order : ∃ (f : Addr) (fd : FuncData), Def K mg "check_order" s_check_order f fd ∧ fd.defaults = .none
  d_check_roads : ∃ (f : Addr) (fd : FuncData), Def K mg "check_roads" s_check_roads f fd ∧ fd.defaults = .none
  d_low_pairs : ∃ (f : Addr) (fd : FuncData), Def K mg "low_pairs" s_low_pairs f fd ∧ fd.defaults = .none
  d_plan_of : ∃ (f : Addr) (fd : FuncData), Def K mg "plan_of" s_plan_of f fd ∧ fd.defaults = .none
  d_low_way : ∃ (f : Addr) (fd : FuncData), Def K mg "low_way" s_low_way f fd ∧ fd.defaults = .none
  d_judge_plan : ∃ (f : Addr) (fd : FuncData), Def K mg "judge_plan" s_judge_plan f fd ∧ fd.defaults = .none
  d__law_bag : ∃ (f : Addr) (fd : FuncData), Def K mg "_law_bag" s__law_bag f fd ∧ fd.defaults = .none
  d__law_draw : ∃ (f : Addr) (fd : FuncData), Def K mg "_law_draw" s__law_draw f fd ∧ fd.defaults = .none
  d__law_of : ∃ (f : Addr) (fd : FuncData), Def K mg "_law_of" s__law_of f fd ∧ fd.defaults = .none
  d__law_mixed : ∃ (f : Addr) (fd : FuncData), Def K mg "_law_mixed" s__law_mixed f fd ∧ fd.defaults = .none
  d__law_names : ∃ (f : Addr) (fd : FuncData), Def K mg "_law_names" s__law_names f fd ∧ fd.defaults = .none
  d__law_web : ∃ (f : Addr) (fd : FuncData), Def K mg "_law_web" s__law_web f fd ∧ fd.defaults = .none
  d__law_figure : ∃ (f : Addr) (fd : FuncData), Def K mg "_law_figure" s__law_figure f fd ∧ fd.defaults = .none
  d__law_reached : ∃ (f : Addr) (fd : FuncData), Def K mg "_law_reached" s__law_reached f fd ∧ fd.defaults = .none
  d__law_low : ∃ (f : Addr) (fd : FuncData), Def K mg "_law_low" s__law_low f fd ∧ fd.defaults = .none
  d__law_order : ∃ (f : Addr) (fd : FuncData), Def K mg "_law_order" s__law_order f fd ∧ fd.defaults = .none
  d__law_spare : ∃ (f : Addr) (fd : FuncData), Def K mg "_law_spare" s__law_spare f fd ∧ fd.defaults = .none
  d__law_same : ∃ (f : Addr) (fd : FuncData), Def K mg "_law_same" s__law_same f fd ∧ fd.defaults = .none
  d__law_closed : ∃ (f : Addr) (fd : FuncData), Def K mg "_law_closed" s__law_closed f fd ∧ fd.defaults = .none
  d__law_refused_at : ∃ (f : Addr) (fd : FuncData), Def K mg "_law_refused_at" s__law_refused_at f fd ∧ fd.defaults = .none
  d_Shape___init__ : ∃ (f : Addr) (fd : FuncData), Mk K C_Shape f ∧ C8.Fun K "__init__" "Shape.__init__" s_Shape___init__ f fd ∧ fd.defaults = .none
  d_Shape_roads : ∃ (f : Addr) (fd : FuncData), Meth K C_Shape "roads" f ∧ C8.Fun K "roads" "Shape.roads" s_Shape_roads f fd ∧ fd.defaults = .none
  d_Shape_turns : ∃ (f : Addr) (fd : FuncData), Meth K C_Shape "turns" f ∧ C8.Fun K "turns" "Shape.turns" s_Shape_turns f fd ∧ fd.defaults = .none
  d_Shape_following : ∃ (f : Addr) (fd : FuncData), Meth K C_Shape "following" f ∧ C8.Fun K "following" "Shape.following" s_Shape_following f fd ∧ fd.defaults = .none
  d_Shape___contains__ : ∃ (f : Addr) (fd : FuncData), Meth K C_Shape "__contains__" f ∧ C8.Fun K "__contains__" "Shape.__contains__" s_Shape___contains__ f fd ∧ fd.defaults = .none
  d_Plan___init__ : ∃ (f : Addr) (fd : FuncData), Mk K C_Plan f ∧ C8.Fun K "__init__" "Plan.__init__" s_Plan___init__ f fd ∧ fd.defaults = .none
  d_Plan_order : ∃ (f : Addr) (fd : FuncData), Meth K C_Plan "order" f ∧ C8.Fun K "order" "Plan.order" s_Plan_order f fd ∧ fd.defaults = .none
  d_Plan_rank : ∃ (f : Addr) (fd : FuncData), Meth K C_Plan "rank" f ∧ C8.Fun K "rank" "Plan.rank" s_Plan_rank f fd ∧ fd.defaults = .none
  d_Plan_pairs : ∃ (f : Addr) (fd : FuncData), Meth K C_Plan "pairs" f ∧ C8.Fun K "pairs" "Plan.pairs" s_Plan_pairs f fd ∧ fd.defaults = .none
  d_Plan_is_lower : ∃ (f : Addr) (fd : FuncData), Meth K C_Plan "is_lower" f ∧ C8.Fun K "is_lower" "Plan.is_lower" s_Plan_is_lower f fd ∧ fd.defaults = .none
  d_Plan___contains__ : ∃ (f : Addr) (fd : FuncData), Meth K C_Plan "__contains__" f ∧ C8.Fun K "__contains__" "Plan.__contains__" s_Plan___contains__ f fd ∧ fd.defaults = .none
  d_Plan___len__ : ∃ (f : Addr) (fd : FuncData), Meth K C_Plan "__len__" f ∧ C8.Fun K "__len__" "Plan.__len__" s_Plan___len__ f fd ∧ fd.defaults = .none
  d_Links___init__ : ∃ (f : Addr) (fd : FuncData), Mk K C_Links f ∧ C8.Fun K "__init__" "Links.__init__" s_Links___init__ f fd ∧ fd.defaults = .none
  d_Links_link : ∃ (f : Addr) (fd : FuncData), Meth K C_Links "link" f ∧ C8.Fun K "link" "Links.link" s_Links_link f fd ∧ fd.defaults = .none
  d_Links_settle : ∃ (f : Addr) (fd : FuncData), Meth K C_Links "settle" f ∧ C8.Fun K "settle" "Links.settle" s_Links_settle f fd ∧ fd.defaults = .none
  d_PlanTaken___init__ : ∃ (f : Addr) (fd : FuncData), Mk K C_PlanTaken f ∧ C8.Fun K "__init__" "PlanTaken.__init__" s_PlanTaken___init__ f fd ∧ fd.defaults = .none
  d_PlanTaken___eq__ : ∃ (f : Addr) (fd : FuncData), Meth K C_PlanTaken "__eq__" f ∧ C8.Fun K "__eq__" "PlanTaken.__eq__" s_PlanTaken___eq__ f fd ∧ fd.defaults = .none
  d_PlanRefused___init__ : ∃ (f : Addr) (fd : FuncData), Mk K C_PlanRefused f ∧ C8.Fun K "__init__" "PlanRefused.__init__" s_PlanRefused___init__ f fd ∧ fd.defaults = .none
  d_law : ∃ (f : Addr) (fd : FuncData), Def K mg "law" s_law f fd ∧ fd.defaults = .none
  kd_plan_of : ∃ (f : Addr) (fd : FuncData), Def K mg "plan_of" s_plan_of f fd ∧ FunD K "plan_of" "plan_of" (fnArgs s_plan_of) (fnBody s_plan_of) (fnScope s_plan_of) [] [("spare", .ref A_plan_of)] f fd
  e_plan_of : ∀ H, SqT K H A_plan_of []
  all : mg "all" = none
  any : mg "any" = none
  bool : mg "bool" = none
  dict : mg "dict" = none
  enumerate : mg "enumerate" = none
  int : mg "int" = none
  isinstance : mg "isinstance" = none
  len : mg "len" = none
  list : mg "list" = none
  min : mg "min" = none
  range : mg "range" = none
  sorted : mg "sorted" = none
  str : mg "str" = none
  tuple : mg "tuple" = none
  zip : mg "zip" = none
  m_LETTERS : ∃ u, mg "LETTERS" = some u ∧ RelV (.int 8) u
end Fb

set_option Elab.async false
set_option linter.all false
set_option maxRecDepth 100000
set_option maxHeartbeats 4000000
namespace Fb
open PySem PySem.Spec L2
open PyProof.Rows hiding St
open C8 (Cal Met Mak Def cal0 met0 mak0 pe_c pe_mk pe_mt pe_mt0 fnScope fnBody fnArgs pss_cut tCut)
local macro_rules | `(tactic| walk_at "hp") => `(tactic| first | exact upd_same | assumption | (refine grow (by assumption) _ _ ?_; walk_at "hp") | (refine (show Same _ _ by assumption) _ _ ?_; walk_at "hp"))
local macro_rules | `(tactic| walk_at "sm") => `(tactic| first | exact Same.refl _ | assumption | (refine Same.trans ?_ (grow (by assumption)); walk_at "sm") | (refine Same.trans ?_ (show Same _ _ by assumption); walk_at "sm"))
section
variable {P : Program} {w : World} {K : PySem.W.Frag} {mg : Str → Option Value} {base : Heap}
variable {C_Shape C_Plan C_Links C_PlanTaken C_PlanRefused A_plan_of : Addr}
/-! ### PlanTaken.__eq__ -/
def spTakEq (C : Addr) : Sp := sp2 fun a b H Q => ∃ (x y : Addr) (n m n' m' : Int), a = .ref x ∧ b = .ref y ∧ TakAt C H x n m ∧ TakAt C H y n' m' ∧ Q (.bl (decide (n = n' ∧ m = m'))) H
theorem c_PlanTaken___eq__ (T : Top K mg C_Shape C_Plan C_Links C_PlanTaken C_PlanRefused A_plan_of) : Met P w K mg base 1 C_PlanTaken "__eq__" (spTakEq C_PlanTaken) [] := by
  obtain ⟨f, fd, me, F, df⟩ := T.d_PlanTaken___eq__
  refine ⟨f, fd, ["self", "other"], [], T.cl_PlanTaken, me, ?_, F.binds df fun _ _ _ _ _ _ us hl => match us, hl with | [_, _], _ => rfl, .nil⟩
  refine fm2 F sc_PlanTaken___eq__ fun cdv A outer s H a b Q E hr h => ?_
  have nd := sc_PlanTaken___eq__.nd
  obtain ⟨x, y, n, m, n', m', rfl, rfl, ⟨dx, hx⟩, ⟨dy, hy⟩, k⟩ := h
  refine ⟨_, (pss_one 
      (ps_ret (pe_and (pe_callB (C8.call_isC T.ins_PlanTaken) (by rfl) T.isinstance (by decide +kernel) (pa_cons (pv 1) (pa_cons (C8.pe_gc (v := .ref C_PlanTaken) (by rfl) ⟨_, T.g_PlanTaken, rfl⟩) pa_nil))) (pe_and (pe_cmpR (eq_K (K := K) rfl hr) (pe_fld (pv 0) rfl) (pe_fld (pv 1) rfl) (nomark _)) (pe_one (pe_cmpR (eq_K (K := K) rfl hr) (pe_fld (pv 0) rfl) (pe_fld (pv 1) rfl) (nomark _))))))), ?_⟩
  refine ⟨_, rfl, ⟨y, dy, _, rfl, hy, ?_⟩⟩
  refine ⟨_, rfl, ?_⟩
  refine ⟨_, rfl, x, C_PlanTaken, dx, _, _, rfl, hx, T.cl_PlanTaken, T.na_PlanTaken_needed, tkF_n, ?_⟩
  refine ⟨_, rfl, y, C_PlanTaken, dy, _, _, rfl, hy, T.cl_PlanTaken, T.na_PlanTaken_needed, tkF_n, ?_⟩
  refine .inl ⟨rfl, ?_⟩
  by_cases c : n = n'
  · rw [show decide (V.int n = V.int n') = true by simp [c]]
    refine ⟨_, rfl, ?_⟩
    refine ⟨_, rfl, x, C_PlanTaken, dx, _, _, rfl, hx, T.cl_PlanTaken, T.na_PlanTaken_spare, tkF_s, ?_⟩
    refine ⟨_, rfl, y, C_PlanTaken, dy, _, _, rfl, hy, T.cl_PlanTaken, T.na_PlanTaken_spare, tkF_s, ?_⟩
    refine .inl ⟨rfl, ?_⟩
    rw [show decide (V.int m = V.int m') = decide (n = n' ∧ m = m') by simp [c]]
    exact k
  · rw [show decide (V.int n = V.int n') = false by simp [c]]
    rw [show decide (n = n' ∧ m = m') = false by simp [c]] at k
    exact ⟨_, rfl, k⟩

end
end Fb

set_option Elab.async false
set_option linter.all false
set_option maxRecDepth 100000
set_option maxHeartbeats 4000000
namespace Fb
open PySem PySem.Spec L2
open PyProof.Rows hiding St
open C8 (Cal Met Mak Def cal0 met0 mak0 pe_c pe_mk pe_mt pe_mt0 fnScope fnBody fnArgs pss_cut tCut)
local macro_rules | `(tactic| walk_at "hp") => `(tactic| first | exact upd_same | assumption | (refine grow (by assumption) _ _ ?_; walk_at "hp") | (refine (show Same _ _ by assumption) _ _ ?_; walk_at "hp"))
local macro_rules | `(tactic| walk_at "sm") => `(tactic| first | exact Same.refl _ | assumption | (refine Same.trans ?_ (grow (by assumption)); walk_at "sm") | (refine Same.trans ?_ (show Same _ _ by assumption); walk_at "sm"))
section
variable {P : Program} {w : World} {K : PySem.W.Frag} {mg : Str → Option Value} {base : Heap}
variable {C_Shape C_Plan C_Links C_PlanTaken C_PlanRefused A_plan_of : Addr}
/-! ### _law_bag -/
theorem cut_ints (ns : List Int) (lo hi : Option Int) : ∃ ms : List Int, cutV (ns.map V.int) lo hi = ms.map V.int := by
  unfold cutV
  rw [← List.map_drop, ← List.map_take]
  exact ⟨_, rfl⟩
def spBag (K : PySem.W.Frag) : Sp := sp1 fun a H Q => ∃ (l : Addr) (ns : List Int), a = .ref l ∧ SqL K H l (ns.map V.int) ∧ ∀ p H', Same H H' → BagAt H' p → Q (.ref p) H'
theorem c__law_bag (T : Top K mg C_Shape C_Plan C_Links C_PlanTaken C_PlanRefused A_plan_of) : Cal P w K mg base 1 "_law_bag" (spBag K) [] := by
  obtain ⟨f, fd, F, df⟩ := T.d__law_bag
  refine cal_of F df (fn1 F sc__law_bag fun cdv A outer s H a Q E hr h => ?_) fun _ _ _ _ _ _ us hl => match us, hl with | [_], _ => rfl
  have nd := sc__law_bag.nd
  obtain ⟨l, ns, rfl, hs, k⟩ := h
  refine ⟨_, pss_bagNew (pss_cons 
      (ps_set (i := 1) nd rfl (Or.inl rfl) pe_int) (pss_cons 
      (ps_for PassesOwn.never rfl (pi_K (K := K) rfl (pe_slice (sl_K (K := K) rfl) (pv 0) po_none (po_some pe_int))) (pg_name (i := 2) nd rfl (Or.inl rfl)) (pss_one 
      (ps_set (i := 1) nd rfl (Or.inl rfl) (pe_op op_mod (pe_callTy call_int1 (by rfl) T.int (by decide +kernel) (pa_cons (pe_op op_addU (pe_op op_addU (pe_op op_mul (pv 1) pe_int) (pe_op op_mod (pe_callTy call_int1 (by rfl) T.int (by decide +kernel) (pa_cons (pv 2) pa_nil)) pe_int)) pe_int) pa_nil)) pe_int)))) (pss_one 
      (ps_ret (pe_lst (pa_cons (pe_callTy (listOf_K (K := K) rfl) (by rfl) T.list (by decide +kernel) (pa_cons (pe_slice (sl_K (K := K) rfl) (pv 0) po_none (po_some pe_int)) pa_nil)) (pa_cons pe_int (pa_cons pe_int (pa_cons (pv 1) (pa_cons pe_int pa_nil)))))))))), ?_⟩
  -- for lump in script[:63]
  refine ⟨_, rfl, _, rfl, .inl ⟨l, _, rfl, hs, fun c nc => .inl ⟨c, rfl, ⟨_, SqL.of upd_same⟩, ?_⟩⟩⟩
  obtain ⟨ms, em⟩ := cut_ints ns none (some 63)
  rw [em]
  refine for_it (walk_list (xs := ms.map V.int)) (fun i σ H' => H' = upd H c (.lst (ms.map V.int)) ∧ ∃ (st : Int) (y : Option V), σ = [some (.ref l), some (.int st), y] ∧ 0 ≤ st ∧ st < 2147483629) ⟨rfl, _, _, rfl, by decide, by decide⟩ ?_ ?_ ?_
  · rintro i σ H' _ ⟨rfl, _⟩
    exact SqL.of upd_same
  · rintro i x σ H1 H2 hi ⟨rfl, st, y, rfl, s0, s1⟩ ⟨rfl, hx⟩
    obtain ⟨z, rfl⟩ : ∃ z, x = V.int z := by
      rw [List.getElem?_map] at hx
      cases e : ms[i]? with
      | none =>
        rw [e] at hx
        cases hx
      | some z =>
        rw [e] at hx
        exact ⟨z, (Option.some.inj hx).symm⟩
    refine ⟨_, rfl, _, _, rfl, rfl, .inr ⟨by decide, by decide⟩, _, rfl, .inl ⟨_, rfl, _, _, rfl, rfl, (by show (0 : Int) < _; decide), .inl ⟨_, _, rfl, rfl, .inl ⟨_, _, rfl, rfl, .inl ⟨_, rfl, _, _, rfl, rfl, (by show (0 : Int) < _; decide), ?_⟩⟩⟩⟩⟩
    exact ⟨rfl, _, _, rfl, Int.emod_nonneg _ (by decide), Int.lt_trans (Int.emod_lt_of_pos _ (by decide)) (by decide)⟩
  · rintro σ H' ⟨rfl, st, y, rfl, s0, s1⟩
    -- return [list(script[:63]), 0, 0, stir, 0]
    have e1 : Same H (upd H c (.lst (ms.map V.int))) := grow nc
    refine ⟨_, rfl, _, rfl, .inl ⟨l, _, rfl, e1.seq hs, fun c2 n2 => ?_⟩⟩
    rw [em]
    refine ⟨c2, _, rfl, .inl (SqL.of upd_same), fun q nq => ⟨_, rfl, (by show 5 ≤ sizeLine; decide), fun p np => ?_⟩⟩
    have e2 := e1.trans (grow (o := .lst (ms.map V.int)) n2)
    have e3 := e2.trans (grow (o := .lst (ms.map V.int)) nq)
    have npq : q ≠ p := ne_of_none upd_same np
    refine ⟨p, q, rfl, 0, 0, st, 0, ⟨by decide, s0, s1⟩, upd_same, ?_⟩
    rw [upd_upd]
    refine k p _ (same_mut e3 (e3.free np)) ⟨q, ms, upd_same, ?_⟩
    rw [upd_ne npq, upd_same]

end
end Fb

set_option Elab.async false
set_option linter.all false
set_option maxRecDepth 100000
set_option maxHeartbeats 4000000
namespace Fb
open PySem PySem.Spec L2
open PyProof.Rows hiding St
open C8 (Cal Met Mak Def cal0 met0 mak0 pe_c pe_mk pe_mt pe_mt0 fnScope fnBody fnArgs pss_cut tCut)
local macro_rules | `(tactic| walk_at "hp") => `(tactic| first | exact upd_same | assumption | (refine grow (by assumption) _ _ ?_; walk_at "hp") | (refine (show Same _ _ by assumption) _ _ ?_; walk_at "hp"))
local macro_rules | `(tactic| walk_at "sm") => `(tactic| first | exact Same.refl _ | assumption | (refine Same.trans ?_ (grow (by assumption)); walk_at "sm") | (refine Same.trans ?_ (show Same _ _ by assumption); walk_at "sm"))
section
variable {P : Program} {w : World} {K : PySem.W.Frag} {mg : Str → Option Value} {base : Heap}
variable {C_Shape C_Plan C_Links C_PlanTaken C_PlanRefused A_plan_of : Addr}
/-! ### _law_draw -/
def spDraw : Sp := sp2 fun a b H Q => ∃ (p : Addr) (n : Int), a = .ref p ∧ b = .int n ∧ BagAt H p ∧ 0 < n ∧ n.natAbs.log2 < 9000 ∧ ∀ d : Int, 0 ≤ d → d < n → Q (.int d) H
theorem c__law_draw (T : Top K mg C_Shape C_Plan C_Links C_PlanTaken C_PlanRefused A_plan_of) : Cal P w K mg base 1 "_law_draw" spDraw [] := by
  obtain ⟨f, fd, F, df⟩ := T.d__law_draw
  refine cal_of F df (fn2 F sc__law_draw fun cdv A outer s H a b Q E hr h => ?_) fun _ _ _ _ _ _ us hl => match us, hl with | [_, _], _ => rfl
  have nd := sc__law_draw.nd
  obtain ⟨p, n, rfl, rfl, ⟨q, ns, hp, hq⟩, h0, h9, k⟩ := h
  have npq : q ≠ p := fun e => by
    rw [e, hp] at hq
    cases hq
  have hq' : ∀ L, upd H p (.lst L) q = some (.lst (ns.map V.int)) := fun L => by
    rw [upd_ne npq]
    exact hq
  refine ⟨_, pss_bag (pss_cons 
      (ps_asg (pe_op op_addU (pe_ix (ix_K (K := K) rfl) (pv 0) pe_int (fun _ _ => rfl)) pe_int) (pg_sub (pv 0) pe_int set_list)) (pss_cut 
      (ps_if (PW.pt (pw_and (pt_cmpR (eq_K (K := K) rfl hr) (pe_ix (ix_K (K := K) rfl) (pv 0) pe_int (fun _ _ => rfl)) pe_int (nomark _)) (pw_and1 (pt_cmpR (lt_K (K := K) rfl hr) (pe_ix (ix_K (K := K) rfl) (pv 0) pe_int (fun _ _ => rfl)) (pe_callB (len_K (K := K) rfl) (by rfl) T.len (by decide +kernel) (pa_cons (pe_ix (ix_K (K := K) rfl) (pv 0) pe_int (fun _ _ => rfl)) pa_nil)) (nomark _))))) (pss_cons 
      (ps_set (i := 3) nd rfl (Or.inl rfl) (pe_ix (ix_K (K := K) rfl) (pe_ix (ix_K (K := K) rfl) (pv 0) pe_int (fun _ _ => rfl)) (pe_ix (ix_K (K := K) rfl) (pv 0) pe_int (fun _ _ => rfl)) (fun _ _ => rfl))) (pss_cons 
      (ps_asg (pe_op op_addU (pe_ix (ix_K (K := K) rfl) (pv 0) pe_int (fun _ _ => rfl)) pe_int) (pg_sub (pv 0) pe_int set_list)) (pss_one 
      (ps_if (pt_cmpR op_geU (pv 3) (pe_op op_pow pe_int pe_int) (nomark _)) (pss_one 
      (ps_asg (pv 3) (pg_sub (pv 0) pe_int set_list))) (pss_one 
      (ps_asg (pe_op op_mod (pe_callTy call_int1 (by rfl) T.int (by decide +kernel) (pa_cons (pe_op op_addU (pe_op op_addU (pe_op op_mul (pe_ix (ix_K (K := K) rfl) (pv 0) pe_int (fun _ _ => rfl)) pe_int) (pe_op op_mul (pe_op op_mod (pe_callTy call_int1 (by rfl) T.int (by decide +kernel) (pa_cons (pv 3) pa_nil)) pe_int) pe_int)) pe_int) pa_nil)) pe_int) (pg_sub (pv 0) pe_int set_list))))))) pss_nil) (pss_cons 
      (ps_if (pt_cmpR op_gtU (pe_ix (ix_K (K := K) rfl) (pv 0) pe_int (fun _ _ => rfl)) pe_int (nomark _)) (pss_cons 
      (ps_set (i := 4) nd rfl (Or.inl rfl) (pe_op op_mod (pe_callTy call_int1 (by rfl) T.int (by decide +kernel) (pa_cons (pe_ix (ix_K (K := K) rfl) (pv 0) pe_int (fun _ _ => rfl)) pa_nil)) (pv 1))) (pss_cons 
      (ps_asg (pe_op op_fdivW (pe_ix (ix_K (K := K) rfl) (pv 0) pe_int (fun _ _ => rfl)) (pv 1)) (pg_sub (pv 0) pe_int set_list)) (pss_one 
      (ps_ret (pv 4))))) pss_nil) (pss_cons 
      (ps_set (i := 2) nd rfl (Or.inl rfl) (pe_ix (ix_K (K := K) rfl) (pv 0) pe_int (fun _ _ => rfl))) (pss_cons 
      (ps_asg (pe_op op_mod (pe_callTy call_int1 (by rfl) T.int (by decide +kernel) (pa_cons (pe_op op_addU (pe_op op_addU (pe_op op_addU (pe_op op_mul (pe_op op_mul (pv 2) (pv 2)) pe_int) (pe_op op_mul (pv 2) pe_int)) (pe_op op_mul (pe_ix (ix_K (K := K) rfl) (pv 0) pe_int (fun _ _ => rfl)) pe_int)) pe_int) pa_nil)) pe_int) (pg_sub (pv 0) pe_int set_list)) (pss_one 
      (ps_ret (pe_op op_mod (pe_callTy call_int1 (by rfl) T.int (by decide +kernel) (pa_cons (pe_op op_addU (pe_op op_fdivW (pe_ix (ix_K (K := K) rfl) (pv 0) pe_int (fun _ _ => rfl)) pe_int) (pe_op op_mul (pe_op op_mod (pe_callTy call_int1 (by rfl) T.int (by decide +kernel) (pa_cons (pe_ix (ix_K (K := K) rfl) (pv 0) pe_int (fun _ _ => rfl)) pa_nil)) pe_int) pe_int)) pa_nil)) (pv 1))))))))), ?_⟩
  refine ⟨p, q, hp, fun i c st t bk => ?_⟩
  obtain ⟨bi, b0, b1⟩ := id bk
  have md : ∀ x m : Int, 0 < m → m ≤ 2147483629 → 0 ≤ x % m ∧ x % m < 2147483629 := fun x m h1 h2 =>
    ⟨Int.emod_nonneg _ (by omega), Int.lt_of_lt_of_le (Int.emod_lt_of_pos _ h1) h2⟩
  -- bag[4] = bag[4] + 1
  refine ⟨_, rfl, rd_bag rfl (.inl ⟨_, _, rfl, rfl, ⟨_, rfl, set_bag rfl ?_⟩⟩)⟩
  -- behind the first if: a bag, whatever it holds
  refine ⟨fun σ H' => ∃ i c st t y, BagOk i st ∧ H' = upd H p (.lst (bagL q i c st t)) ∧ σ = [some (.ref p), some (.int n), none, y, none], ?_, ?_⟩
  -- if bag[2] == 0 and ..
  · refine ⟨_, rfl, rd_bag rfl (.inl ⟨rfl, _, rfl, ite2 (fun ec => ?_) (fun ec => ?_)⟩)⟩
    · refine ⟨_, rfl, rd_bag rfl ⟨_, rfl, rd_bag rfl (.inl ⟨q, _, rfl, .inl (SqL.of (hq' _)), .inl ⟨_, _, rfl, rfl, _, rfl, ite2 (fun ei => ?_) (fun ei => ?_)⟩⟩)⟩⟩
      · have ei := of_decide_eq_true ei
        rw [List.length_map] at ei
        obtain ⟨j, rfl⟩ := Int.eq_ofNat_of_zero_le bi
        have hj : j < ns.length := by omega
        have gj : atI (ns.map V.int) (j : Int) = some (.int ns[j]) := atI_nat (by rw [List.getElem?_map, List.getElem?_eq_getElem hj]; rfl)
        -- lump = int(bag[0][bag[1]]); bag[1] = bag[1] + 1
        refine ⟨_, rfl, rd_bag rfl ⟨_, rfl, rd_bag rfl (.inl ⟨q, _, _, _, rfl, rfl, SqL.of (hq' _), gj, ?_⟩)⟩⟩
        refine ⟨_, rfl, rd_bag rfl (.inl ⟨_, _, rfl, rfl, ⟨_, rfl, set_bag rfl ?_⟩⟩)⟩
        refine ⟨_, rfl, _, _, rfl, rfl, ⟨by decide, by decide, by decide⟩, _, _, rfl, rfl, _, rfl, ite2 (fun el => ?_) (fun el => ?_)⟩
        · refine ⟨_, rfl, _, rfl, set_bag rfl ?_⟩
          exact ⟨(j : Int) + 1, ns[j], st, t + 1, _, ⟨by omega, b0, b1⟩, rfl, rfl⟩
        · refine ⟨_, rfl, rd_bag rfl ⟨_, _, rfl, rfl, .inr ⟨by decide, by decide⟩, _, rfl, .inl ⟨_, rfl, _, _, rfl, rfl, (by show (0 : Int) < _; decide), _, _, rfl, rfl, .inr ⟨by decide, by decide⟩, .inl ⟨_, _, rfl, rfl, .inl ⟨_, _, rfl, rfl, .inl ⟨_, rfl, _, _, rfl, rfl, (by show (0 : Int) < _; decide), _, rfl, set_bag rfl ?_⟩⟩⟩⟩⟩⟩
          obtain ⟨m1, m2⟩ := md (st * 40693 + ns[j] % 2147483423 * 30011 + 89) 2147483579 (by decide) (by decide)
          exact ⟨(j : Int) + 1, c, _, t + 1, _, ⟨by omega, m1, m2⟩, rfl, rfl⟩
      · exact ⟨i, c, st, t + 1, _, bk, rfl, rfl⟩
    · exact iteF ⟨i, c, st, t + 1, _, bk, rfl, rfl⟩
  · rintro σ H' ⟨i, c, st, t, y, ⟨bi, b0, b1⟩, rfl, rfl⟩
    -- if bag[2] > 0
    refine ⟨_, rfl, rd_bag rfl ⟨_, _, rfl, rfl, _, rfl, ite2 (fun ec => ?_) (fun ec => ?_)⟩⟩
    · refine ⟨_, rfl, rd_bag rfl (.inl ⟨_, rfl, _, rfl, _, _, rfl, rfl, h0, ?_⟩)⟩
      refine ⟨_, rfl, rd_bag rfl ⟨_, rfl, _, _, rfl, rfl, ⟨h0, h9⟩, _, rfl, set_bag rfl ?_⟩⟩
      exact ⟨_, rfl, shut_bag hp ⟨bi, b0, b1⟩ (k _ (Int.emod_nonneg _ (by omega)) (Int.emod_lt_of_pos _ h0))⟩
    · refine ⟨_, rfl, rd_bag rfl ?_⟩
      refine ⟨_, rfl, _, rfl, _, _, rfl, rfl, .inl ⟨by omega, by omega⟩, _, _, rfl, rfl, .inr ⟨by decide, by decide⟩, _, rfl, _, _, rfl, rfl, .inr ⟨by decide, by decide⟩, .inl ⟨_, _, rfl, rfl, _, rfl, rd_bag rfl ⟨_, _, rfl, rfl, .inr ⟨by decide, by decide⟩, .inl ⟨_, _, rfl, rfl, .inl ⟨_, _, rfl, rfl, .inl ⟨_, rfl, _, _, rfl, rfl, (by show (0 : Int) < _; decide), _, rfl, set_bag rfl ?_⟩⟩⟩⟩⟩⟩
      obtain ⟨m1, m2⟩ := md (st * st * 19 + st * 42013 + t * 1299709 + 52711) 2147483579 (by decide) (by decide)
      refine ⟨_, rfl, rd_bag rfl ⟨_, _, rfl, rfl, ⟨by decide, by decide⟩, _, rfl, rd_bag rfl (.inl ⟨_, rfl, _, _, rfl, rfl, (by show (0 : Int) < _; decide), _, _, rfl, rfl, .inr ⟨by decide, by decide⟩, .inl ⟨_, _, rfl, rfl, .inl ⟨_, rfl, _, rfl, _, _, rfl, rfl, h0, ?_⟩⟩⟩)⟩⟩
      exact shut_bag hp ⟨bi, m1, m2⟩ (k _ (Int.emod_nonneg _ (by omega)) (Int.emod_lt_of_pos _ h0))

end
end Fb

set_option Elab.async false
set_option linter.all false
set_option maxRecDepth 100000
set_option maxHeartbeats 4000000
namespace Fb
open PySem PySem.Spec L2
open PyProof.Rows hiding St
open C8 (Cal Met Mak Def cal0 met0 mak0 pe_c pe_mk pe_mt pe_mt0 fnScope fnBody fnArgs pss_cut tCut)
local macro_rules | `(tactic| walk_at "hp") => `(tactic| first | exact upd_same | assumption | (refine grow (by assumption) _ _ ?_; walk_at "hp") | (refine (show Same _ _ by assumption) _ _ ?_; walk_at "hp"))
local macro_rules | `(tactic| walk_at "sm") => `(tactic| first | exact Same.refl _ | assumption | (refine Same.trans ?_ (grow (by assumption)); walk_at "sm") | (refine Same.trans ?_ (show Same _ _ by assumption); walk_at "sm"))
section
variable {P : Program} {w : World} {K : PySem.W.Frag} {mg : Str → Option Value} {base : Heap}
variable {C_Shape C_Plan C_Links C_PlanTaken C_PlanRefused A_plan_of : Addr}
/-! ### _law_of -/
def spOf (K : PySem.W.Frag) : Sp := sp2 fun a b H Q => ∃ (p : Addr), a = .ref p ∧ BagAt H p ∧
  ((∃ (l : Addr) (xs : List V), b = .ref l ∧ (SqL K H l xs ∨ SqT K H l xs) ∧ 0 < xs.length ∧ xs.length ≤ 100000 ∧ ∀ x ∈ xs, Q x H) ∨
    ∃ z : Str, b = .str z ∧ 0 < z.length ∧ z.length ≤ 100000 ∧ ∀ c ∈ z.cps.toList, Q (.str ⟨#[c]⟩) H)
theorem c__law_of (T : Top K mg C_Shape C_Plan C_Links C_PlanTaken C_PlanRefused A_plan_of) : Cal P w K mg base 2 "_law_of" (spOf K) [] := by
  obtain ⟨f, fd, F, df⟩ := T.d__law_of
  refine cal_of F df (fn2 F sc__law_of fun cdv A outer s H a b Q E hr h => ?_) fun _ _ _ _ _ _ us hl => match us, hl with | [_, _], _ => rfl
  have nd := sc__law_of.nd
  obtain ⟨p, rfl, hb, h⟩ := h
  refine ⟨_, (pss_one 
      (ps_ret (pe_ix (ix_K (K := K) rfl) (pv 1) (pe_c (c__law_draw T) hr (by decide) (by rfl) (pa_cons (pv 0) (pa_cons (pe_callB (len_K (K := K) rfl) (by rfl) T.len (by decide +kernel) (pa_cons (pv 1) pa_nil)) pa_nil))) (fun _ _ => rfl)))), ?_⟩
  rcases h with ⟨l, xs, rfl, hs, h0, h1, q⟩ | ⟨z, rfl, h0, h1, q⟩
  · refine ⟨_, rfl, _, rfl, _, rfl, .inl ⟨l, xs, rfl, hs, _, _, rfl, p, _, rfl, rfl, hb, by omega, small_log (by omega) (by omega), fun d d0 d1 => ?_⟩⟩
    obtain ⟨j, rfl⟩ := Int.eq_ofNat_of_zero_le d0
    have hj : j < xs.length := by omega
    have g : atI xs (j : Int) = some xs[j] := atI_nat (List.getElem?_eq_getElem hj)
    have k := q _ (List.getElem_mem hj)
    rcases hs with hs | hs
    · exact .inl ⟨l, xs, _, _, rfl, rfl, hs, g, k⟩
    · exact .inr (.inl ⟨l, xs, _, _, rfl, rfl, hs, g, k⟩)
  · refine ⟨_, rfl, _, rfl, _, rfl, .inr ⟨z, rfl, size5' h1, _, _, rfl, p, _, rfl, rfl, hb, by omega, small_log (by omega) (by omega), fun d d0 d1 => ?_⟩⟩
    obtain ⟨j, rfl⟩ := Int.eq_ofNat_of_zero_le d0
    have hj : j < z.cps.toList.length := by
      have : z.length = z.cps.size := rfl
      rw [← str_len]
      omega
    exact .inr (.inr ⟨z, _, _, rfl, rfl, size5' h1, atI_nat (List.getElem?_eq_getElem hj), q _ (List.getElem_mem hj)⟩)

end
end Fb

set_option Elab.async false
set_option linter.all false
set_option maxRecDepth 100000
set_option maxHeartbeats 4000000
namespace Fb
open PySem PySem.Spec L2
open PyProof.Rows hiding St
open C8 (Cal Met Mak Def cal0 met0 mak0 pe_c pe_mk pe_mt pe_mt0 fnScope fnBody fnArgs pss_cut tCut)
local macro_rules | `(tactic| walk_at "hp") => `(tactic| first | exact upd_same | assumption | (refine grow (by assumption) _ _ ?_; walk_at "hp") | (refine (show Same _ _ by assumption) _ _ ?_; walk_at "hp"))
local macro_rules | `(tactic| walk_at "sm") => `(tactic| first | exact Same.refl _ | assumption | (refine Same.trans ?_ (grow (by assumption)); walk_at "sm") | (refine Same.trans ?_ (show Same _ _ by assumption); walk_at "sm"))
section
variable {P : Program} {w : World} {K : PySem.W.Frag} {mg : Str → Option Value} {base : Heap}
variable {C_Shape C_Plan C_Links C_PlanTaken C_PlanRefused A_plan_of : Addr}
/-! ### _law_names -/
def spNames (K : PySem.W.Frag) : Sp := sp2 fun a b H Q => ∃ (p : Addr) (m : Nat), a = .ref p ∧ b = .int m ∧ BagAt H p ∧ m ≤ 20 ∧
  ∀ (H' : Hp) (D : Addr) (ws : List Str), Same H H' → H D = none → H' D = some (.lst (ws.map V.str)) → ws.length = m → Nms ws → ws.Nodup → Q (.ref D) H'
theorem c__law_names (T : Top K mg C_Shape C_Plan C_Links C_PlanTaken C_PlanRefused A_plan_of) : Cal P w K mg base 3 "_law_names" (spNames K) [] := by
  obtain ⟨f, fd, F, df⟩ := T.d__law_names
  refine cal_of F df (fn2 F sc__law_names fun cdv A outer s H a b Q E hr h => ?_) fun _ _ _ _ _ _ us hl => match us, hl with | [_, _], _ => rfl
  have nd := sc__law_names.nd
  obtain ⟨p, m, rfl, rfl, hb, lm, k⟩ := h
  obtain ⟨az1, az2, az3⟩ := az_ok
  have az0 : ("abcdefghijklmnopqrstuvwxyz" : Str).length ≤ 100000 := by decide +kernel
  have az4 : 0 < ("abcdefghijklmnopqrstuvwxyz" : Str).length := by decide +kernel
  refine ⟨_, (pss_cons 
      (ps_set (i := 2) nd rfl (Or.inr rfl) pe_str) (pss_cons 
      (ps_if (pt_cmpR op_gtU (pe_c (c__law_draw T) hr (by decide) (by rfl) (pa_cons (pv 0) (pa_cons pe_int pa_nil))) pe_int (nomark _)) (pss_cons 
      (ps_asg (pe_tup (pa_cons (pe_c (c__law_draw T) hr (by decide) (by rfl) (pa_cons (pv 0) (pa_cons pe_int pa_nil))) (pa_cons (pe_c (c__law_of T) hr (by decide) (by rfl) (pa_cons (pv 0) (pa_cons (pe_lst (pa_cons pe_int (pa_cons pe_int (pa_cons pe_int (pa_cons pe_int (pa_cons pe_int pa_nil)))))) pa_nil))) pa_nil))) (tup_K (K := K) (n := 2) rfl rfl (pgs_cons (pg_name (i := 6) nd rfl (Or.inr rfl)) (pgs_cons (pg_name (i := 7) nd rfl (Or.inr rfl)) pgs_nil)))) (pss_one 
      (ps_ret (pe_lc (own := [("k", 4)]) rfl nd (pi_range1 (by rfl) T.range (pa_cons (pv 1) pa_nil)) (blkOk_by (N := ["bag", "many", "signs", "found", "k", "name", "start", "step", "j", "other", "sign"]) (sc := fnScope s__law_names) (by decide +kernel)) (fun _ _ _ _ _ => (pg_name (i := 4) nd rfl (Or.inl rfl))) (fun _ _ _ _ _ => pts_nil) (fun _ _ _ _ _ => (pe_ix (ix_K (K := K) rfl) (pv 2) (pe_op op_mod (pe_callTy call_int1 (by rfl) T.int (by decide +kernel) (pa_cons (pe_op op_addU (pv 6) (pe_op op_mul (pv 4) (pv 7))) pa_nil)) pe_int) (fun _ _ => rfl))))))) pss_nil) (pss_cons 
      (ps_set (i := 3) nd rfl (Or.inr rfl) (pe_lst pa_nil)) (pss_cons 
      (ps_for PassesOwn.never rfl (pi_range1 (by rfl) T.range (pa_cons (pv 1) pa_nil)) (pg_name (i := 4) nd rfl (Or.inl rfl)) (pss_cut 
      (ps_set (i := 5) nd rfl (Or.inl rfl) (pe_c (c__law_of T) hr (by decide) (by rfl) (pa_cons (pv 0) (pa_cons (pe_lst (pa_cons pe_str (pa_cons pe_str (pa_cons pe_str (pa_cons pe_str (pa_cons pe_str (pa_cons pe_str (pa_cons pe_str (pa_cons pe_str (pa_cons pe_str (pa_cons pe_str (pa_cons pe_str pa_nil)))))))))))) pa_nil)))) (pss_cut 
      (ps_if (pt_cmpR (eq_K (K := K) rfl hr) (pv 5) pe_str (nomark _)) (pss_one 
      (ps_set (i := 5) nd rfl (Or.inl rfl) (pe_join pe_str (pe_lc (own := [("j", 8)]) rfl nd (pi_range1 (by rfl) T.range (pa_cons (pe_c (c__law_of T) hr (by decide) (by rfl) (pa_cons (pv 0) (pa_cons (pe_lst (pa_cons pe_int (pa_cons pe_int (pa_cons pe_int (pa_cons pe_int (pa_cons pe_int pa_nil)))))) pa_nil))) pa_nil)) (blkOk_by (N := ["bag", "many", "signs", "found", "k", "name", "start", "step", "j", "other", "sign"]) (sc := fnScope s__law_names) (by decide +kernel)) (fun _ _ _ _ _ => (pg_name (i := 8) nd rfl (Or.inl rfl))) (fun _ _ _ _ _ => pts_nil) (fun _ _ _ _ _ => (pe_c (c__law_of T) hr (by decide) (by rfl) (pa_cons (pv 0) (pa_cons (pv 2) pa_nil)))))))) pss_nil) (pss_cut 
      (ps_if (pt_cmpR (in_K (K := K) rfl) (pv 5) (pv 3) (by with_unfolding_all rfl)) (pss_one 
      (ps_set (i := 5) nd rfl (Or.inl rfl) (pe_ix (ix_K (K := K) rfl) (pe_lc (own := [("other", 9)]) rfl nd (pi_K (K := K) rfl (pe_lc (own := [("sign", 10)]) rfl nd (pi_K (K := K) rfl (pv 2)) (blkOk_by (N := ["bag", "many", "signs", "found", "k", "name", "start", "step", "j", "other", "sign"]) (sc := fnScope s__law_names) (by decide +kernel)) (fun _ _ _ _ _ => (pg_name (i := 10) nd rfl (Or.inl rfl))) (fun _ _ _ _ _ => pts_nil) (fun _ _ _ _ _ => (pe_op op_addU pe_str (pv 10))))) (blkOk_by (N := ["bag", "many", "signs", "found", "k", "name", "start", "step", "j", "other", "sign"]) (sc := fnScope s__law_names) (by decide +kernel)) (fun _ _ _ _ _ => (pg_name (i := 9) nd rfl (Or.inl rfl))) (fun _ _ _ _ _ => (pts_one (pt_cmpR (notIn_K (K := K) rfl) (pv 9) (pv 3) (by with_unfolding_all rfl)))) (fun _ _ _ _ _ => (pv 9))) pe_int (fun _ _ => rfl)))) pss_nil) (pss_one 
      (ps_expr (pe_bm PySem.F.plainAttrs_list PySem.F.slot_list_append PySem.F.type_list_append mt_append (pv 3) (pa_cons (pv 5) pa_nil)))))))) (pss_one 
      (ps_ret (pv 3))))))), ?_⟩
  generalize ("abcdefghijklmnopqrstuvwxyz" : Str) = az at az0 az1 az2 az3 az4 ⊢
  have one : ∀ {G : Hp} {R : VK}, Same H G → (∀ c, letC c = true → R (.str ⟨#[c]⟩) G) → spOf K [V.ref p, V.str az] G R E := fun e r => ⟨_, _, rfl, p, rfl, hb.mono e, .inr ⟨az, rfl, az4, az0, fun c mc => r c (List.all_eq_true.mp az2 c mc)⟩⟩
  refine ⟨_, rfl, _, _, rfl, p, 3, rfl, rfl, hb, by decide, small_log (by decide) (by decide), fun d _ _ => ⟨_, _, rfl, rfl, _, rfl, ite2 (fun _ => ?_) (fun _ => ?_)⟩⟩
  · -- single letters
    refine ⟨_, rfl, _, _, rfl, p, 26, rfl, rfl, hb, by decide, small_log (by decide) (by decide), fun s s0 s1 => ?_⟩
    refine ⟨_, rfl, Nat.le_of_ble_eq_true rfl, fun L nL => ?_⟩
    have e1 := grow (o := .lst [.int 1, .int 25, .int 7, .int 3, .int 15]) nL
    have hL : (upd H L (.lst [.int 1, .int 25, .int 7, .int 3, .int 15])) L = _ := upd_same
    generalize upd H L _ = H1 at e1 hL ⊢
    refine ⟨_, _, rfl, p, rfl, hb.mono e1, .inl ⟨L, _, rfl, .inl (SqL.of hL), Nat.le_of_ble_eq_true rfl, Nat.le_of_ble_eq_true rfl, fun x hx => ?_⟩⟩
    obtain ⟨t, rfl, ht⟩ : ∃ t : Int, x = .int t ∧ (t = 1 ∨ t = 25 ∨ t = 7 ∨ t = 3 ∨ t = 15) := by
      simp only [List.mem_cons, List.not_mem_nil, or_false] at hx
      rcases hx with rfl | rfl | rfl | rfl | rfl <;> exact ⟨_, rfl, by omega⟩
    refine ⟨Nat.le_of_ble_eq_true rfl, fun t2 nt2 => ⟨t2, [.int s, .int t], rfl, SqT.of upd_same, rfl, .int s, [.int t], rfl, .int t, [], rfl, rfl, ?_⟩⟩
    have e2 := e1.trans (grow (o := .tup [.int s, .int t]) nt2)
    generalize upd H1 t2 _ = H2 at e2 ⊢
    refine ⟨_, rfl, (m : Int), rfl, by omega, by omega, fun D nD => ?_⟩
    rw [Int.toNat_natCast]
    have bd : ∀ i : Nat, i < m → ((s + (i : Int) * t) % 26).toNat < az.cps.toList.length := fun i _ => by
      rw [az3]
      have := Int.emod_lt_of_pos (s + (i : Int) * t) (show (0 : Int) < 26 by decide)
      have := Int.emod_nonneg (s + (i : Int) * t) (show (26 : Int) ≠ 0 by decide)
      omega
    refine lc_map walk_range (fun i => .str ⟨#[az.cps.toList.getD ((s + (i : Int) * t) % 26).toNat 0]⟩) grow_fn (by omega) nD (fun _ _ => trivial) ?_ ?_
    · rintro i x G1 G2 hi e ⟨rfl, rfl⟩ R kk
      have lt := bd i hi
      have i0 : (0 : Int) + (i : Nat) = i := Int.zero_add _
      refine ⟨rfl, _, rfl, _, rfl, _, rfl, _, rfl, _, _, rfl, rfl, .inl ⟨by omega, by omega⟩, .inl ⟨_, _, rfl, rfl, .inl ⟨_, rfl, _, _, rfl, rfl, (by show (0 : Int) < _; decide), ?_⟩⟩⟩
      rw [i0]
      have nn := Int.emod_nonneg (s + (i : Int) * t) (show (26 : Int) ≠ 0 by decide)
      refine .inr (.inr ⟨az, _, az.cps.toList.getD ((s + (i : Int) * t) % 26).toNat 0, rfl, rfl, size5' az0, ?_, kk _ (Same.refl _)⟩)
      rw [← Int.toNat_of_nonneg nn]
      exact atI_nat (by rw [List.getElem?_eq_getElem lt, List.getD_eq_getElem?_getD, Int.toNat_natCast, List.getElem?_eq_getElem lt]; rfl)
    · intro G e hD
      refine k G D ((List.range m).map fun (i : Nat) => ⟨#[az.cps.toList.getD ((s + (i : Int) * t) % 26).toNat 0]⟩) (e2.trans e) (e2.free nD) (by rw [hD, List.map_map]; rfl) (by rw [List.length_map, List.length_range]) ?_ ?_
      · intro z mz
        obtain ⟨i, mi, rfl⟩ := List.mem_map.mp mz
        have lt := bd i (List.mem_range.mp mi)
        rw [List.getD_eq_getElem?_getD, List.getElem?_eq_getElem lt]
        exact nm_mk (l := [az.cps.toList[((s + (i : Int) * t) % 26).toNat]]) (Nat.le_refl _) (Nat.le_of_ble_eq_true rfl) (by rw [List.all_cons, List.all_nil, Bool.and_true]; exact List.all_eq_true.mp az2 _ (List.getElem_mem lt))
      · refine nodup_on List.nodup_range ?_
        intro i mi j mj e
        have li := bd i (List.mem_range.mp mi)
        have lj := bd j (List.mem_range.mp mj)
        rw [List.getD_eq_getElem?_getD, List.getD_eq_getElem?_getD, List.getElem?_eq_getElem li, List.getElem?_eq_getElem lj] at e
        have e2 := congrArg (fun z : Str => z.cps.toList) e
        have e2 : az.cps.toList[((s + (i : Int) * t) % 26).toNat] = az.cps.toList[((s + (j : Int) * t) % 26).toNat] := (List.cons.inj e2).1
        have e3 := (List.getElem_inj az1).mp e2
        have a1 := List.mem_range.mp mi
        have a2 := List.mem_range.mp mj
        rcases ht with rfl | rfl | rfl | rfl | rfl <;> omega
  · -- drawn ones
    refine ⟨Nat.zero_le _, fun D nD => ?_⟩
    have e0 := grow (o := .lst (([] : List Str).map V.str)) nD
    have hD0 : (upd H D (.lst (([] : List Str).map V.str))) D = _ := upd_same
    have eD : (upd H D (.lst [])) = (upd H D (.lst (([] : List Str).map V.str))) := rfl
    rw [eD]
    generalize upd H D (.lst (([] : List Str).map V.str)) = H0 at e0 hD0 ⊢
    refine ⟨_, rfl, (m : Int), rfl, by omega, by omega, ?_⟩
    rw [Int.toNat_natCast]
    refine for_it walk_range (fun i σ G => Same H G ∧ (∃ ns : List Str, G D = some (.lst (ns.map V.str)) ∧ ns.length = i ∧ Nms ns ∧ ns.Nodup) ∧ ∃ y4 y5, σ = [some (.ref p), some (.int m), some (.str az), some (.ref D), y4, y5, none, none, none, none, none])
      ⟨e0, ⟨[], hD0, rfl, fun _ m => (nomatch m), List.nodup_nil⟩, _, _, rfl⟩ (fun _ _ _ _ _ => trivial) ?_ ?_
    · rintro i x σ G0 G1 hi ⟨e, ⟨ns, hD, ln, nm, ndn⟩, y4, y5, rfl⟩ ⟨rfl, rfl⟩
      have hb1 := hb.mono e
      -- name = _law_of
      refine ⟨fun σ G => Same G1 G ∧ ∃ z : Str, (z = "" ∨ Nm z) ∧ σ = [some (.ref p), some (.int m), some (.str az), some (.ref D), some (.int (0 + (i : Nat))), some (.str z), none, none, none, none, none], ?_, ?_⟩
      · refine ⟨_, rfl, Nat.le_of_ble_eq_true rfl, fun L nL => ?_⟩
        have e1 := grow (o := .lst ((["", "", "end", "", "self", "", "stay", "", "none", "zzzzzzzz", "cost"] : List Str).map V.str)) nL
        refine ⟨_, _, rfl, p, rfl, hb1.mono e1, .inl ⟨L, (["", "", "end", "", "self", "", "stay", "", "none", "zzzzzzzz", "cost"] : List Str).map V.str, rfl, .inl (SqL.of upd_same), Nat.le_of_ble_eq_true rfl, Nat.le_of_ble_eq_true rfl, fun x hx => ?_⟩⟩
        obtain ⟨z, mz, rfl⟩ := List.mem_map.mp hx
        have al : (["", "", "end", "", "self", "", "stay", "", "none", "zzzzzzzz", "cost"] : List Str).all (fun z => decide (z = "") || nameB (.str z)) = true := by decide +kernel
        have hz := List.all_eq_true.mp al z mz
        refine ⟨e1, z, ?_, rfl⟩
        rcases Bool.or_eq_true_iff.mp hz with hz | hz
        · exact .inl (of_decide_eq_true hz)
        · exact .inr hz
      rintro σ G2 ⟨e2, z, hz, rfl⟩
      -- if name == ''
      refine ⟨fun σ G => Same G1 G ∧ ∃ z : Str, Nm z ∧ σ = [some (.ref p), some (.int m), some (.str az), some (.ref D), some (.int (0 + (i : Nat))), some (.str z), none, none, none, none, none], ?_, ?_⟩
      · refine ⟨_, rfl, .inl ⟨rfl, _, rfl, ite2 (fun _ => ?_) (fun hn => ⟨e2, z, hz.elim (fun q => ?_) id, rfl⟩)⟩⟩
        · refine ⟨⟨_, rfl⟩, _, rfl, Nat.le_of_ble_eq_true rfl, fun c nc => ?_⟩
          have e3 := e2.trans (grow (o := .lst [.int 2, .int 1, .int 3, .int 8, .int 5]) nc)
          have hc : (upd G2 c (.lst [.int 2, .int 1, .int 3, .int 8, .int 5])) c = _ := upd_same
          generalize upd G2 c _ = G3 at e3 hc ⊢
          refine ⟨_, _, rfl, p, rfl, hb1.mono e3, .inl ⟨c, _, rfl, .inl (SqL.of hc), Nat.le_of_ble_eq_true rfl, Nat.le_of_ble_eq_true rfl, fun x hx => ?_⟩⟩
          obtain ⟨n, rfl, n1, n8⟩ : ∃ n : Nat, x = .int n ∧ 1 ≤ n ∧ n ≤ 8 := by
            simp only [List.mem_cons, List.not_mem_nil, or_false] at hx
            rcases hx with rfl | rfl | rfl | rfl | rfl
            · exact ⟨2, rfl, by decide, by decide⟩
            · exact ⟨1, rfl, by decide, by decide⟩
            · exact ⟨3, rfl, by decide, by decide⟩
            · exact ⟨8, rfl, by decide, by decide⟩
            · exact ⟨5, rfl, by decide, by decide⟩
          refine ⟨(n : Int), rfl, by omega, by omega, fun D2 nD2 => ?_⟩
          refine lc_some walk_range (fun _ v _ => ∃ c : Nat, v = .str ⟨#[c]⟩ ∧ letC c = true) grow_fn (by omega) nD2 (fun _ _ _ _ _ h => h) (fun _ _ => trivial) ?_ ?_
          · rintro i x G4 G5 hi e4 _ ⟨rfl, rfl⟩ R kk
            exact ⟨rfl, _, rfl, _, rfl, one (e.trans (e3.trans e4)) fun c lc => kk _ _ (Same.refl _) fun _ => ⟨c, rfl, lc⟩⟩
          · intro xs G4 e4 hx hl hp
            obtain ⟨cs, rfl, lc⟩ := ones_of xs hp
            rw [List.length_map] at hl
            refine ⟨_, D2, cs.map fun c => ⟨#[c]⟩, rfl, rfl, .inl (ones_list hx), ones_room cs (by omega), ?_⟩
            rw [one_cps]
            exact ⟨e3.trans e4, mkS cs, nm_mk (by omega) (by omega) lc, rfl⟩
        · subst q
          exact absurd (decide_eq_true rfl) hn
      rintro σ G3 ⟨e3, z, hz, rfl⟩
      -- if name in found
      refine ⟨fun σ G => Same G1 G ∧ ∃ z : Str, Nm z ∧ z ∉ ns ∧ σ = [some (.ref p), some (.int m), some (.str az), some (.ref D), some (.int (0 + (i : Nat))), some (.str z), none, none, none, none, none], ?_, ?_⟩
      · refine ⟨_, rfl, _, rfl, .inr ⟨D, _, rfl, .inl (SqL.of (e3 _ _ hD)), rfl, flat_strs ns, ?_⟩⟩
        rw [inV_strs]
        refine ⟨_, rfl, ite2 (fun _ => ?_) (fun hn => ⟨e3, z, hz, by simpa using hn, rfl⟩)⟩
        refine ⟨_, rfl, .inr (.inr ⟨az, rfl, fun D2 nD2 => ?_⟩)⟩
        have laz : az.cps.size = 26 := by rw [str_len]; exact az3
        refine lc_map walk_str (fun i => .str (mkS [113, az.cps.toList.getD i 0])) (fun i H x H' ⟨h, _⟩ => by rw [h]; exact Same.refl _) (by omega) nD2 (fun _ _ => trivial) ?_ ?_
        · rintro i x G4 G5 hi e4 ⟨rfl, c, gc, rfl⟩ R kk
          have gc2 : az.cps.toList[i]? = some c := by rw [Array.getElem?_toList]; exact gc
          have := kk G5 (Same.refl _)
          rw [List.getD_eq_getElem?_getD, gc2] at this
          refine ⟨rfl, _, rfl, .inr (.inl ⟨_, _, rfl, rfl, Nat.le_of_ble_eq_true rfl, ?_⟩)⟩
          exact this
        · intro G4 e4 hD2
          rw [laz] at hD2
          have e14 := e3.trans e4
          have hD2 : G4 D2 = some (.lst ((az.cps.toList.map fun c => mkS [113, c]).map V.str)) := by
            rw [hD2, ← az3, map_range_get 0 (fun c => V.str (mkS [113, c])), List.map_map]
            rfl
          generalize hqs : (az.cps.toList.map fun c => mkS [113, c]) = qs at hD2
          have lq : qs.length = 26 := by rw [← hqs, List.length_map, az3]
          have ndq : qs.Nodup := by
            rw [← hqs]
            exact nodup_on az1 fun a _ b _ h => by
              have := mkS_inj h
              simpa using this
          have nmq : Nms qs := fun r mr => by
            rw [← hqs] at mr
            obtain ⟨c, mc, rfl⟩ := List.mem_map.mp mr
            exact nm_mk (Nat.le_of_ble_eq_true rfl) (Nat.le_of_ble_eq_true rfl) (by rw [List.all_cons, List.all_cons, List.all_nil, List.all_eq_true.mp az2 c mc]; rfl)
          refine .inl ⟨D2, rfl, ⟨_, SqL.of hD2⟩, fun D3 nD3 => ?_⟩
          refine lc_it (walk_list (xs := qs.map V.str)) (fun j G => Same G4 G ∧ G D3 = some (.lst (((qs.take j).filter fun x => !decide (x ∈ ns)).map V.str))) ⟨grow nD3, upd_same⟩ (fun j G _ ⟨e, _⟩ => SqL.of (e _ _ hD2)) ?_ ?_
          · rintro j v G5 G6 hj ⟨e5, h3⟩ ⟨rfl, g2⟩
            obtain ⟨s1, gs, rfl⟩ := st_get g2
            have lf := List.length_filter_le (fun s => !decide (s ∈ ns)) (qs.take j)
            rw [List.length_take] at lf
            have hD5 := e5 _ _ (e14 _ _ hD)
            refine ⟨rfl, _, rfl, _, rfl, .inr ⟨D, _, rfl, .inl (SqL.of hD5), rfl, flat_strs ns, ?_⟩⟩
            rw [if_pos rfl, inV_strs, filter_snoc _ gs]
            by_cases c : s1 ∈ ns
            · rw [decide_eq_true c]
              refine ⟨_, rfl, iteF ⟨e5, ?_⟩⟩
              rw [if_neg (by decide), List.append_nil]
              exact h3
            · rw [decide_eq_false c]
              refine ⟨_, rfl, iteT ⟨_, rfl, _, h3, size5 (by rw [List.length_map]; omega), same_mut e5 nD3, ?_⟩⟩
              rw [upd_same, if_pos (by decide), List.map_append]
              rfl
          · rintro G5 ⟨e5, h3⟩
            rw [List.length_map, List.take_length] at h3
            obtain ⟨f0, fr, hf⟩ : ∃ f0 fr, (qs.filter fun x => !decide (x ∈ ns)) = f0 :: fr := by
              cases hf : (qs.filter fun x => !decide (x ∈ ns)) with
              | cons a b => exact ⟨a, b, rfl⟩
              | nil =>
                have sub : ∀ r ∈ qs, r ∈ ns := fun r mr => by
                  have := List.filter_eq_nil_iff.mp hf r mr
                  simpa using this
                have := nd_le ndq sub
                omega
            have mf : f0 ∈ qs.filter fun x => !decide (x ∈ ns) := by rw [hf]; exact List.mem_cons_self
            obtain ⟨m1, m2⟩ := List.mem_filter.mp mf
            rw [hf] at h3
            refine .inl ⟨D3, _, 0, _, rfl, rfl, SqL.of h3, atI_nat (j := 0) rfl, ?_⟩
            exact ⟨e14.trans e5, f0, nmq f0 m1, by simpa using m2, rfl⟩
      rintro σ G4 ⟨e4, z, hz, nz, rfl⟩
      have hD4 := e4 _ _ hD
      refine ⟨_, rfl, .inl ⟨rfl, _, SqL.of hD4⟩, _, rfl, ?_⟩
      refine ⟨D, _, _, rfl, rfl, hD4, size5 (by rw [List.length_map]; omega), ?_⟩
      refine ⟨same_mut (e.trans e4) nD, ⟨ns ++ [z], ?_, by rw [List.length_append, ln]; rfl, fun r mr => ?_, ?_⟩, _, _, rfl⟩
      · rw [upd_same, List.map_append]
        rfl
      · rcases List.mem_append.mp mr with mr | mr
        · exact nm r mr
        · rw [List.mem_singleton.mp mr]
          exact hz
      · refine List.nodup_append.mpr ⟨ndn, nd1, fun a ma b mb e => ?_⟩
        rw [List.mem_singleton.mp mb] at e
        rw [e] at ma
        exact nz ma
    · rintro σ G ⟨e, ⟨ns, hD, ln, nm, ndn⟩, y4, y5, rfl⟩
      exact ⟨_, rfl, k G D ns e nD hD ln nm ndn⟩

end
end Fb

set_option Elab.async false
set_option linter.all false
set_option maxRecDepth 100000
set_option maxHeartbeats 4000000
namespace Fb
open PySem PySem.Spec L2
open PyProof.Rows hiding St
open C8 (Cal Met Mak Def cal0 met0 mak0 pe_c pe_mk pe_mt pe_mt0 fnScope fnBody fnArgs pss_cut tCut)
local macro_rules | `(tactic| walk_at "hp") => `(tactic| first | exact upd_same | assumption | (refine grow (by assumption) _ _ ?_; walk_at "hp") | (refine (show Same _ _ by assumption) _ _ ?_; walk_at "hp"))
local macro_rules | `(tactic| walk_at "sm") => `(tactic| first | exact Same.refl _ | assumption | (refine Same.trans ?_ (grow (by assumption)); walk_at "sm") | (refine Same.trans ?_ (show Same _ _ by assumption); walk_at "sm"))
section
variable {P : Program} {w : World} {K : PySem.W.Frag} {mg : Str → Option Value} {base : Heap}
variable {C_Shape C_Plan C_Links C_PlanTaken C_PlanRefused A_plan_of : Addr}
/-! ### _law_web -/
def spWeb (K : PySem.W.Frag) : Sp := sp2 fun a b H Q => ∃ (p : Addr) (most : Nat), a = .ref p ∧ b = .int most ∧ BagAt H p ∧ 1 ≤ most ∧ most ≤ 20 ∧
  ∀ (H' : Hp) (W : Addr) (ns : List Str) (ps : List Tw), Same H H' → WebAt H' W ns ps → WebOk ns ps most → Q (.ref W) H'
theorem c__law_web (T : Top K mg C_Shape C_Plan C_Links C_PlanTaken C_PlanRefused A_plan_of) : Cal P w K mg base 4 "_law_web" (spWeb K) [] := by
  obtain ⟨f, fd, F, df⟩ := T.d__law_web
  refine cal_of F df (fn2 F sc__law_web fun cdv A outer s H a b Q E hr h => ?_) fun _ _ _ _ _ _ us hl => match us, hl with | [_, _], _ => rfl
  have nd := sc__law_web.nd
  obtain ⟨p, most, rfl, rfl, hb, m1, m20, k⟩ := h
  refine ⟨_, (pss_cut 
      (ps_par (i := 3) (j := 4) rfl nd rfl rfl (by decide) rfl rfl (pa_cons (pe_callB (call_min2 rfl) (by rfl) T.min (by decide +kernel) (pa_cons (pe_c (c__law_of T) hr (by decide) (by rfl) (pa_cons (pv 0) (pa_cons (pe_lst (pa_cons pe_int (pa_cons pe_int (pa_cons pe_int (pa_cons pe_int (pa_cons pe_int (pa_cons pe_int (pa_cons pe_int (pa_cons pe_int (pa_cons pe_int (pa_cons pe_int (pa_cons pe_int (pa_cons pe_int pa_nil))))))))))))) pa_nil))) (pa_cons (pv 1) pa_nil))) (pa_cons (pe_c (c__law_draw T) hr (by decide) (by rfl) (pa_cons (pv 0) (pa_cons pe_int pa_nil))) pa_nil)) (by rfl)) (pss_cut 
      (ps_asg (pe_tup (pa_cons (pe_c (c__law_names T) hr (by decide) (by rfl) (pa_cons (pv 0) (pa_cons (pv 3) pa_nil))) (pa_cons (pe_lst pa_nil) pa_nil))) (tup_K (K := K) (n := 2) rfl rfl (pgs_cons (pg_name (i := 5) nd rfl (Or.inr rfl)) (pgs_cons (pg_name (i := 6) nd rfl (Or.inl rfl)) pgs_nil)))) (pss_cut 
      (ps_if (pt_cmpR op_gtU (pv 4) pe_int (nomark _)) (pss_one 
      (ps_setLc (i := 6) (own := [("k", 2)]) rfl nd rfl rfl (sw_true rfl rfl rfl (by decide +kernel)) (pi_range1 (by rfl) T.range (pa_cons (pe_op op_sub (pv 3) pe_int) pa_nil)) (blkOk_by (N := ["bag", "most", "k", "many", "way", "roads", "turns", "pair"]) (sc := fnScope s__law_web) (by decide +kernel)) (fun _ _ _ _ _ => (pg_name (i := 2) nd rfl (Or.inl rfl))) (fun _ _ _ _ _ => pts_nil) (fun _ _ _ _ _ => (pe_tup (pa_cons (pe_ix (ix_K (K := K) rfl) (pv 5) (pv 2) (fun _ _ => rfl)) (pa_cons (pe_ix (ix_K (K := K) rfl) (pv 5) (pe_op op_addU (pv 2) pe_int) (fun _ _ => rfl)) pa_nil)))))) pss_nil) (pss_cut 
      (ps_if (PW.pt (pw_and (pt_cmpR (eq_K (K := K) rfl hr) (pv 4) pe_int (nomark _)) (pw_and1 (pt_cmpR op_gtU (pv 3) pe_int (nomark _))))) (pss_one 
      (ps_expr (pe_bm PySem.F.plainAttrs_list PySem.F.slot_list_append PySem.F.type_list_append mt_append (pv 6) (pa_cons (pe_tup (pa_cons (pe_ix (ix_K (K := K) rfl) (pv 5) (pe_op op_sub (pv 3) pe_int) (fun _ _ => rfl)) (pa_cons (pe_ix (ix_K (K := K) rfl) (pv 5) pe_int (fun _ _ => rfl)) pa_nil))) pa_nil)))) pss_nil) (pss_cut 
      (ps_if (pt_cmpR (eq_K (K := K) rfl hr) (pv 4) pe_int (nomark _)) (pss_one 
      (ps_set (i := 6) nd rfl (Or.inl rfl) (pe_op op_addU (pv 6) (pe_lc (own := [("k", 2)]) rfl nd (pi_range1 (by rfl) T.range (pa_cons (pe_op op_sub (pv 3) pe_int) pa_nil)) (blkOk_by (N := ["bag", "most", "k", "many", "way", "roads", "turns", "pair"]) (sc := fnScope s__law_web) (by decide +kernel)) (fun _ _ _ _ _ => (pg_name (i := 2) nd rfl (Or.inl rfl))) (fun _ _ _ _ _ => pts_nil) (fun _ _ _ _ _ => (pe_tup (pa_cons (pe_ix (ix_K (K := K) rfl) (pv 5) (pe_op op_addU (pv 2) pe_int) (fun _ _ => rfl)) (pa_cons (pe_ix (ix_K (K := K) rfl) (pv 5) (pv 2) (fun _ _ => rfl)) pa_nil)))))))) pss_nil) (pss_cons 
      (ps_for PassesOwn.never rfl (pi_range1 (by rfl) T.range (pa_cons (pe_c (c__law_draw T) hr (by decide) (by rfl) (pa_cons (pv 0) (pa_cons (pe_op op_addU (pe_op op_mul pe_int (pv 3)) pe_int) pa_nil))) pa_nil)) (pg_name (i := 2) nd rfl (Or.inl rfl)) (pss_cons 
      (ps_set (i := 7) nd rfl (Or.inl rfl) (pe_tup (pa_cons (pe_c (c__law_of T) hr (by decide) (by rfl) (pa_cons (pv 0) (pa_cons (pv 5) pa_nil))) (pa_cons (pe_c (c__law_of T) hr (by decide) (by rfl) (pa_cons (pv 0) (pa_cons (pv 5) pa_nil))) pa_nil)))) (pss_one 
      (ps_if (PW.pt (pw_and (pt_cmpR (ne_K (K := K) rfl hr) (pe_ix (ix_K (K := K) rfl) (pv 7) pe_int (fun _ _ => rfl)) (pe_ix (ix_K (K := K) rfl) (pv 7) pe_int (fun _ _ => rfl)) (nomark _)) (pw_and (pt_cmpR (notInD_K (K := K) rfl (room_65 hr)) (pv 7) (pv 6) (by with_unfolding_all rfl)) (pw_and1 (pt_cmpR (lt_K (K := K) rfl hr) (pe_callB (len_K (K := K) rfl) (by rfl) T.len (by decide +kernel) (pa_cons (pv 6) pa_nil)) pe_int (nomark _)))))) (pss_one 
      (ps_expr (pe_bm PySem.F.plainAttrs_list PySem.F.slot_list_append PySem.F.type_list_append mt_append (pv 6) (pa_cons (pv 7) pa_nil)))) pss_nil)))) (pss_one 
      (ps_ret (pe_tup (pa_cons (pv 5) (pa_cons (pv 6) pa_nil))))))))))), ?_⟩
  -- many, way
  refine ⟨fun σ G => Same H G ∧ ∃ (m : Nat) (way : Int), 1 ≤ m ∧ m ≤ most ∧ σ = [some (.ref p), some (.int most), none, some (.int m), some (.int way), none, none, none], ?_, ?_⟩
  · refine ⟨_, rfl, Nat.le_of_ble_eq_true rfl, fun L nL => ?_⟩
    have e1 := grow (o := .lst [.int 4, .int 5, .int 3, .int 4, .int 6, .int 5, .int 2, .int 3, .int 1, .int 7, .int 8, .int 9]) nL
    have hL : (upd H L (.lst [.int 4, .int 5, .int 3, .int 4, .int 6, .int 5, .int 2, .int 3, .int 1, .int 7, .int 8, .int 9])) L = _ := upd_same
    generalize upd H L _ = H1 at e1 hL ⊢
    refine ⟨_, _, rfl, p, rfl, hb.mono e1, .inl ⟨L, _, rfl, .inl (SqL.of hL), Nat.le_of_ble_eq_true rfl, Nat.le_of_ble_eq_true rfl, fun x hx => ?_⟩⟩
    obtain ⟨n, rfl, n1⟩ : ∃ n : Nat, x = .int n ∧ 1 ≤ n := by
      have hx : x ∈ ([4, 5, 3, 4, 6, 5, 2, 3, 1, 7, 8, 9] : List Nat).map (fun n : Nat => V.int n) := hx
      obtain ⟨n, mn, rfl⟩ := List.mem_map.mp hx
      have al : ([4, 5, 3, 4, 6, 5, 2, 3, 1, 7, 8, 9] : List Nat).all (fun n => decide (1 ≤ n)) = true := by decide
      exact ⟨n, rfl, of_decide_eq_true (List.all_eq_true.mp al n mn)⟩
    refine ⟨_, rfl, _, _, rfl, ?_⟩
    obtain ⟨m, em, a, b⟩ : ∃ m : Nat, (if (most : Int) < (n : Int) then (most : Int) else (n : Int)) = (m : Int) ∧ 1 ≤ m ∧ m ≤ most := by
      by_cases c : (most : Int) < (n : Int)
      · rw [if_pos c]
        exact ⟨most, rfl, m1, Nat.le_refl _⟩
      · rw [if_neg c]
        exact ⟨n, rfl, n1, by omega⟩
    rw [em]
    refine ⟨_, rfl, _, _, rfl, p, 4, rfl, rfl, hb.mono e1, by decide, small_log (by decide) (by decide), fun d _ _ => ⟨_, _, rfl, ?_⟩⟩
    exact ⟨e1, m, d, a, b, rfl⟩
  rintro σ G ⟨e1, m, way, m0, mm, rfl⟩
  have hb1 := hb.mono e1
  -- roads, turns
  refine ⟨fun σ G' => ∃ (G1 : Hp) (D F : Addr) (ns : List Str), Same H G1 ∧ Same G1 G' ∧ G1 D = some (.lst (ns.map V.str)) ∧ ns.length = m ∧ Nms ns ∧ ns.Nodup ∧ G1 F = none ∧ G' F = some (.lst []) ∧ σ = [some (.ref p), some (.int most), none, some (.int m), some (.int way), some (.ref D), some (.ref F), none], ?_, ?_⟩
  · refine ⟨_, rfl, _, rfl, _, _, rfl, p, m, rfl, rfl, hb1, by omega, fun G1 D ns e2 nD hD ln nm nd' => ?_⟩
    refine ⟨Nat.zero_le _, fun F nF => ?_⟩
    refine ⟨Nat.le_of_ble_eq_true rfl, fun t nt => ⟨t, [.ref D, .ref F], rfl, SqT.of upd_same, rfl, .ref D, [.ref F], rfl, .ref F, [], rfl, rfl, ?_⟩⟩
    exact ⟨G1, D, F, ns, e1.trans e2, (grow nF).trans (grow nt), hD, ln, nm, nd', nF, (grow nt) _ _ upd_same, rfl⟩
  rintro σ G2 ⟨G1, D, F0, ns, e01, e12, hD, ln, nm, ndn, nF0, hF0, rfl⟩
  have hb2 := hb.mono e01
  clear hb hb1 e1
  have lm : 1 ≤ ns.length := by omega
  have itm : ∀ {i : Nat}, i < ns.length → atI (ns.map V.str) (i : Int) = some (.str (ns.getD i "")) := fun {i} h => atI_nat (by rw [List.getElem?_map, List.getElem?_eq_getElem h, List.getD_eq_getElem?_getD, List.getElem?_eq_getElem h]; rfl)
  -- if way > 0
  refine ⟨fun σ G => Same G1 G ∧ ∃ (F : Addr) (xs : List V) (ps : List Tw), G1 F = none ∧ G F = some (.lst xs) ∧ TwsV G xs ps ∧ PsOk ns ps ∧ Ups ns ps ∧ ps.length ≤ 20 ∧ σ = [some (.ref p), some (.int most), none, some (.int m), some (.int way), some (.ref D), some (.ref F), none], ?_, ?_⟩
  · refine ⟨_, rfl, _, _, rfl, rfl, _, rfl, ite2 (fun _ => ?_) (fun _ => ⟨e12, F0, [], [], nF0, hF0, .nil, ⟨List.nodup_nil, fun q m => (nomatch m)⟩, fun q m => (nomatch m), Nat.zero_le _, rfl⟩)⟩
    refine ⟨_, rfl, _, _, rfl, rfl, (m : Int) - 1, rfl, by omega, by omega, fun Z nZ => ?_⟩
    rw [show ((m : Int) - 1).toNat = m - 1 by omega]
    refine lc_it walk_range (fun i G => Same G2 G ∧ ∃ xs, G Z = some (.lst xs) ∧ TwsV G xs (rowU ns i)) ⟨grow nZ, [], upd_same, .nil⟩ (fun _ _ _ _ => trivial) ?_ ?_
    · rintro i v G3 G4 hi ⟨e, xs, hZ, hxs⟩ ⟨rfl, hx⟩
      have hx : v = V.int (i : Nat) := hx.trans (congrArg V.int (Int.zero_add _))
      subst hx
      have hD4 := e _ _ (e12 _ _ hD)
      have i1 : ((i : Int) + 1) = ((i + 1 : Nat) : Int) := by omega
      refine ⟨rfl, _, rfl, _, rfl, .inl ⟨D, _, _, _, rfl, rfl, SqL.of hD4, itm (by omega), ?_⟩⟩
      refine ⟨_, rfl, _, rfl, .inl ⟨_, _, rfl, rfl, .inl ⟨D, _, _, _, rfl, rfl, SqL.of hD4, by rw [i1]; exact itm (by omega), ?_⟩⟩⟩
      refine ⟨Nat.le_of_ble_eq_true rfl, fun q nq => ⟨_, (grow nq) _ _ hZ, ?_, ?_⟩⟩
      · have := hxs.len
        rw [rowU_len] at this
        exact size5 (by omega)
      · have kp : Kpt (upd G4 q (.tup [.str (ns.getD i ""), .str (ns.getD (i + 1) "")])) (upd (upd G4 q (.tup [.str (ns.getD i ""), .str (ns.getD (i + 1) "")])) Z (.lst (xs ++ [.ref q]))) := kpt_lst ((grow nq) _ _ hZ)
        refine ⟨same_mut (e.trans (grow nq)) nZ, xs ++ [.ref q], upd_same, ?_⟩
        unfold rowU
        rw [List.range_succ, List.map_append]
        exact ((hxs.kp (Same.kpt (grow nq))).kp kp).app (.cons ⟨q, rfl, kp _ _ upd_same⟩ .nil)
    · rintro G3 ⟨e, xs, hZ, hxs⟩
      obtain ⟨r1, r2⟩ := rowU_ok ndn (n := m - 1) (by omega)
      exact ⟨e12.trans e, Z, xs, _, e12.free nZ, hZ, hxs, r1, r2, by rw [rowU_len]; omega, rfl⟩
  rintro σ G3 ⟨e13, F, xs, ps, nF, hF, hxs, okp, up, lp, rfl⟩
  have nDF : D ≠ F := ne_of_none hD nF
  clear hF0 nF0 e12
  -- if way == 2
  refine ⟨fun σ G => Same G1 G ∧ ∃ (xs : List V) (ps : List Tw), G F = some (.lst xs) ∧ TwsV G xs ps ∧ PsOk ns ps ∧ (way ≠ 2 → Ups ns ps) ∧ ps.length ≤ 21 ∧ σ = [some (.ref p), some (.int most), none, some (.int m), some (.int way), some (.ref D), some (.ref F), none], ?_, ?_⟩
  · refine ⟨_, rfl, .inl ⟨rfl, _, rfl, ite2 (fun hw => ?_) (fun hw => ⟨e13, xs, ps, hF, hxs, okp, fun _ => up, by omega, rfl⟩)⟩⟩
    refine ⟨_, rfl, _, _, rfl, rfl, _, rfl, ite2 (fun hm => ?_) (fun _ => ⟨e13, xs, ps, hF, hxs, okp, fun _ => up, by omega, rfl⟩)⟩
    have hw : way = 2 := by simpa using hw
    have hm : (2 : Int) < m := of_decide_eq_true hm
    have hD3 := e13 _ _ hD
    have at9 : atI (ns.map V.str) ((m : Int) - 1) = some (.str (ns.getD (m - 1) "")) := by
      rw [show ((m : Int) - 1) = ((m - 1 : Nat) : Int) by omega]
      exact itm (by omega)
    refine ⟨_, rfl, .inl ⟨rfl, _, SqL.of hF⟩, _, rfl, _, rfl, _, _, rfl, rfl, .inl ⟨D, _, _, _, rfl, rfl, SqL.of hD3, at9, ?_⟩⟩
    refine ⟨_, rfl, .inl ⟨D, _, _, _, rfl, rfl, SqL.of hD3, itm (i := 0) (by omega), ?_⟩⟩
    refine ⟨Nat.le_of_ble_eq_true rfl, fun q nq => ?_⟩
    have hq : (upd G3 q (.tup [.str (ns.getD (m - 1) ""), .str (ns.getD 0 "")])) q = some (.tup [.str (ns.getD (m - 1) ""), .str (ns.getD 0 "")]) := upd_same
    have hF4 := (grow (o := .tup [.str (ns.getD (m - 1) ""), .str (ns.getD 0 "")]) nq) _ _ hF
    have lx := hxs.len
    refine ⟨F, _, _, rfl, rfl, hF4, size5 (by omega), ?_⟩
    have kp : Kpt (upd G3 q (.tup [.str (ns.getD (m - 1) ""), .str (ns.getD 0 "")])) (upd (upd G3 q (.tup [.str (ns.getD (m - 1) ""), .str (ns.getD 0 "")])) F (.lst (xs ++ [.ref q]))) := kpt_lst hF4
    obtain ⟨a1, a2⟩ := idx_getD ndn (k := m - 1) (by omega)
    obtain ⟨b1, b2⟩ := idx_getD ndn (k := 0) (by omega)
    refine ⟨same_mut (e13.trans (grow nq)) nF, xs ++ [.ref q], ps ++ [(ns.getD (m - 1) "", ns.getD 0 "")], upd_same, ((hxs.kp (Same.kpt (grow nq))).kp kp).app (.cons ⟨q, rfl, kp _ _ hq⟩ .nil), ?_, fun h => absurd hw h, by rw [List.length_append, List.length_singleton]; omega, rfl⟩
    refine okp.add a1 b1 (fun e => ?_) (fun m' => ?_)
    · rw [e, b2] at a2
      omega
    · have := up _ m'
      have this : ns.idxOf (ns.getD (m - 1) "") + 1 = ns.idxOf (ns.getD 0 "") := this
      omega
  rintro σ G4 ⟨e14, xs, ps, hF, hxs, okp, up, lp, rfl⟩
  clear e13
  -- if way == 3
  refine ⟨fun σ G => Same G1 G ∧ ∃ (F : Addr) (xs : List V) (ps : List Tw), G1 F = none ∧ G F = some (.lst xs) ∧ TwsV G xs ps ∧ PsOk ns ps ∧ ps.length ≤ 50 ∧ σ = [some (.ref p), some (.int most), none, some (.int m), some (.int way), some (.ref D), some (.ref F), none], ?_, ?_⟩
  · refine ⟨_, rfl, .inl ⟨rfl, _, rfl, ite2 (fun hw => ?_) (fun hw => ⟨e14, F, xs, ps, nF, hF, hxs, okp, by omega, rfl⟩)⟩⟩
    have hw : way = 3 := by simpa using hw
    refine ⟨_, rfl, _, rfl, _, _, rfl, rfl, (m : Int) - 1, rfl, by omega, by omega, fun Z nZ => ?_⟩
    rw [show ((m : Int) - 1).toNat = m - 1 by omega]
    refine lc_it walk_range (fun i G => Same G4 G ∧ ∃ xs, G Z = some (.lst xs) ∧ TwsV G xs ((rowU ns i).map flp)) ⟨grow nZ, [], upd_same, .nil⟩ (fun _ _ _ _ => trivial) ?_ ?_
    · rintro i v G5 G6 hi ⟨e, zs, hZ, hzs⟩ ⟨rfl, hx⟩
      have hx : v = V.int (i : Nat) := hx.trans (congrArg V.int (Int.zero_add _))
      subst hx
      have hD6 := e _ _ (e14 _ _ hD)
      have i1 : ((i : Int) + 1) = ((i + 1 : Nat) : Int) := by omega
      refine ⟨rfl, _, rfl, _, rfl, .inl ⟨_, _, rfl, rfl, .inl ⟨D, _, _, _, rfl, rfl, SqL.of hD6, by rw [i1]; exact itm (by omega), ?_⟩⟩⟩
      refine ⟨_, rfl, _, rfl, .inl ⟨D, _, _, _, rfl, rfl, SqL.of hD6, itm (by omega), ?_⟩⟩
      refine ⟨Nat.le_of_ble_eq_true rfl, fun q nq => ⟨_, (grow nq) _ _ hZ, ?_, ?_⟩⟩
      · have := hzs.len
        rw [List.length_map, rowU_len] at this
        exact size5 (by omega)
      · have kp : Kpt (upd G6 q (.tup [.str (ns.getD (i + 1) ""), .str (ns.getD i "")])) (upd (upd G6 q (.tup [.str (ns.getD (i + 1) ""), .str (ns.getD i "")])) Z (.lst (zs ++ [.ref q]))) := kpt_lst ((grow nq) _ _ hZ)
        refine ⟨same_mut (e.trans (grow nq)) nZ, zs ++ [.ref q], upd_same, ?_⟩
        unfold rowU
        rw [List.range_succ, List.map_append, List.map_append]
        exact ((hzs.kp (Same.kpt (grow nq))).kp kp).app (.cons ⟨q, rfl, kp _ _ upd_same⟩ .nil)
    · rintro G5 ⟨e, zs, hZ, hzs⟩
      have l1 := hxs.len
      have l2 := hzs.len
      rw [List.length_map, rowU_len] at l2
      refine .inr (.inr ⟨F, Z, xs, zs, rfl, rfl, e _ _ hF, hZ, size5' (by omega), fun A nA => ?_⟩)
      have e5 := e.trans (grow (o := .lst (xs ++ zs)) nA)
      refine ⟨e14.trans e5, A, xs ++ zs, ps ++ (rowU ns (m - 1)).map flp, (e14.trans e).free nA, upd_same, (hxs.kp (Same.kpt e5)).app (hzs.kp (Same.kpt (grow nA))), okp.flips ndn (up (by omega)) (by omega), ?_, rfl⟩
      rw [List.length_append, List.length_map, rowU_len]
      omega
  rintro σ G5 ⟨e15, F, xs, ps, nF, hF, hxs, okp, lp, rfl⟩
  clear nDF e14
  have nDF : D ≠ F := ne_of_none hD nF
  -- for k
  refine ⟨_, rfl, _, rfl, _, _, rfl, rfl, .inr ⟨by omega, by omega⟩, .inl ⟨_, _, rfl, rfl, ?_⟩⟩
  refine ⟨_, _, rfl, p, _, rfl, rfl, hb2.mono e15, by omega, small_log (by omega) (by omega), fun d d0 d1 => ?_⟩
  obtain ⟨n, rfl⟩ := Int.eq_ofNat_of_zero_le d0
  refine ⟨(n : Int), rfl, by omega, by omega, ?_⟩
  rw [Int.toNat_natCast]
  refine for_it walk_range (fun i σ G => Same G1 G ∧ (∃ (xs : List V) (ps : List Tw), G F = some (.lst xs) ∧ TwsV G xs ps ∧ PsOk ns ps ∧ ps.length ≤ 50) ∧ ∃ y2 y7, σ = [some (.ref p), some (.int most), y2, some (.int m), some (.int way), some (.ref D), some (.ref F), y7])
    ⟨e15, ⟨xs, ps, hF, hxs, okp, lp⟩, _, _, rfl⟩ (fun _ _ _ _ _ => trivial) ?_ ?_
  · clear hF hxs okp lp xs ps e15
    rintro i v σ G6 G7 hi ⟨e, ⟨xs, ps, hF, hxs, okp, lp⟩, y2, y7, rfl⟩ ⟨rfl, rfl⟩
    have hb3 := hb2.mono e
    have hD7 := e _ _ hD
    have l0 : 0 < (ns.map V.str).length := by rw [List.length_map]; omega
    have l1 : (ns.map V.str).length ≤ 100000 := by rw [List.length_map]; omega
    refine ⟨_, rfl, _, rfl, _, _, rfl, p, rfl, hb3, .inl ⟨D, _, rfl, .inl (SqL.of hD7), l0, l1, fun x hx => ?_⟩⟩
    obtain ⟨u, mu, rfl⟩ := List.mem_map.mp hx
    refine ⟨_, rfl, _, rfl, _, _, rfl, p, rfl, hb3, .inl ⟨D, _, rfl, .inl (SqL.of hD7), l0, l1, fun x hx => ?_⟩⟩
    obtain ⟨v, mv, rfl⟩ := List.mem_map.mp hx
    refine ⟨Nat.le_of_ble_eq_true rfl, fun t nt => ?_⟩
    have e5 := e.trans (grow (o := .tup [.str u, .str v]) nt)
    have hF5 := (grow (o := .tup [.str u, .str v]) nt) _ _ hF
    have hxs5 := hxs.kp (Same.kpt (grow (o := .tup [.str u, .str v]) nt))
    have ht : (upd G7 t (.tup [.str u, .str v])) t = some (.tup [.str u, .str v]) := upd_same
    generalize upd G7 t (.tup [.str u, .str v]) = G8 at e5 hF5 hxs5 ht ⊢
    have at0 : atI [V.str u, .str v] 0 = some (.str u) := rfl
    have at1 : atI [V.str u, .str v] 1 = some (.str v) := rfl
    have skip : Same G1 G8 ∧ (∃ (xs : List V) (ps : List Tw), G8 F = some (.lst xs) ∧ TwsV G8 xs ps ∧ PsOk ns ps ∧ ps.length ≤ 50) := ⟨e5, xs, ps, hF5, hxs5, okp, lp⟩
    refine ⟨_, rfl, .inr (.inl ⟨t, _, _, _, rfl, rfl, SqT.of ht, at0, _, rfl, .inr (.inl ⟨t, _, _, _, rfl, rfl, SqT.of ht, at1, ?_⟩)⟩)⟩
    refine .inl ⟨rfl, _, rfl, ite2 (fun c => ?_) (fun _ => ⟨skip.1, skip.2, _, _, rfl⟩)⟩
    have c : u ≠ v := by
      rintro rfl
      simp at c
    have tv : TwV G8 (.ref t) (u, v) := ⟨t, rfl, ht⟩
    have nmt : NmT ps := fun q m => ⟨nm _ (okp.2 q m).1, nm _ (okp.2 q m).2.1⟩
    refine ⟨_, rfl, _, rfl, twD (u, v), ps.map twD, tv.dp, .lst (SqL.of hF5) hxs5.dp, shaped_tw ⟨nm u mu, nm v mv⟩, shaped_tws nmt, ?_⟩
    rw [any_tw]
    refine ⟨_, rfl, ite2 (fun c2 => ?_) (fun _ => ⟨skip.1, skip.2, _, _, rfl⟩)⟩
    have c2 : (u, v) ∉ ps := by simpa using c2
    have lx := hxs5.len
    refine ⟨_, rfl, .inl ⟨F, _, rfl, .inl (SqL.of hF5), .inl ⟨_, _, rfl, rfl, _, rfl, ite2 (fun c3 => ?_) (fun _ => ⟨skip.1, skip.2, _, _, rfl⟩)⟩⟩⟩
    have c3 : (xs.length : Int) < 12 := of_decide_eq_true c3
    refine ⟨_, rfl, .inl ⟨rfl, _, SqL.of hF5⟩, _, rfl, F, _, _, rfl, rfl, hF5, size5 (by omega), ?_⟩
    have kp : Kpt G8 (upd G8 F (.lst (xs ++ [.ref t]))) := kpt_lst hF5
    refine ⟨same_mut e5 nF, ⟨xs ++ [.ref t], ps ++ [(u, v)], upd_same, (hxs5.kp kp).app (.cons (tv.kp kp) .nil), okp.add mu mv c c2, ?_⟩, _, _, rfl⟩
    rw [List.length_append, List.length_singleton]
    omega
  · clear hF hxs okp lp xs ps e15
    rintro σ G6 ⟨e, ⟨xs, ps, hF, hxs, okp, lp⟩, y2, y7, rfl⟩
    refine ⟨_, rfl, _, rfl, Nat.le_of_ble_eq_true rfl, fun W nW => ?_⟩
    have e6 := e.trans (grow (o := .tup [.ref D, .ref F]) nW)
    refine k _ W ns ps (e01.trans e6) ⟨D, F, xs, upd_same, e6 _ _ hD, (grow nW) _ _ hF, hxs.kp (Same.kpt (grow nW))⟩ ⟨?_, by omega, nm, ndn, okp, by omega⟩
    intro q
    rw [q] at lm
    exact absurd lm (by decide)

end
end Fb

set_option Elab.async false
set_option linter.all false
set_option maxRecDepth 100000
set_option maxHeartbeats 4000000
namespace Fb
open PySem PySem.Spec L2
open PyProof.Rows hiding St
open C8 (Cal Met Mak Def cal0 met0 mak0 pe_c pe_mk pe_mt pe_mt0 fnScope fnBody fnArgs pss_cut tCut)
local macro_rules | `(tactic| walk_at "hp") => `(tactic| first | exact upd_same | assumption | (refine grow (by assumption) _ _ ?_; walk_at "hp") | (refine (show Same _ _ by assumption) _ _ ?_; walk_at "hp"))
local macro_rules | `(tactic| walk_at "sm") => `(tactic| first | exact Same.refl _ | assumption | (refine Same.trans ?_ (grow (by assumption)); walk_at "sm") | (refine Same.trans ?_ (show Same _ _ by assumption); walk_at "sm"))
section
variable {P : Program} {w : World} {K : PySem.W.Frag} {mg : Str → Option Value} {base : Heap}
variable {C_Shape C_Plan C_Links C_PlanTaken C_PlanRefused A_plan_of : Addr}
/-! ### _law_reached -/
def spReach (K : PySem.W.Frag) : Sp := sp4 fun a b c d H Q => ∃ (O Tt : Addr) (one two : Str) (xs : List V) (ps : List Tw) (order : List Str), a = .ref O ∧ b = .ref Tt ∧ c = .str one ∧ d = .str two ∧ H Tt = some (.lst xs) ∧ TwsV H xs ps ∧ ps.length ≤ 100 ∧ H O = some (.lst (order.map V.str)) ∧ Nms order ∧ order.Nodup ∧ order.length ≤ 100 ∧
  one ∈ order ∧ two ∈ order ∧ (∀ p ∈ ps, p.1 ∈ order ∧ p.2 ∈ order ∧ p.1 ≠ p.2) ∧ ∀ (H' : Hp) (b : Bool), Same H H' → (b = true ↔ Rch ps (fun x => x ∈ order.take (min (order.idxOf one) (order.idxOf two))) one two) → Q (.bl b) H'
theorem c__law_reached (T : Top K mg C_Shape C_Plan C_Links C_PlanTaken C_PlanRefused A_plan_of) : Cal P w K mg base 1 "_law_reached" (spReach K) [] := by
  obtain ⟨f, fd, F, df⟩ := T.d__law_reached
  refine cal_of F df (fn4 F sc__law_reached fun cdv A outer s H a b c d Q E hr h => ?_) fun _ _ _ _ _ _ us hl => match us, hl with | [_, _, _, _], _ => rfl
  have nd := sc__law_reached.nd
  obtain ⟨O, Tt, one, two, xs, ps, order, rfl, rfl, rfl, rfl, hT, hxs, lp, hO, nm, ndo, lo, m1, m2, hE, k⟩ := h
  refine ⟨_, (pss_cut 
      (ps_set (i := 4) nd rfl (Or.inr rfl) (pe_callB (call_min2 rfl) (by rfl) T.min (by decide +kernel) (pa_cons (pe_bm PySem.F.plainAttrs_list PySem.F.slot_list_index PySem.F.type_list_index (ix_D (K := K) rfl (room_65 hr)) (pv 0) (pa_cons (pv 2) pa_nil)) (pa_cons (pe_bm PySem.F.plainAttrs_list PySem.F.slot_list_index PySem.F.type_list_index (ix_D (K := K) rfl (room_65 hr)) (pv 0) (pa_cons (pv 3) pa_nil)) pa_nil)))) (pss_cut 
      (ps_set (i := 5) nd rfl (Or.inr rfl) (pe_lst (pa_cons (pv 2) pa_nil))) (pss_cons 
      (ps_for PassesOwn.never rfl (pi_range1 (by rfl) T.range (pa_cons (pe_callB (len_K (K := K) rfl) (by rfl) T.len (by decide +kernel) (pa_cons (pv 0) pa_nil)) pa_nil)) (pg_name (i := 6) nd rfl (Or.inl rfl)) (pss_cons 
      (ps_if (pt_val (pe_callB (any_K (K := K) rfl rfl) (by rfl) T.any (by decide +kernel) (pa_cons (pe_lc (own := [("begun", 8), ("behind", 9)]) rfl nd (pi_K (K := K) rfl (pv 1)) (blkOk_by (N := ["order", "turns", "one", "other", "least", "known", "k", "fresh", "begun", "behind"]) (sc := fnScope s__law_reached) (by decide +kernel)) (fun _ _ _ _ _ => (tup_K (K := K) (n := 2) rfl rfl (pgs_cons (pg_name (i := 8) nd rfl (Or.inl rfl)) (pgs_cons (pg_name (i := 9) nd rfl (Or.inl rfl)) pgs_nil)))) (fun _ _ _ _ _ => pts_nil) (fun _ _ _ _ _ => (pe_and (pe_cmpR (in_K (K := K) rfl) (pv 8) (pv 5) (by with_unfolding_all rfl)) (pe_one (pe_cmpR (eq_K (K := K) rfl hr) (pv 9) (pv 3) (nomark _)))))) pa_nil))) (pss_one 
      (ps_ret pe_bl)) pss_nil) (pss_cons 
      (ps_setLc (i := 7) (own := [("begun", 8), ("behind", 9)]) rfl nd rfl rfl (sw_true rfl rfl rfl (by decide +kernel)) (pi_K (K := K) rfl (pv 1)) (blkOk_by (N := ["order", "turns", "one", "other", "least", "known", "k", "fresh", "begun", "behind"]) (sc := fnScope s__law_reached) (by decide +kernel)) (fun _ _ _ _ _ => (tup_K (K := K) (n := 2) rfl rfl (pgs_cons (pg_name (i := 8) nd rfl (Or.inl rfl)) (pgs_cons (pg_name (i := 9) nd rfl (Or.inl rfl)) pgs_nil)))) (fun _ _ _ _ _ => (pts_one (PW.pt (pw_and (pt_cmpR (in_K (K := K) rfl) (pv 8) (pv 5) (by with_unfolding_all rfl)) (pw_and (pt_cmpR (notIn_K (K := K) rfl) (pv 9) (pv 5) (by with_unfolding_all rfl)) (pw_and1 (pt_cmpR (in_K (K := K) rfl) (pv 9) (pe_slice (sl_K (K := K) rfl) (pv 0) po_none (po_some (pv 4))) (by with_unfolding_all rfl)))))))) (fun _ _ _ _ _ => (pv 9))) (pss_cons 
      (ps_if (pt_cmpR (eq_K (K := K) rfl hr) (pv 7) (pe_lst pa_nil) (nomark _)) (pss_one 
      (ps_ret pe_bl)) pss_nil) (pss_one 
      (ps_set (i := 5) nd rfl (Or.inr rfl) (pe_op op_addU (pv 5) (pv 7)))))))) (pss_one 
      (ps_ret pe_bl))))), ?_⟩
  generalize hM : min (order.idxOf one) (order.idxOf two) = M at k
  -- least
  refine ⟨fun σ G => G = H ∧ σ = [some (.ref O), some (.ref Tt), some (.str one), some (.str two), some (.int M), none, none, none, none, none], ?_, ?_⟩
  · refine ⟨_, rfl, .inl ⟨rfl, _, SqL.of hO⟩, _, rfl, ?_⟩
    dsimp only [tNil]
    refine ix_st nm (SqL.of hO) m1 ?_
    refine ⟨_, rfl, .inl ⟨rfl, _, SqL.of hO⟩, _, rfl, ?_⟩
    dsimp only [tNil]
    refine ix_st nm (SqL.of hO) m2 ?_
    refine ⟨_, _, rfl, ?_⟩
    rw [show (if (order.idxOf two : Int) < (order.idxOf one : Int) then (order.idxOf two : Int) else (order.idxOf one : Int)) = (M : Int) by rw [← hM]; split <;> omega]
    exact ⟨rfl, rfl⟩
  rintro σ G ⟨eG, rfl⟩
  subst eG
  -- known
  refine ⟨fun σ G1 => Same G G1 ∧ ∃ A : Addr, G1 A = some (.lst ([one].map V.str)) ∧ σ = [some (.ref O), some (.ref Tt), some (.str one), some (.str two), some (.int M), some (.ref A), none, none, none, none], ?_, ?_⟩
  · exact ⟨_, rfl, Nat.le_of_ble_eq_true rfl, fun A nA => ⟨grow nA, A, upd_same, rfl⟩⟩
  rintro σ G1 ⟨e1, A0, hA0, rfl⟩
  refine ⟨_, rfl, .inl ⟨O, _, rfl, .inl (SqL.of (e1 _ _ hO)), ?_⟩⟩
  rw [List.length_map]
  refine ⟨(order.length : Int), rfl, by omega, by omega, ?_⟩
  rw [Int.toNat_natCast]
  refine for_it walk_range (fun i σ G' => Same G G' ∧ (∃ (A : Addr) (known : List Str), G' A = some (.lst (known.map V.str)) ∧ known.length ≤ 1 + i * 100 ∧ KnI ps (fun x => x ∈ order.take M) order one i known ∧ ∃ y6 y7, σ = [some (.ref O), some (.ref Tt), some (.str one), some (.str two), some (.int M), some (.ref A), y6, y7, none, none]))
    ⟨e1, A0, [one], hA0, Nat.le_refl _, KnI.start m1, _, _, rfl⟩ (fun _ _ _ _ _ => trivial) ?_ ?_
  · clear hA0 e1 A0
    rintro i x σ G1 G2 hi ⟨e, A, known, hA, lk, I, y6, y7, rfl⟩ ⟨rfl, rfl⟩
    have lk2 : known.length ≤ 20000 := by
      have : i * 100 ≤ 100 * 100 := Nat.mul_le_mul_right _ (by omega)
      omega
    -- any
    refine ⟨_, rfl, .inl ⟨Tt, rfl, ⟨_, SqL.of (e _ _ hT)⟩, fun D nD => ?_⟩⟩
    have lx := hxs.len
    refine lc_map (walk_list (xs := xs)) (fun j => .bl (decide ((ps.getD j (("", "") : Tw)).1 ∈ known) && decide ((ps.getD j (("", "") : Tw)).2 = two))) grow_at (by omega) nD (fun G3 e3 => SqL.of (e3 _ _ (e _ _ hT))) ?_ ?_
    · rintro j v G3 G4 hj e3 ⟨rfl, g⟩ R kk
      obtain ⟨q, gq, t, rfl, ht⟩ := hxs.get g
      have ht4 := e3 _ _ (e _ _ ht)
      have hA4 := e3 _ _ hA
      have kq := kk G4 (Same.refl _)
      rw [getD_at gq] at kq
      refine ⟨t, _, rfl, SqT.of ht4, rfl, _, _, rfl, _, _, rfl, rfl, rfl, ?_⟩
      refine ⟨_, rfl, _, rfl, .inr ⟨A, _, rfl, .inl (SqL.of hA4), rfl, flat_strs known, ?_⟩⟩
      rw [inV_strs]
      by_cases c : q.1 ∈ known
      · rw [decide_eq_true c, Bool.true_and] at kq
        rw [decide_eq_true c]
        refine ⟨_, rfl, _, rfl, _, rfl, .inl ⟨rfl, ?_⟩⟩
        rw [show decide (V.str q.2 = V.str two) = decide (q.2 = two) by simp]
        exact kq
      · rw [decide_eq_false c, Bool.false_and] at kq
        rw [decide_eq_false c]
        exact ⟨_, rfl, kq⟩
    · intro G3 e3 hD
      have hD : G3 D = some (.lst ((ps.map fun q => decide (q.1 ∈ known) && decide (q.2 = two)).map V.bl)) := by
        rw [hD, range_getD ((("", "") : Tw)) (fun q : Tw => V.bl (decide (q.1 ∈ known) && decide (q.2 = two))) ps _ lx, List.map_map]
        rfl
      refine ⟨D, _, rfl, SqL.of hD, _, rfl, ite2 (fun c => ?_) (fun c => ?_)⟩
      · obtain ⟨b0, mb0, hq⟩ := List.any_eq_true.mp c
        obtain ⟨q, mq, rfl⟩ := List.mem_map.mp mb0
        have hq : (decide (q.1 ∈ known) && decide (q.2 = two)) = true := hq
        obtain ⟨h1, h2⟩ := Bool.and_eq_true_iff.mp hq
        have h2 := of_decide_eq_true h2
        subst h2
        exact k G3 true (e.trans e3) ⟨fun _ => I.yes (of_decide_eq_true h1) mq, fun _ => rfl⟩
      have none2 : ∀ z, z ∈ known → (z, two) ∉ ps := fun z mz me => c (List.any_eq_true.mpr ⟨_, List.mem_map.mpr ⟨_, me, rfl⟩, by simp [mz]⟩)
      have e03 := e.trans e3
      have hA3 := e3 _ _ hA
      clear hD c nD
      -- fresh
      refine ⟨_, rfl, .inl ⟨Tt, rfl, ⟨_, SqL.of (e03 _ _ hT)⟩, fun D nD => ?_⟩⟩
      refine lc_it (walk_list (xs := xs)) (fun j G' => Same G3 G' ∧ G' D = some (.lst ((((ps.take j).filter fun q => decide (q.1 ∈ known) && (!decide (q.2 ∈ known) && decide (q.2 ∈ order.take M))).map Prod.snd).map V.str))) ⟨grow nD, upd_same⟩ (fun j G' _ ⟨e4, _⟩ => SqL.of (e4 _ _ (e03 _ _ hT))) ?_ ?_
      · rintro j v G4 G5 hj ⟨e4, hD⟩ ⟨rfl, g⟩
        obtain ⟨q, gq, t, rfl, ht⟩ := hxs.get g
        have e05 := e03.trans e4
        have ht5 := e05 _ _ ht
        have hA5 := e4 _ _ hA3
        have lf := List.length_filter_le (fun q : Tw => decide (q.1 ∈ known) && (!decide (q.2 ∈ known) && decide (q.2 ∈ order.take M))) (ps.take j)
        rw [List.length_take] at lf
        rw [filter_snoc _ gq]
        have skip : ∀ {G} (b : Bool), Same G5 G → b = false → (Same G3 G ∧ G D = some (.lst ((((ps.take j).filter fun q => decide (q.1 ∈ known) && (!decide (q.2 ∈ known) && decide (q.2 ∈ order.take M))) ++ if b = true then [q] else []).map Prod.snd |>.map V.str))) := fun b e6 h => by
          rw [h, if_neg Bool.false_ne_true, List.append_nil]
          exact ⟨e4.trans e6, e6 _ _ hD⟩
        refine ⟨t, _, rfl, SqT.of ht5, rfl, _, _, rfl, _, _, rfl, rfl, rfl, ?_⟩
        refine ⟨_, rfl, _, rfl, .inr ⟨A, _, rfl, .inl (SqL.of hA5), rfl, flat_strs known, ?_⟩⟩
        rw [inV_strs]
        by_cases c1 : q.1 ∈ known
        · rw [if_neg Bool.false_ne_true, decide_eq_true c1]
          refine ⟨_, rfl, iteT ⟨_, rfl, _, rfl, .inr ⟨A, _, rfl, .inl (SqL.of hA5), rfl, flat_strs known, ?_⟩⟩⟩
          rw [if_pos rfl, inV_strs]
          by_cases c2 : q.2 ∈ known
          · rw [decide_eq_true c2]
            exact ⟨_, rfl, iteF (iteF (skip _ (Same.refl _) rfl))⟩
          · rw [decide_eq_false c2]
            refine ⟨_, rfl, iteT ⟨_, rfl, _, rfl, _, rfl, M, rfl, .inl ⟨O, _, rfl, SqL.of (e05 _ _ hO), fun Z nZ => ?_⟩⟩⟩
            rw [cutV_pre, ← List.map_take]
            have e6 := grow (o := .lst ((order.take M).map V.str)) nZ
            refine .inr ⟨Z, _, rfl, .inl (SqL.of upd_same), rfl, flat_strs (order.take M), ?_⟩
            rw [if_neg Bool.false_ne_true, inV_strs]
            by_cases c3 : q.2 ∈ order.take M
            · rw [decide_eq_true c3]
              refine ⟨_, rfl, iteT ⟨_, rfl, _, e6 _ _ hD, size5 (by rw [List.length_map, List.length_map]; omega), same_mut (e4.trans e6) nD, ?_⟩⟩
              rw [upd_same, if_pos (show (true && (!false && true)) = true from rfl), List.map_append, List.map_append]
              rfl
            · rw [decide_eq_false c3]
              exact ⟨_, rfl, iteF (skip _ e6 rfl)⟩
        · rw [if_neg Bool.false_ne_true, decide_eq_false c1]
          exact ⟨_, rfl, iteF (iteF (skip _ (Same.refl _) rfl))⟩
      · rintro G4 ⟨e4, hD⟩
        have e04 := e03.trans e4
        have hA4 := e4 _ _ hA3
        rw [lx, List.take_length] at hD
        have mf : ∀ y, y ∈ (ps.filter fun q => decide (q.1 ∈ known) && (!decide (q.2 ∈ known) && decide (q.2 ∈ order.take M))).map Prod.snd ↔ ∃ x ∈ known, (x, y) ∈ ps ∧ y ∉ known ∧ y ∈ order.take M := fun y => by
          rw [List.mem_map]
          constructor
          · rintro ⟨q, mq, rfl⟩
            obtain ⟨a, b⟩ := List.mem_filter.mp mq
            simp only [Bool.and_eq_true, Bool.not_eq_true', decide_eq_true_eq, decide_eq_false_iff_not] at b
            exact ⟨q.1, b.1, a, b.2.1, b.2.2⟩
          · rintro ⟨x, mx, me, n, m⟩
            exact ⟨(x, y), List.mem_filter.mpr ⟨me, by simp [mx, n, m]⟩, rfl⟩
        have lf := List.length_filter_le (fun q : Tw => decide (q.1 ∈ known) && (!decide (q.2 ∈ known) && decide (q.2 ∈ order.take M))) ps
        have lfr : ((ps.filter fun q => decide (q.1 ∈ known) && (!decide (q.2 ∈ known) && decide (q.2 ∈ order.take M))).map Prod.snd).length ≤ 100 := by
          rw [List.length_map]
          omega
        generalize (ps.filter fun q => decide (q.1 ∈ known) && (!decide (q.2 ∈ known) && decide (q.2 ∈ order.take M))).map Prod.snd = fresh at hD mf lfr
        refine ⟨_, rfl, Nat.zero_le _, fun Z nZ => ?_⟩
        have e5 := e4.trans (grow (o := .lst []) nZ)
        have hD5 := (grow (o := .lst []) nZ) _ _ hD
        have hA5 := (grow (o := .lst []) nZ) _ _ hA4
        have hZ : (upd G4 Z (.lst [])) Z = some (.lst (([] : List Str).map V.str)) := upd_same
        generalize upd G4 Z (.lst []) = G5 at e5 hD5 hA5 hZ ⊢
        have d1 : PyData.depth (.list (fresh.map .str)) ≤ 60 := by
          show PyData.depthAll (fresh.map .str) + 1 ≤ 60
          rw [depth_strs']
          decide
        refine .inr ⟨.list (fresh.map .str), .list (([] : List Str).map .str), dp_sts hD5, dp_sts hZ, by omega, _, rfl, ?_⟩
        cases fresh with
        | nil =>
          refine iteT ?_
          refine k G5 false (e03.trans e5) ⟨fun q => (nomatch q), fun r => ?_⟩
          exact absurd r (I.no none2 fun x y mx me py => Classical.byContradiction fun n => by
            have := (mf y).mpr ⟨x, mx, me, n, py⟩
            exact (nomatch this))
        | cons f0 fr =>
          refine iteF ⟨_, rfl, _, rfl, .inr (.inr ⟨A, D, _, _, rfl, rfl, hA5, hD5, size5' (by rw [List.length_map, List.length_map]; omega), fun B nB => ?_⟩)⟩
          obtain ⟨x0, mx0, me0, n0, mp0⟩ := (mf f0).mp List.mem_cons_self
          refine ⟨(e03.trans e5).trans (grow nB), B, known ++ f0 :: fr, ?_, ?_, I.more List.mem_cons_self n0 fun y my => ?_, _, _, rfl⟩
          · rw [upd_same, List.map_append]
          · rw [List.length_append]
            omega
          · obtain ⟨x, mx, me, _, mp⟩ := (mf y).mp my
            exact ⟨mp, (hE _ me).2.1, x, mx, me⟩
  · rintro σ G1 ⟨e, A, known, hA, lk, I, y6, y7, rfl⟩
    have := I.le
    omega

end
end Fb

set_option Elab.async false
set_option linter.all false
set_option maxRecDepth 100000
set_option maxHeartbeats 4000000
namespace Fb
open PySem PySem.Spec L2
open PyProof.Rows hiding St
open C8 (Cal Met Mak Def cal0 met0 mak0 pe_c pe_mk pe_mt pe_mt0 fnScope fnBody fnArgs pss_cut tCut)
local macro_rules | `(tactic| walk_at "hp") => `(tactic| first | exact upd_same | assumption | (refine grow (by assumption) _ _ ?_; walk_at "hp") | (refine (show Same _ _ by assumption) _ _ ?_; walk_at "hp"))
local macro_rules | `(tactic| walk_at "sm") => `(tactic| first | exact Same.refl _ | assumption | (refine Same.trans ?_ (grow (by assumption)); walk_at "sm") | (refine Same.trans ?_ (show Same _ _ by assumption); walk_at "sm"))
section
variable {P : Program} {w : World} {K : PySem.W.Frag} {mg : Str → Option Value} {base : Heap}
variable {C_Shape C_Plan C_Links C_PlanTaken C_PlanRefused A_plan_of : Addr}
/-! ### _law_low -/
def spLLowW (K : PySem.W.Frag) : Sp := sp2 fun a b H Q => ∃ (O Tt : Addr) (xs : List V) (ps : List Tw) (order : List Str), a = .ref O ∧ b = .ref Tt ∧ H Tt = some (.lst xs) ∧ TwsV H xs ps ∧ ps.length ≤ 100 ∧ H O = some (.lst (order.map V.str)) ∧ Nms order ∧ order.Nodup ∧ order.length ≤ 100 ∧
  (∀ p ∈ ps, p.1 ∈ order ∧ p.2 ∈ order ∧ p.1 ≠ p.2) ∧ ∀ (H' : Hp) (D : Addr) (ys : List V) (fs : List Tw), Same H H' → H D = none → H' D = some (.lst ys) → TwsV H' ys fs → Prs (fun q => LowP ps order q) fs → fs.length ≤ 10000 → Q (.ref D) H'
theorem c__law_low (T : Top K mg C_Shape C_Plan C_Links C_PlanTaken C_PlanRefused A_plan_of) : Cal P w K mg base 2 "_law_low" (spLLowW K) [] := by
  obtain ⟨f, fd, F, df⟩ := T.d__law_low
  refine cal_of F df (fn2 F sc__law_low fun cdv A outer s H a b Q E hr h => ?_) fun _ _ _ _ _ _ us hl => match us, hl with | [_, _], _ => rfl
  have nd := sc__law_low.nd
  obtain ⟨O, Tt, xs, ps, order, rfl, rfl, hT, hxs, lp, hO, nm, ndo, lo, hE, k⟩ := h
  refine ⟨_, (pss_cons 
      (ps_set (i := 2) nd rfl (Or.inl rfl) (pe_lst pa_nil)) (pss_cons 
      (ps_for PassesOwn.never rfl (pi_K (K := K) rfl (pe_callB (srt_K (K := K) rfl hr) (by rfl) T.sorted (by decide +kernel) (pa_cons (pv 0) pa_nil))) (pg_name (i := 3) nd rfl (Or.inr rfl)) (pss_one 
      (ps_set (i := 2) nd rfl (Or.inl rfl) (pe_op op_addU (pv 2) (pe_lc (own := [("other", 4)]) rfl nd (pi_K (K := K) rfl (pe_callB (srt_K (K := K) rfl hr) (by rfl) T.sorted (by decide +kernel) (pa_cons (pv 0) pa_nil))) (blkOk_by (N := ["order", "turns", "found", "one", "other"]) (sc := fnScope s__law_low) (by decide +kernel)) (fun _ _ _ _ _ => (pg_name (i := 4) nd rfl (Or.inl rfl))) (fun _ _ _ _ _ => (pts_one (PW.pt (pw_and (pt_cmpR (ne_K (K := K) rfl hr) (pv 4) (pv 3) (nomark _)) (pw_and1 (pt_val (pe_c (c__law_reached T) hr (by decide) (by rfl) (pa_cons (pv 0) (pa_cons (pv 1) (pa_cons (pv 3) (pa_cons (pv 4) pa_nil))))))))))) (fun _ _ _ _ _ => (pe_tup (pa_cons (pv 3) (pa_cons (pv 4) pa_nil))))))))) (pss_one 
      (ps_ret (pv 2))))), ?_⟩
  generalize hR : (fun s t => Rch ps (fun x => x ∈ order.take (min (order.idxOf s) (order.idxOf t))) s t) = R
  have eR : ∀ s t, R s t ↔ Rch ps (fun x => x ∈ order.take (min (order.idxOf s) (order.idxOf t))) s t := fun s t => by rw [← hR]
  have pw := List.mergeSort_perm order stLe
  have ndw : (order.mergeSort stLe).Nodup := pw.nodup_iff.mpr ndo
  have sow := rows_so ndw (lin_st.sorted order)
  have mw : ∀ r, r ∈ order.mergeSort stLe ↔ r ∈ order := fun r => pw.mem_iff
  have lw : (order.mergeSort stLe).length = order.length := pw.length_eq
  refine ⟨Nat.zero_le _, fun F0 nF0 => ?_⟩
  have e0 := grow (o := .lst []) nF0
  have hF0 : (upd H F0 (.lst [])) F0 = some (.lst []) := upd_same
  generalize upd H F0 (.lst []) = H0 at e0 hF0 ⊢
  refine ⟨_, rfl, ?_⟩
  dsimp only [tNil]
  refine srt_st (.inl (SqL.of (e0 _ _ hO))) fun S nS => ?_
  generalize order.mergeSort stLe = ws at ndw sow mw lw ⊢
  have eS := e0.trans (grow (o := .lst (ws.map V.str)) nS)
  have hS : (upd H0 S (.lst (ws.map V.str))) S = some (.lst (ws.map V.str)) := upd_same
  have hF1 := (grow (o := .lst (ws.map V.str)) nS) _ _ hF0
  generalize upd H0 S (.lst (ws.map V.str)) = H1 at eS hS hF1 ⊢
  refine .inl ⟨S, rfl, ⟨_, SqL.of hS⟩, ?_⟩
  refine for_it (D := { nx := tRet (tVar 2) { nx := fun _ H' => Q .non H', rt := Q }, rt := Q }) (walk_list (xs := ws.map V.str)) (fun i σ G => Same H G ∧ G S = some (.lst (ws.map V.str)) ∧ ∃ (F : Addr) (ys : List V) (fs : List Tw), H F = none ∧ G F = some (.lst ys) ∧ TwsV G ys fs ∧ fs.Nodup ∧ fs.Pairwise (fun a b => twLe a b = true) ∧ fs.length ≤ i * order.length ∧ (∀ s t, (s, t) ∈ fs ↔ s ∈ ws.take i ∧ t ∈ order ∧ s ≠ t ∧ R s t) ∧ ∃ y3 y4, σ = [some (.ref O), some (.ref Tt), some (.ref F), y3, y4])
    ⟨eS, hS, F0, [], [], nF0, hF1, .nil, List.nodup_nil, .nil, Nat.zero_le _, fun s t => ⟨fun m => (nomatch m), fun m => (nomatch m.1)⟩, _, _, rfl⟩ (fun i σ G _ h => SqL.of (K := K) h.2.1) ?_ ?_
  · clear hF0 hF1 hS eS e0
    rintro i v σ G1 G2 hi ⟨e, hS, F, ys, fs, nF, hF, hys, ndf, sof, lf, mf, y3, y4, rfl⟩ ⟨rfl, g⟩
    obtain ⟨one, go, rfl⟩ := st_get g
    have mo := (mw _).mp (List.mem_of_getElem? go)
    have il : i < order.length := by
      rw [List.length_map] at hi
      omega
    refine ⟨_, rfl, _, rfl, ?_⟩
    dsimp only [tNil]
    refine srt_st (.inl (SqL.of (e _ _ hO))) fun S2 nS2 => ?_
    have ew : order.mergeSort stLe = ws := lin_st.uniq (lin_st.sorted order) (sow.imp fun {a b} h => by
      show stLe a b = true
      rw [stLe_eq]
      exact decide_eq_true (List.le_of_lt h)) (nodup_perm ((List.mergeSort_perm order stLe).nodup_iff.mpr ndo) ndw fun x => by rw [List.mem_mergeSort, mw])
    rw [ew]
    have eS2 := grow (o := .lst (ws.map V.str)) nS2
    have hS2 : (upd G2 S2 (.lst (ws.map V.str))) S2 = some (.lst (ws.map V.str)) := upd_same
    have hF2 := eS2 _ _ hF
    have hys2 := hys.kp (Same.kpt eS2)
    have hSS := eS2 _ _ hS
    have e := e.trans eS2
    clear hF hys hS
    generalize upd G2 S2 (.lst (ws.map V.str)) = G3 at eS2 hS2 hF2 hys2 hSS e ⊢
    refine .inl ⟨S2, rfl, ⟨_, SqL.of hS2⟩, fun D nD => ?_⟩
    refine lc_it (walk_list (xs := ws.map V.str)) (fun l G' => Same G3 G' ∧ ∃ (zs : List V) (qs : List Tw), G' D = some (.lst zs) ∧ TwsV G' zs qs ∧ qs.Nodup ∧ qs.Pairwise (fun a b => twLe a b = true) ∧ qs.length ≤ l ∧ ∀ s t, (s, t) ∈ qs ↔ s = one ∧ t ∈ ws.take l ∧ s ≠ t ∧ R s t) ⟨grow nD, [], [], upd_same, .nil, List.nodup_nil, .nil, Nat.le_refl _, fun s t => ⟨fun m => (nomatch m), fun m => (nomatch m.2.1)⟩⟩ (fun l G' _ ⟨e2, _⟩ => SqL.of (e2 _ _ hS2)) ?_ ?_
    · rintro l v G4 G5 hl ⟨e2, zs, qs, hD, hzs, ndq, soq, lq, mq⟩ ⟨rfl, g2⟩
      obtain ⟨two, gt, rfl⟩ := st_get g2
      have mt := (mw _).mp (List.mem_of_getElem? gt)
      have ts := take_snoc gt
      have ll : l < order.length := by
        rw [List.length_map] at hl
        omega
      have e3 := e.trans e2
      have skip : ∀ {G}, Same G5 G → ¬ (one ≠ two ∧ R one two) → (Same G3 G ∧ ∃ (zs : List V) (qs : List Tw), G D = some (.lst zs) ∧ TwsV G zs qs ∧ qs.Nodup ∧ qs.Pairwise (fun a b => twLe a b = true) ∧ qs.length ≤ l + 1 ∧ ∀ s t, (s, t) ∈ qs ↔ s = one ∧ t ∈ ws.take (l + 1) ∧ s ≠ t ∧ R s t) := by
        intro G e4 no
        refine ⟨e2.trans e4, zs, qs, e4 _ _ hD, hzs.kp (Same.kpt e4), ndq, soq, by omega, fun s t => ?_⟩
        rw [mq, ts, List.mem_append, List.mem_singleton]
        constructor
        · rintro ⟨a, b, c⟩
          exact ⟨a, .inl b, c⟩
        · rintro ⟨a, b | b, c⟩
          · exact ⟨a, b, c⟩
          · rw [a, b] at c
            exact absurd c no
      refine ⟨rfl, _, rfl, _, rfl, .inl ⟨rfl, _, rfl, ?_⟩⟩
      by_cases c : two = one
      · rw [show (!decide (V.str two = V.str one)) = false by simp [c]]
        exact iteF (skip (Same.refl _) fun h => h.1 c.symm)
      rw [show (!decide (V.str two = V.str one)) = true by simp [c]]
      refine iteT ⟨_, rfl, _, rfl, _, rfl, _, rfl, _, _, _, _, rfl, O, Tt, one, two, xs, ps, order, rfl, rfl, rfl, rfl, e3 _ _ hT, hxs.kp (Same.kpt e3), lp, e3 _ _ hO, nm, ndo, lo, mo, mt, hE, fun G6 b e6 hb => ?_⟩
      rw [← eR] at hb
      cases b with
      | false => exact ⟨_, rfl, iteF (skip e6 fun h => (nomatch hb.mpr h.2))⟩
      | true =>
        have r := hb.mp rfl
        have lz := hzs.len
        refine ⟨_, rfl, iteT ⟨_, rfl, _, rfl, Nat.le_of_ble_eq_true rfl, fun q nq => ?_⟩⟩
        have e7 := e6.trans (grow (o := .tup [.str one, .str two]) nq)
        have hq : (upd G6 q (.tup [.str one, .str two])) q = some (.tup [.str one, .str two]) := upd_same
        refine ⟨zs, e7 _ _ hD, size5 (by omega), ?_⟩
        have kp : Kpt (upd G6 q (.tup [.str one, .str two])) (upd (upd G6 q (.tup [.str one, .str two])) D (.lst (zs ++ [.ref q]))) := kpt_lst (e7 _ _ hD)
        have nin : (one, two) ∉ qs := fun m => nd_take ndw gt ((mq _ _).mp m).2.1
        refine ⟨same_mut (e2.trans e7) nD, zs ++ [.ref q], qs ++ [(one, two)], upd_same, ((hzs.kp (Same.kpt e7)).kp kp).app (.cons ⟨q, rfl, kp _ _ hq⟩ .nil), ?_, ?_, ?_, fun s t => ?_⟩
        · exact List.nodup_append.mpr ⟨ndq, nd1, fun y hy z hz => by rw [List.mem_singleton.mp hz]; exact fun q => nin (q ▸ hy)⟩
        · refine List.pairwise_append.mpr ⟨soq, List.pairwise_singleton _ _, fun y hy z hz => ?_⟩
          rw [List.mem_singleton.mp hz]
          obtain ⟨y1, y2⟩ := y
          obtain ⟨a, b, _⟩ := (mq _ _).mp hy
          refine (twLe_iff _ _).mpr (.inr ⟨a, fun q => ?_⟩)
          exact stLt_irr _ (stLt_tr q (take_lt sow gt b))
        · rw [List.length_append]
          exact Nat.succ_le_succ lq
        · rw [List.mem_append, List.mem_singleton, mq, ts, List.mem_append, List.mem_singleton]
          constructor
          · rintro (⟨a, b, c⟩ | h)
            · exact ⟨a, .inl b, c⟩
            · cases h
              exact ⟨rfl, .inr rfl, fun q => c q.symm, r⟩
          · rintro ⟨a, b | b, c⟩
            · exact .inl ⟨a, b, c⟩
            · rw [a, b]
              exact .inr rfl
    · rintro G4 ⟨e2, zs, qs, hD, hzs, ndq, soq, lq, mq⟩
      rw [List.length_map] at lq
      rw [List.length_map, List.take_length] at mq
      have l1 := hys2.len
      have l2 := hzs.len
      have lfm : fs.length ≤ 100 * 100 := Nat.le_trans lf (Nat.mul_le_mul (by omega) lo)
      refine .inr (.inr ⟨F, D, ys, zs, rfl, rfl, e2 _ _ hF2, hD, size5' (by omega), fun A nA => ?_⟩)
      have e5 := e2.trans (grow (o := .lst (ys ++ zs)) nA)
      have ts := take_snoc go
      refine ⟨e.trans e5, e5 _ _ hSS, A, ys ++ zs, fs ++ qs, (e.trans e2).free nA, upd_same, (hys2.kp (Same.kpt e5)).app (hzs.kp (Same.kpt (grow nA))), ?_, ?_, ?_, fun s t => ?_, _, _, rfl⟩
      · refine List.nodup_append.mpr ⟨ndf, ndq, fun y hy z hz q => ?_⟩
        obtain ⟨y1, y2⟩ := y
        obtain ⟨z1, z2⟩ := z
        cases q
        have a := ((mf _ _).mp hy).1
        have b := ((mq _ _).mp hz).1
        rw [b] at a
        exact nd_take ndw go a
      · refine List.pairwise_append.mpr ⟨sof, soq, fun y hy z hz => ?_⟩
        obtain ⟨y1, y2⟩ := y
        obtain ⟨z1, z2⟩ := z
        have a := ((mf _ _).mp hy).1
        have b := ((mq _ _).mp hz).1
        refine (twLe_iff _ _).mpr (.inl ?_)
        show stLt y1 z1
        rw [b]
        exact take_lt sow go a
      · rw [List.length_append, Nat.succ_mul]
        omega
      · rw [List.mem_append, mf, mq, ts, List.mem_append, List.mem_singleton, mw]
        constructor
        · rintro (⟨a, b, c⟩ | ⟨a, b, c⟩)
          · exact ⟨.inl a, b, c⟩
          · exact ⟨.inr a, b, c⟩
        · rintro ⟨a | a, b, c⟩
          · exact .inl ⟨a, b, c⟩
          · exact .inr ⟨a, b, c⟩
  · rintro σ G ⟨e, hS, F, ys, fs, nF, hF, hys, ndf, sof, lf, mf, y3, y4, rfl⟩
    rw [List.length_map, List.take_length] at mf
    rw [List.length_map] at lf
    refine ⟨_, rfl, k G F ys fs e nF hF hys ⟨ndf, sof, fun q => ?_⟩ (Nat.le_trans lf (Nat.le_trans (Nat.mul_le_mul (show ws.length ≤ 100 by omega) lo) (Nat.le_of_eq rfl)))⟩
    obtain ⟨s, t⟩ := q
    rw [mf, mw, eR]
    exact Iff.rfl

end
end Fb

set_option Elab.async false
set_option linter.all false
set_option maxRecDepth 100000
set_option maxHeartbeats 4000000
namespace Fb
open PySem PySem.Spec L2
open PyProof.Rows hiding St
open C8 (Cal Met Mak Def cal0 met0 mak0 pe_c pe_mk pe_mt pe_mt0 fnScope fnBody fnArgs pss_cut tCut)
local macro_rules | `(tactic| walk_at "hp") => `(tactic| first | exact upd_same | assumption | (refine grow (by assumption) _ _ ?_; walk_at "hp") | (refine (show Same _ _ by assumption) _ _ ?_; walk_at "hp"))
local macro_rules | `(tactic| walk_at "sm") => `(tactic| first | exact Same.refl _ | assumption | (refine Same.trans ?_ (grow (by assumption)); walk_at "sm") | (refine Same.trans ?_ (show Same _ _ by assumption); walk_at "sm"))
section
variable {P : Program} {w : World} {K : PySem.W.Frag} {mg : Str → Option Value} {base : Heap}
variable {C_Shape C_Plan C_Links C_PlanTaken C_PlanRefused A_plan_of : Addr}
/-! ### _law_spare -/
def spSpare (K : PySem.W.Frag) : Sp := sp3 fun a b c H Q => ∃ (p O L : Addr) (order : List Str) (ls : List V) (low : List Tw), a = .ref p ∧ b = .ref O ∧ c = .ref L ∧ BagAt H p ∧ H O = some (.lst (order.map V.str)) ∧ H L = some (.lst ls) ∧ TwsV H ls low ∧ low.length ≤ 10000 ∧ NmT low ∧ Nms order ∧ order ≠ [] ∧ order.length ≤ 1000 ∧
  ∀ (H' : Hp) (D : Addr) (xs : List V) (ts : List Tw), Same H H' → H D = none → H' D = some (.lst xs) → TwsV H' xs ts → ts.length ≤ 10 → PsOk order ts → (∀ q ∈ ts, q ∉ low) → Q (.ref D) H'
theorem c__law_spare (T : Top K mg C_Shape C_Plan C_Links C_PlanTaken C_PlanRefused A_plan_of) : Cal P w K mg base 3 "_law_spare" (spSpare K) [] := by
  obtain ⟨f, fd, F, df⟩ := T.d__law_spare
  refine cal_of F df (fn3 F sc__law_spare fun cdv A outer s H a b c Q E hr h => ?_) fun _ _ _ _ _ _ us hl => match us, hl with | [_, _, _], _ => rfl
  have nd := sc__law_spare.nd
  obtain ⟨p, O, L, order, ls, low, rfl, rfl, rfl, hb, hO, hL, hls, ll, nml, nmo, neo, lo, k⟩ := h
  refine ⟨_, (pss_cons 
      (ps_set (i := 3) nd rfl (Or.inl rfl) (pe_lst pa_nil)) (pss_cons 
      (ps_for PassesOwn.never rfl (pi_range1 (by rfl) T.range (pa_cons (pe_c (c__law_of T) hr (by decide) (by rfl) (pa_cons (pv 0) (pa_cons (pe_lst (pa_cons pe_int (pa_cons pe_int (pa_cons pe_int (pa_cons pe_int (pa_cons pe_int pa_nil)))))) pa_nil))) pa_nil)) (pg_name (i := 4) nd rfl (Or.inl rfl)) (pss_cons 
      (ps_set (i := 5) nd rfl (Or.inl rfl) (pe_tup (pa_cons (pe_c (c__law_of T) hr (by decide) (by rfl) (pa_cons (pv 0) (pa_cons (pv 1) pa_nil))) (pa_cons (pe_c (c__law_of T) hr (by decide) (by rfl) (pa_cons (pv 0) (pa_cons (pv 1) pa_nil))) pa_nil)))) (pss_one 
      (ps_if (PW.pt (pw_and (pt_cmpR (ne_K (K := K) rfl hr) (pe_ix (ix_K (K := K) rfl) (pv 5) pe_int (fun _ _ => rfl)) (pe_ix (ix_K (K := K) rfl) (pv 5) pe_int (fun _ _ => rfl)) (nomark _)) (pw_and (pt_cmpR (notInD_K (K := K) rfl (room_65 hr)) (pv 5) (pv 2) (by with_unfolding_all rfl)) (pw_and1 (pt_cmpR (notInD_K (K := K) rfl (room_65 hr)) (pv 5) (pv 3) (by with_unfolding_all rfl)))))) (pss_one 
      (ps_expr (pe_bm PySem.F.plainAttrs_list PySem.F.slot_list_append PySem.F.type_list_append mt_append (pv 3) (pa_cons (pv 5) pa_nil)))) pss_nil)))) (pss_one 
      (ps_ret (pv 3))))), ?_⟩
  refine ⟨Nat.zero_le _, fun F nF => ?_⟩
  have e1 := grow (o := .lst []) nF
  have hF : (upd H F (.lst [])) F = some (.lst []) := upd_same
  generalize upd H F (.lst []) = H1 at e1 hF ⊢
  refine ⟨_, rfl, Nat.le_of_ble_eq_true rfl, fun c nc => ?_⟩
  have e2 := e1.trans (grow (o := .lst [.int 0, .int 2, .int 0, .int 4, .int 1]) nc)
  have hc : (upd H1 c (.lst [.int 0, .int 2, .int 0, .int 4, .int 1])) c = _ := upd_same
  have hF2 := (grow (o := .lst [.int 0, .int 2, .int 0, .int 4, .int 1]) nc) _ _ hF
  generalize upd H1 c _ = H2 at e2 hc hF2 ⊢
  refine ⟨_, _, rfl, p, rfl, hb.mono e2, .inl ⟨c, _, rfl, .inl (SqL.of hc), Nat.le_of_ble_eq_true rfl, Nat.le_of_ble_eq_true rfl, fun x hx => ?_⟩⟩
  obtain ⟨n, rfl, n4⟩ : ∃ n : Nat, x = .int n ∧ n ≤ 4 := by
    have hx : x ∈ ([0, 2, 0, 4, 1] : List Nat).map (fun n : Nat => V.int n) := hx
    obtain ⟨n, mn, rfl⟩ := List.mem_map.mp hx
    have al : ([0, 2, 0, 4, 1] : List Nat).all (fun n => decide (n ≤ 4)) = true := by decide
    exact ⟨n, rfl, of_decide_eq_true (List.all_eq_true.mp al n mn)⟩
  refine ⟨(n : Int), rfl, by omega, by omega, ?_⟩
  rw [Int.toNat_natCast]
  refine for_it walk_range (fun i σ G => Same H G ∧ (∃ (xs : List V) (ts : List Tw), G F = some (.lst xs) ∧ TwsV G xs ts ∧ ts.length ≤ i ∧ PsOk order ts ∧ ∀ q ∈ ts, q ∉ low) ∧ ∃ y4 y5, σ = [some (.ref p), some (.ref O), some (.ref L), some (.ref F), y4, y5])
    ⟨e2, ⟨[], [], hF2, .nil, Nat.le_refl _, ⟨List.nodup_nil, fun q m => (nomatch m)⟩, fun q m => (nomatch m)⟩, _, _, rfl⟩ (fun _ _ _ _ _ => trivial) ?_ ?_
  · rintro i v σ G1 G2 hi ⟨e, ⟨xs, ts, gF, hxs, lt, okt, nlt⟩, y4, y5, rfl⟩ ⟨rfl, rfl⟩
    have hb2 := hb.mono e
    have hO2 := e _ _ hO
    have l0 : 0 < (order.map V.str).length := by
      rw [List.length_map]
      exact List.length_pos_iff.mpr neo
    have l1 : (order.map V.str).length ≤ 100000 := by
      rw [List.length_map]
      omega
    refine ⟨_, rfl, _, rfl, _, _, rfl, p, rfl, hb2, .inl ⟨O, _, rfl, .inl (SqL.of hO2), l0, l1, fun x hx => ?_⟩⟩
    obtain ⟨u, mu, rfl⟩ := List.mem_map.mp hx
    refine ⟨_, rfl, _, rfl, _, _, rfl, p, rfl, hb2, .inl ⟨O, _, rfl, .inl (SqL.of hO2), l0, l1, fun x hx => ?_⟩⟩
    obtain ⟨w1, mw, rfl⟩ := List.mem_map.mp hx
    refine ⟨Nat.le_of_ble_eq_true rfl, fun t nt => ?_⟩
    have e5 := grow (o := .tup [.str u, .str w1]) nt
    have ht : (upd G2 t (.tup [.str u, .str w1])) t = some (.tup [.str u, .str w1]) := upd_same
    have gF5 := e5 _ _ gF
    have hxs5 := hxs.kp (Same.kpt e5)
    generalize upd G2 t (.tup [.str u, .str w1]) = G5 at e5 ht gF5 hxs5 ⊢
    have at0 : atI [V.str u, .str w1] 0 = some (.str u) := rfl
    have at1 : atI [V.str u, .str w1] 1 = some (.str w1) := rfl
    have skip : Same H G5 ∧ (∃ (xs : List V) (ts : List Tw), G5 F = some (.lst xs) ∧ TwsV G5 xs ts ∧ ts.length ≤ i + 1 ∧ PsOk order ts ∧ ∀ q ∈ ts, q ∉ low) := ⟨e.trans e5, xs, ts, gF5, hxs5, by omega, okt, nlt⟩
    refine ⟨_, rfl, .inr (.inl ⟨t, _, _, _, rfl, rfl, SqT.of ht, at0, _, rfl, .inr (.inl ⟨t, _, _, _, rfl, rfl, SqT.of ht, at1, ?_⟩)⟩)⟩
    refine .inl ⟨rfl, _, rfl, ite2 (fun c => ?_) (fun _ => ⟨skip.1, skip.2, _, _, rfl⟩)⟩
    have c : u ≠ w1 := by
      rintro rfl
      simp at c
    have tv : TwV G5 (.ref t) (u, w1) := ⟨t, rfl, ht⟩
    have e05 := e.trans e5
    refine ⟨_, rfl, _, rfl, twD (u, w1), low.map twD, tv.dp, .lst (SqL.of (e05 _ _ hL)) (hls.kp (Same.kpt e05)).dp, shaped_tw ⟨nmo u mu, nmo w1 mw⟩, shaped_tws nml, ?_⟩
    rw [any_tw]
    refine ⟨_, rfl, ite2 (fun c2 => ?_) (fun _ => ⟨skip.1, skip.2, _, _, rfl⟩)⟩
    have c2 : (u, w1) ∉ low := by simpa using c2
    have nmt : NmT ts := fun q m => ⟨nmo _ (okt.2 q m).1, nmo _ (okt.2 q m).2.1⟩
    refine ⟨_, rfl, _, rfl, twD (u, w1), ts.map twD, tv.dp, .lst (SqL.of gF5) hxs5.dp, shaped_tw ⟨nmo u mu, nmo w1 mw⟩, shaped_tws nmt, ?_⟩
    rw [any_tw]
    refine ⟨_, rfl, ite2 (fun c3 => ?_) (fun _ => ⟨skip.1, skip.2, _, _, rfl⟩)⟩
    have c3 : (u, w1) ∉ ts := by simpa using c3
    have lx := hxs5.len
    have kp : Kpt G5 (upd G5 F (.lst (xs ++ [.ref t]))) := kpt_lst gF5
    refine ⟨_, rfl, .inl ⟨rfl, _, SqL.of gF5⟩, _, rfl, F, _, _, rfl, rfl, gF5, size5 (by omega), ?_⟩
    refine ⟨same_mut e05 nF, ⟨xs ++ [.ref t], ts ++ [(u, w1)], upd_same, (hxs5.kp kp).app (.cons (tv.kp kp) .nil), ?_, okt.add mu mw c c3, fun q mq => ?_⟩, _, _, rfl⟩
    · rw [List.length_append, List.length_singleton]
      omega
    · rcases List.mem_append.mp mq with mq | mq
      · exact nlt q mq
      · rw [List.mem_singleton.mp mq]
        exact c2
  · rintro σ G1 ⟨e, ⟨xs, ts, gF, hxs, lt, okt, nlt⟩, y4, y5, rfl⟩
    exact ⟨_, rfl, k G1 F xs ts e nF gF hxs (by omega) okt nlt⟩

end
end Fb

set_option Elab.async false
set_option linter.all false
set_option maxRecDepth 100000
set_option maxHeartbeats 4000000
namespace Fb
open PySem PySem.Spec L2
open PyProof.Rows hiding St
open C8 (Cal Met Mak Def cal0 met0 mak0 pe_c pe_mk pe_mt pe_mt0 fnScope fnBody fnArgs pss_cut tCut)
local macro_rules | `(tactic| walk_at "hp") => `(tactic| first | exact upd_same | assumption | (refine grow (by assumption) _ _ ?_; walk_at "hp") | (refine (show Same _ _ by assumption) _ _ ?_; walk_at "hp"))
local macro_rules | `(tactic| walk_at "sm") => `(tactic| first | exact Same.refl _ | assumption | (refine Same.trans ?_ (grow (by assumption)); walk_at "sm") | (refine Same.trans ?_ (show Same _ _ by assumption); walk_at "sm"))
section
variable {P : Program} {w : World} {K : PySem.W.Frag} {mg : Str → Option Value} {base : Heap}
variable {C_Shape C_Plan C_Links C_PlanTaken C_PlanRefused A_plan_of : Addr}
/-! ### Shape.roads -/
def spShRoads (C : Addr) : Sp := sp1 fun a H Q => ∃ (x : Addr) (ws : List Str) (ps : List Tw), a = .ref x ∧ ShapeAt C H x ws ps ∧ ∀ p, H p = none → Q (.ref p) (upd H p (.lst (ws.map V.str)))
theorem c_Shape_roads (T : Top K mg C_Shape C_Plan C_Links C_PlanTaken C_PlanRefused A_plan_of) : Met P w K mg base 1 C_Shape "roads" (spShRoads C_Shape) [] := by
  obtain ⟨f, fd, me, F, df⟩ := T.d_Shape_roads
  refine ⟨f, fd, ["self"], [], T.cl_Shape, me, ?_, F.binds df fun _ _ _ _ _ _ us hl => match us, hl with | [_], _ => rfl, .nil⟩
  refine fm1 F sc_Shape_roads fun cdv A outer s H a Q E hr h => ?_
  have nd := sc_Shape_roads.nd
  obtain ⟨x, ws, ps, rfl, ⟨dx, F, Tt, L, fvs, tvs, h1, h2, h3, h4, h5, _⟩, k⟩ := h
  refine ⟨_, (pss_one 
      (ps_ret (pe_callTy (call_list_dK rfl) (by rfl) T.list (by decide +kernel) (pa_cons (pe_fld (pv 0) rfl) pa_nil)))), ?_⟩
  refine ⟨_, rfl, x, C_Shape, dx, _, _, rfl, h1, T.cl_Shape, T.na_Shape__following, shF_f, F, fvs, rfl, h2, fun q nq => ?_⟩
  rw [keys_nm h3]
  exact k q nq

end
end Fb

set_option Elab.async false
set_option linter.all false
set_option maxRecDepth 100000
set_option maxHeartbeats 4000000
namespace Fb
open PySem PySem.Spec L2
open PyProof.Rows hiding St
open C8 (Cal Met Mak Def cal0 met0 mak0 pe_c pe_mk pe_mt pe_mt0 fnScope fnBody fnArgs pss_cut tCut)
local macro_rules | `(tactic| walk_at "hp") => `(tactic| first | exact upd_same | assumption | (refine grow (by assumption) _ _ ?_; walk_at "hp") | (refine (show Same _ _ by assumption) _ _ ?_; walk_at "hp"))
local macro_rules | `(tactic| walk_at "sm") => `(tactic| first | exact Same.refl _ | assumption | (refine Same.trans ?_ (grow (by assumption)); walk_at "sm") | (refine Same.trans ?_ (show Same _ _ by assumption); walk_at "sm"))
section
variable {P : Program} {w : World} {K : PySem.W.Frag} {mg : Str → Option Value} {base : Heap}
variable {C_Shape C_Plan C_Links C_PlanTaken C_PlanRefused A_plan_of : Addr}
/-! ### Shape.__contains__ -/
def spShIn (C : Addr) : Sp := sp2 fun a b H Q => ∃ (x : Addr) (ws : List Str) (ps : List Tw) (z : Str), a = .ref x ∧ b = .str z ∧ ShapeAt C H x ws ps ∧ Q (.bl (decide (z ∈ ws))) H
theorem c_Shape___contains__ (T : Top K mg C_Shape C_Plan C_Links C_PlanTaken C_PlanRefused A_plan_of) : Met P w K mg base 1 C_Shape "__contains__" (spShIn C_Shape) [] := by
  obtain ⟨f, fd, me, F, df⟩ := T.d_Shape___contains__
  refine ⟨f, fd, ["self", "name"], [], T.cl_Shape, me, ?_, F.binds df fun _ _ _ _ _ _ us hl => match us, hl with | [_, _], _ => rfl, .nil⟩
  refine fm2 F sc_Shape___contains__ fun cdv A outer s H a b Q E hr h => ?_
  have nd := sc_Shape___contains__.nd
  obtain ⟨x, ws, ps, z, rfl, rfl, ⟨dx, F, Tt, L, fvs, tvs, h1, h2, h3, h4, h5, _⟩, k⟩ := h
  refine ⟨_, (pss_one 
      (ps_ret (pe_and (pe_callB (isi_K (K := K) rfl) (by rfl) T.isinstance (by decide +kernel) (pa_cons (pv 1) (pa_cons (pe_bltn (v := .ty "str") (by rfl) T.str (by decide +kernel) rfl) pa_nil))) (pe_one (pe_cmp (pc_din (hu_of hr) (pv 1) (pe_fld (pv 0) rfl)) (by with_unfolding_all rfl)))))), ?_⟩
  refine ⟨_, rfl, .inl ⟨_, _, _, true, rfl, .base (.str z), by decide +kernel, _, rfl, ?_⟩⟩
  refine ⟨_, rfl, _, rfl, x, C_Shape, dx, _, _, rfl, h1, T.cl_Shape, T.na_Shape__following, shF_f, F, _, rfl, DGet.k (k := Sum.inr z) h2, ?_⟩
  rw [val_in h3]
  exact k

end
end Fb

set_option Elab.async false
set_option linter.all false
set_option maxRecDepth 100000
set_option maxHeartbeats 4000000
namespace Fb
open PySem PySem.Spec L2
open PyProof.Rows hiding St
open C8 (Cal Met Mak Def cal0 met0 mak0 pe_c pe_mk pe_mt pe_mt0 fnScope fnBody fnArgs pss_cut tCut)
local macro_rules | `(tactic| walk_at "hp") => `(tactic| first | exact upd_same | assumption | (refine grow (by assumption) _ _ ?_; walk_at "hp") | (refine (show Same _ _ by assumption) _ _ ?_; walk_at "hp"))
local macro_rules | `(tactic| walk_at "sm") => `(tactic| first | exact Same.refl _ | assumption | (refine Same.trans ?_ (grow (by assumption)); walk_at "sm") | (refine Same.trans ?_ (show Same _ _ by assumption); walk_at "sm"))
section
variable {P : Program} {w : World} {K : PySem.W.Frag} {mg : Str → Option Value} {base : Heap}
variable {C_Shape C_Plan C_Links C_PlanTaken C_PlanRefused A_plan_of : Addr}
/-! ### check_order -/
def spCheckOrder (K : PySem.W.Frag) (C : Addr) : Sp := sp2 fun a b H Q => ∃ (x l : Addr) (ws order : List Str) (ps : List Tw), a = .ref x ∧ b = .ref l ∧ ShapeAt C H x ws ps ∧ SqL K H l (order.map V.str) ∧ order.Nodup ∧ (∀ r, r ∈ order ↔ r ∈ ws) ∧ order.length ≤ 1000 ∧ Then H Q .non
theorem c_check_order (T : Top K mg C_Shape C_Plan C_Links C_PlanTaken C_PlanRefused A_plan_of) : Cal P w K mg base 2 "check_order" (spCheckOrder K C_Shape) [] := by
  obtain ⟨f, fd, F, df⟩ := T.d_check_order
  refine cal_of F df (fn2 F sc_check_order fun cdv A outer s H a b Q E hr h => ?_) fun _ _ _ _ _ _ us hl => match us, hl with | [_, _], _ => rfl
  have nd := sc_check_order.nd
  obtain ⟨x, l, ws, order, ps, rfl, rfl, hx, hs, nd', mo, hl, q⟩ := h
  refine ⟨_, (pss_cons 
      (ps_set (i := 2) nd rfl (Or.inl rfl) pe_dnewK) (pss_cons 
      (ps_for PassesOwn.never rfl (pi_K (K := K) rfl (pv 1)) (pg_name (i := 3) nd rfl (Or.inl rfl)) (pss_cons 
      (ps_if (PW.pt (pw_or (pt_cmpR (op_notInOwn (c_Shape___contains__ T) hr (by decide)) (pv 3) (pv 0) (by with_unfolding_all rfl)) (pw_or1 (pt_cmp (pc_din (hu_of hr) (pv 3) (pv 2)) (by with_unfolding_all rfl))))) (pss_one 
      ps_never) pss_nil) (pss_one 
      (ps_dput (hu_of hr) (pv 2) (pv 3) pe_bl rfl)))) (pss_one 
      (ps_for PassesOwn.never rfl (pi_K (K := K) rfl (pe_mt0 (c_Shape_roads T) hr (by decide) (pv 0))) (pg_name (i := 3) nd rfl (Or.inl rfl)) (pss_one 
      (ps_if (pt_cmp (pc_dnotin (hu_of hr) (pv 3) (pv 2)) (by with_unfolding_all rfl)) (pss_one 
      ps_never) pss_nil)))))), ?_⟩
  refine fun d nd0 => ?_
  have e1 := grow (o := .dK []) nd0
  refine ⟨_, rfl, .inl ⟨l, rfl, ⟨_, e1.seq hs⟩, ?_⟩⟩
  refine for_it (walk_list (xs := order.map V.str)) (fun i σ H' => Same H H' ∧ H' d = some (.dK (setD (order.take i))) ∧ ∃ y, σ = [some (.ref x), some (.ref l), some (.ref d), y]) ⟨e1, upd_same, _, rfl⟩ (fun i σ H' _ ⟨e, _⟩ => e.seq hs) ?_ ?_
  · rintro i v σ H2 H3 hi ⟨e, hd, y, rfl⟩ ⟨rfl, g⟩
    obtain ⟨z, gz, rfl⟩ := st_get g
    have mz := List.mem_of_getElem? gz
    have nz := nd_take nd' gz
    refine ⟨_, rfl, _, rfl, x, _, _, rfl, (hx.mono e).ins.choose_spec.choose_spec.choose_spec.choose_spec, ?_⟩
    refine ⟨_, _, rfl, x, ws, ps, z, rfl, rfl, hx.mono e, _, rfl, ?_⟩
    rw [decide_eq_true ((mo z).mp mz)]
    refine ⟨_, rfl, iteF ?_⟩
    refine ⟨_, rfl, _, rfl, d, _, rfl, DGet.k (k := Sum.inr z) hd, _, rfl, ?_⟩
    rw [show (valV (setD (order.take i)) (Sum.inr z)).isSome = false from (setD_some _ z).trans (decide_eq_false nz)]
    refine iteF ⟨_, rfl, _, rfl, d, _, rfl, DPut.k (k := Sum.inr z) hd (size5 ?_), ?_⟩
    · rw [setD_len, List.length_take]
      omega
    · refine ⟨same_mut e nd0, ?_, _, rfl⟩
      rw [upd_same]
      exact congrArg (fun q => some (HO.dK q)) ((setD_put nz).trans (by rw [List.take_add_one, gz]; rfl))
  · rintro σ H2 ⟨e, hd, y, rfl⟩
    rw [List.length_map, List.take_length] at hd
    have hx2 := hx.mono e
    refine ⟨_, rfl, x, _, _, rfl, hx2.ins.choose_spec.choose_spec.choose_spec.choose_spec, shF_no (by decide +kernel) (by decide +kernel) (by decide +kernel), ?_⟩
    refine ⟨_, rfl, x, ws, ps, rfl, hx2, fun p np => .inl ⟨p, rfl, ⟨_, SqL.of upd_same⟩, ?_⟩⟩
    have e2 := e.trans (grow (o := .lst (ws.map V.str)) np)
    refine for_it (walk_list (xs := ws.map V.str)) (fun i σ H' => Same H H' ∧ H' p = some (.lst (ws.map V.str)) ∧ H' d = some (.dK (setD order)) ∧ ∃ y, σ = [some (.ref x), some (.ref l), some (.ref d), y]) ⟨e2, upd_same, (grow np) _ _ hd, _, rfl⟩ (fun i σ H' _ ⟨_, h, _⟩ => SqL.of h) ?_ ?_
    · rintro i v σ H3 H4 hi ⟨e3, hp, hd3, y3, rfl⟩ ⟨rfl, g⟩
      obtain ⟨z, gz, rfl⟩ := st_get g
      refine ⟨_, rfl, _, rfl, d, _, rfl, DGet.k (k := Sum.inr z) hd3, _, rfl, ?_⟩
      rw [show (valV (setD order) (Sum.inr z)).isSome = true from (setD_some _ z).trans (decide_eq_true ((mo z).mpr (List.mem_of_getElem? gz)))]
      exact iteF ⟨e3, hp, hd3, _, rfl⟩
    · rintro σ H3 ⟨e3, _⟩
      exact q H3 e3

end
end Fb

set_option Elab.async false
set_option linter.all false
set_option maxRecDepth 100000
set_option maxHeartbeats 4000000
namespace Fb
open PySem PySem.Spec L2
open PyProof.Rows hiding St
open C8 (Cal Met Mak Def cal0 met0 mak0 pe_c pe_mk pe_mt pe_mt0 fnScope fnBody fnArgs pss_cut tCut)
local macro_rules | `(tactic| walk_at "hp") => `(tactic| first | exact upd_same | assumption | (refine grow (by assumption) _ _ ?_; walk_at "hp") | (refine (show Same _ _ by assumption) _ _ ?_; walk_at "hp"))
local macro_rules | `(tactic| walk_at "sm") => `(tactic| first | exact Same.refl _ | assumption | (refine Same.trans ?_ (grow (by assumption)); walk_at "sm") | (refine Same.trans ?_ (show Same _ _ by assumption); walk_at "sm"))
section
variable {P : Program} {w : World} {K : PySem.W.Frag} {mg : Str → Option Value} {base : Heap}
variable {C_Shape C_Plan C_Links C_PlanTaken C_PlanRefused A_plan_of : Addr}
/-! ### Shape.turns -/
def spShTurns (C : Addr) : Sp := sp1 fun a H Q => ∃ (x : Addr) (ws : List Str) (ps : List Tw), a = .ref x ∧ ShapeAt C H x ws ps ∧ ∀ p xs, H p = none → TwsV H xs ps → Q (.ref p) (upd H p (.lst xs))
theorem c_Shape_turns (T : Top K mg C_Shape C_Plan C_Links C_PlanTaken C_PlanRefused A_plan_of) : Met P w K mg base 1 C_Shape "turns" (spShTurns C_Shape) [] := by
  obtain ⟨f, fd, me, F, df⟩ := T.d_Shape_turns
  refine ⟨f, fd, ["self"], [], T.cl_Shape, me, ?_, F.binds df fun _ _ _ _ _ _ us hl => match us, hl with | [_], _ => rfl, .nil⟩
  refine fm1 F sc_Shape_turns fun cdv A outer s H a Q E hr h => ?_
  have nd := sc_Shape_turns.nd
  obtain ⟨x, ws, ps, rfl, ⟨dx, F, Tt, L, fvs, tvs, h1, h2, h3, h4, h5, _⟩, k⟩ := h
  refine ⟨_, (pss_one 
      (ps_ret (pe_callTy (call_list_dT rfl) (by rfl) T.list (by decide +kernel) (pa_cons (pe_fld (pv 0) rfl) pa_nil)))), ?_⟩
  exact ⟨_, rfl, x, C_Shape, dx, _, _, rfl, h1, T.cl_Shape, T.na_Shape__turns, shF_t, Tt, tvs, rfl, .inl h4, fun q bs nq ik => k q _ nq (keys_tw h5 ik)⟩

end
end Fb

set_option Elab.async false
set_option linter.all false
set_option maxRecDepth 100000
set_option maxHeartbeats 4000000
namespace Fb
open PySem PySem.Spec L2
open PyProof.Rows hiding St
open C8 (Cal Met Mak Def cal0 met0 mak0 pe_c pe_mk pe_mt pe_mt0 fnScope fnBody fnArgs pss_cut tCut)
local macro_rules | `(tactic| walk_at "hp") => `(tactic| first | exact upd_same | assumption | (refine grow (by assumption) _ _ ?_; walk_at "hp") | (refine (show Same _ _ by assumption) _ _ ?_; walk_at "hp"))
local macro_rules | `(tactic| walk_at "sm") => `(tactic| first | exact Same.refl _ | assumption | (refine Same.trans ?_ (grow (by assumption)); walk_at "sm") | (refine Same.trans ?_ (show Same _ _ by assumption); walk_at "sm"))
section
variable {P : Program} {w : World} {K : PySem.W.Frag} {mg : Str → Option Value} {base : Heap}
variable {C_Shape C_Plan C_Links C_PlanTaken C_PlanRefused A_plan_of : Addr}
/-! ### Links.link -/
def spLink (C : Addr) : Sp := sp3 fun a b c H Q => ∃ (x : Addr) (A : LA) (ws live : List Str) (S : LS) (s t : Str), a = .ref x ∧ b = .str s ∧ c = .str t ∧ LinksAt C H x A live S ∧ A.Ok live ∧ S.Ok ws live ∧ live.length ≤ 1000 ∧ ws.length ≤ 1000 ∧ s ∈ live ∧ t ∈ live ∧ s ≠ t ∧
  ∀ H', (∀ b o, b ≠ A.ao s → b ≠ A.ai t → b ≠ A.F → H b = some o → H' b = some o) → LinksAt C H' x A live (S.link s t) → Q .non H'
theorem c_Links_link (T : Top K mg C_Shape C_Plan C_Links C_PlanTaken C_PlanRefused A_plan_of) : Met P w K mg base 1 C_Links "link" (spLink C_Links) [] := by
  obtain ⟨f, fd, me, F, df⟩ := T.d_Links_link
  refine ⟨f, fd, ["self", "source", "target"], [], T.cl_Links, me, ?_, F.binds df fun _ _ _ _ _ _ us hl => match us, hl with | [_, _, _], _ => rfl, .nil⟩
  refine fm3 F sc_Links_link fun cdv A outer s H a b c Q E hr h => ?_
  have nd := sc_Links_link.nd
  obtain ⟨x, L, ws, live, S, s1, t, rfl, rfl, rfl, hL, ok, sok, l1, l2, ms, mt, ne, k⟩ := h
  obtain ⟨b1, b2⟩ := sok.lens l1 l2
  refine ⟨_, (pss_one 
      (ps_if (pt_cmp (pc_dnotin (hu_of hr) (pv 2) (pe_dget (hu_of hr) (pe_fld (pv 0) rfl) (pv 1) (fun _ _ => rfl))) (by with_unfolding_all rfl)) (pss_cons 
      (ps_dput (hu_of hr) (pe_dget (hu_of hr) (pe_fld (pv 0) rfl) (pv 1) (fun _ _ => rfl)) (pv 2) pe_bl rfl) (pss_cons 
      (ps_dput (hu_of hr) (pe_dget (hu_of hr) (pe_fld (pv 0) rfl) (pv 2) (fun _ _ => rfl)) (pv 1) pe_bl rfl) (pss_one 
      (ps_expr (pe_bm PySem.F.plainAttrs_list PySem.F.slot_list_append PySem.F.type_list_append mt_append (pe_fld (pv 0) rfl) (pa_cons (pe_tup (pa_cons (pv 1) (pa_cons (pv 2) pa_nil))) pa_nil)))))) pss_nil)), ?_⟩
  refine ⟨_, rfl, _, rfl, x, C_Links, L.dx, _, _, rfl, hL.hx, T.cl_Links, T.na_Links_outs, lkF_o, _, rfl, _, _, rfl, dget_ref (.inl hL.hO) ms, ?_⟩
  refine ⟨_, _, rfl, DGet.k (k := Sum.inr t) (hL.ho s1 ms), _, rfl, ?_⟩
  rw [show (valV (setD (S.outs s1)) (Sum.inr t)).isSome = decide (t ∈ S.outs s1) from setD_some _ _]
  by_cases c : t ∈ S.outs s1
  · rw [decide_eq_true c]
    refine iteF (k H (fun _ _ _ _ _ h => h) ?_)
    rw [LS.link_t c]
    exact hL
  · rw [decide_eq_false c]
    refine iteT ?_
    have ni : s1 ∉ S.ins t := fun m => c ((sok.back s1 ms t mt).mp m)
    refine ⟨_, rfl, x, C_Links, L.dx, _, _, rfl, hL.hx, T.cl_Links, T.na_Links_outs, lkF_o, _, rfl, _, _, rfl, dget_ref (.inl hL.hO) ms, ?_⟩
    refine ⟨_, rfl, _, _, rfl, DPut.k (k := Sum.inr t) (hL.ho s1 ms) (size5 (by rw [setD_len]; have := (b1 s1 ms).2; omega)), ?_⟩
    rw [show putK (setD (S.outs s1)) (Sum.inr t) (.bl true) = setD (S.outs s1 ++ [t]) from setD_put c]
    have hx1 : upd H (L.ao s1) (.dK (setD (S.outs s1 ++ [t]))) x = some (.ins C_Links L.dx (lkF L)) := by
      rw [upd_ne (ne_of hL.hx (hL.ho s1 ms) fun z => nomatch z)]
      exact hL.hx
    have hI1 : upd H (L.ao s1) (.dK (setD (S.outs s1 ++ [t]))) L.I = some (.dK (refD live L.ai)) := by
      rw [upd_ne (ok.oo s1 ms).1.symm]
      exact hL.hI
    have hi1 : upd H (L.ao s1) (.dK (setD (S.outs s1 ++ [t]))) (L.ai t) = some (.dK (setD (S.ins t))) := by
      rw [upd_ne (ok.ia t mt s1 ms)]
      exact hL.hi t mt
    refine ⟨_, rfl, x, C_Links, L.dx, _, _, rfl, hx1, T.cl_Links, T.na_Links_ins, lkF_i, _, rfl, _, _, rfl, dget_ref (.inl hI1) mt, ?_⟩
    refine ⟨_, rfl, _, _, rfl, DPut.k (k := Sum.inr s1) hi1 (size5 (by rw [setD_len]; have := (b1 t mt).1; omega)), ?_⟩
    rw [show putK (setD (S.ins t)) (Sum.inr s1) (.bl true) = setD (S.ins t ++ [s1]) from setD_put ni]
    obtain ⟨xs, hF, hx⟩ := hL.hF
    have hx2 : upd (upd H (L.ao s1) (.dK (setD (S.outs s1 ++ [t])))) (L.ai t) (.dK (setD (S.ins t ++ [s1]))) x = some (.ins C_Links L.dx (lkF L)) := by
      rw [upd_ne (ne_of hL.hx (hL.hi t mt) fun z => nomatch z)]
      exact hx1
    have hF2 : upd (upd H (L.ao s1) (.dK (setD (S.outs s1 ++ [t])))) (L.ai t) (.dK (setD (S.ins t ++ [s1]))) L.F = some (.lst xs) := by
      rw [upd_ne (ne_of hF (hL.hi t mt) fun z => nomatch z), upd_ne (ne_of hF (hL.ho s1 ms) fun z => nomatch z)]
      exact hF
    refine ⟨_, rfl, x, C_Links, L.dx, _, _, rfl, hx2, T.cl_Links, T.na_Links_found, lkF_f, .inl ⟨rfl, _, SqL.of hF2⟩, ?_⟩
    refine ⟨_, rfl, _, rfl, Nat.le_of_ble_eq_true rfl, fun Tp nT => ?_⟩
    refine ⟨L.F, xs, _, rfl, rfl, (grow nT) _ _ hF2, Nat.lt_of_le_of_lt (show xs.length ≤ 1000000 by have := hx.len; omega) (by decide), ?_⟩
    refine k _ ?_ (hL.link ok ms mt c hF hx nT)
    intro b o h1 h2 h3 e
    have : upd (upd H (L.ao s1) (.dK (setD (S.outs s1 ++ [t])))) (L.ai t) (.dK (setD (S.ins t ++ [s1]))) b = some o := by
      rw [upd_ne h2, upd_ne h1]
      exact e
    rw [upd_ne h3]
    exact (grow nT) _ _ this

end
end Fb

set_option Elab.async false
set_option linter.all false
set_option maxRecDepth 100000
set_option maxHeartbeats 4000000
namespace Fb
open PySem PySem.Spec L2
open PyProof.Rows hiding St
open C8 (Cal Met Mak Def cal0 met0 mak0 pe_c pe_mk pe_mt pe_mt0 fnScope fnBody fnArgs pss_cut tCut)
local macro_rules | `(tactic| walk_at "hp") => `(tactic| first | exact upd_same | assumption | (refine grow (by assumption) _ _ ?_; walk_at "hp") | (refine (show Same _ _ by assumption) _ _ ?_; walk_at "hp"))
local macro_rules | `(tactic| walk_at "sm") => `(tactic| first | exact Same.refl _ | assumption | (refine Same.trans ?_ (grow (by assumption)); walk_at "sm") | (refine Same.trans ?_ (show Same _ _ by assumption); walk_at "sm"))
section
variable {P : Program} {w : World} {K : PySem.W.Frag} {mg : Str → Option Value} {base : Heap}
variable {C_Shape C_Plan C_Links C_PlanTaken C_PlanRefused A_plan_of : Addr}
/-! ### Links.__init__ -/
def spLinksI (C : Addr) (CS : Addr) : Sp := sp2 fun a b H Q => ∃ (x dx sx : Addr) (ws : List Str) (ps : List Tw), a = .ref x ∧ b = .ref sx ∧ H x = some (.ins C dx []) ∧ ShapeAt CS H sx ws ps ∧ ws.Nodup ∧ ws.length ≤ 1000 ∧ ps.length ≤ 100000 ∧ (∀ p ∈ ps, p.1 ∈ ws ∧ p.2 ∈ ws ∧ p.1 ≠ p.2) ∧
  ∀ (H' : Hp) (A : LA), (∀ c o, H c = some o → c ≠ x → H' c = some o) → LinksAt C H' x A ws (LS.of ps) → A.Ok ws → (∀ c o, H c = some o → c ≠ x → A.Out ws c) → Q .non H'
theorem c_Links___init__ (T : Top K mg C_Shape C_Plan C_Links C_PlanTaken C_PlanRefused A_plan_of) : Mak P w K mg base 2 "Links" C_Links (spLinksI C_Links C_Shape) [] := by
  obtain ⟨f, fd, me, F, df⟩ := T.d_Links___init__
  refine ⟨f, fd, ["self", "shape"], [], me, ?_, T.g_Links, F.binds df fun _ _ _ _ _ _ us hl => match us, hl with | [_, _], _ => rfl, .nil⟩
  refine fm2 F sc_Links___init__ fun cdv A outer s H a b Q E hr h => ?_
  have nd := sc_Links___init__.nd
  obtain ⟨x, dx, sx, ws, ps, rfl, rfl, hx, hsh, ndw, lw, lp, hE, k⟩ := h
  refine ⟨_, (pss_cut 
      (ps_fld (pv 0) (pe_dc (own := [("road", 4)]) rfl nd (pi_K (K := K) rfl (pe_mt0 (c_Shape_roads T) hr (by decide) (pv 1))) (blkOk_by (N := ["self", "shape", "source", "target", "road"]) (sc := fnScope s_Links___init__) (by decide +kernel)) (fun _ _ _ _ _ => (pg_name (i := 4) nd rfl (Or.inl rfl))) (fun _ _ _ _ _ => pts_nil) (fun _ _ _ _ _ => (pv 4)) (fun _ _ _ _ _ => pe_dnewK)) rfl) (pss_cut 
      (ps_fld (pv 0) (pe_dc (own := [("road", 4)]) rfl nd (pi_K (K := K) rfl (pe_mt0 (c_Shape_roads T) hr (by decide) (pv 1))) (blkOk_by (N := ["self", "shape", "source", "target", "road"]) (sc := fnScope s_Links___init__) (by decide +kernel)) (fun _ _ _ _ _ => (pg_name (i := 4) nd rfl (Or.inl rfl))) (fun _ _ _ _ _ => pts_nil) (fun _ _ _ _ _ => (pv 4)) (fun _ _ _ _ _ => pe_dnewK)) rfl) (pss_cut 
      (ps_fld (pv 0) (pe_lst pa_nil) rfl) (pss_one 
      (ps_for PassesOwn.never rfl (pi_K (K := K) rfl (pe_mt0 (c_Shape_turns T) hr (by decide) (pv 1))) (tup_K (K := K) (n := 2) rfl rfl (pgs_cons (pg_name (i := 2) nd rfl (Or.inl rfl)) (pgs_cons (pg_name (i := 3) nd rfl (Or.inl rfl)) pgs_nil))) (pss_one 
      (ps_expr (pe_mt (c_Links_link T) hr (by decide) (pv 0) (pa_cons (pv 2) (pa_cons (pv 3) pa_nil)))))))))), ?_⟩
  -- self.ins
  refine ⟨fun σ H' => ∃ (D : Addr) (f : Str → Addr), (∀ c o, H c = some o → c ≠ x → H' c = some o) ∧ H D = none ∧ H' D = some (.dK (refD ws f)) ∧ Fam (.dK []) H H' D ws f ∧ H' x = some (.ins C_Links dx [("ins", .ref D)]) ∧ ∃ y2 y3 y4, σ = [some (.ref x), some (.ref sx), y2, y3, y4], ?_, ?_⟩
  · obtain ⟨dxs, F, Tt, L, hs⟩ := hsh.ins
    refine ⟨_, rfl, sx, dxs, _, rfl, hs, shF_no (by decide +kernel) (by decide +kernel) (by decide +kernel), ?_⟩
    refine ⟨_, rfl, sx, ws, ps, rfl, hsh, fun p np => .inl ⟨p, rfl, ⟨_, SqL.of upd_same⟩, fun D nD => ?_⟩⟩
    have e1 := grow (o := .lst (ws.map V.str)) np
    have nD0 : H D = none := e1.free nD
    refine dc_it (walk_list (xs := ws.map V.str)) (fun i H' => Same H H' ∧ H' p = some (.lst (ws.map V.str)) ∧ ∃ f, H' D = some (.dK (refD (ws.take i) f)) ∧ Fam (.dK []) H H' D (ws.take i) f) ⟨e1.trans (grow nD), (grow nD) _ _ upd_same, _, upd_same, fam_nil⟩ (fun i H' _ ⟨_, h, _⟩ => SqL.of h) ?_ ?_
    · rintro i v H1 H2 hi ⟨e, hp, ff, hD, fam⟩ ⟨rfl, g⟩
      obtain ⟨z, gz, rfl⟩ := st_get g
      have nz := nd_take ndw gz
      refine ⟨rfl, _, rfl, fun d nd0 => ⟨_, Sum.inr z, rfl, (grow nd0) _ _ hD, size5 (by rw [refD_len, List.length_take]; omega), ?_⟩⟩
      obtain ⟨f', fam2, ef⟩ := fam_snoc (u' := .dK (putK (refD (ws.take i) ff) (Sum.inr z) (.ref d))) fam (fun b o h => e _ _ h) hD nd0 nz
      have tk : ws.take (i + 1) = ws.take i ++ [z] := by rw [List.take_add_one, gz]; rfl
      refine ⟨same_mut (e.trans (grow nd0)) nD0, ?_, f', ?_, ?_⟩
      · rw [upd_ne (ne_of hp hD fun z => nomatch z)]
        exact (grow nd0) _ _ hp
      · rw [upd_same, tk, ef]
        exact congrArg (fun q => some (HO.dK q)) (putK_new _ (refD_none nz))
      · rw [tk]
        exact fam2
    · rintro H1 ⟨e, hp, ff, hD, fam⟩
      rw [List.length_map, List.take_length] at hD fam
      refine ⟨_, rfl, x, C_Links, dx, _, rfl, e _ _ hx, T.cl_Links, T.na_Links_ins, (by show 0 < 1000; decide), ?_⟩
      have nDx : D ≠ x := fun q => by
        rw [q, hx] at nD0
        cases nD0
      refine ⟨D, ff, fun c o h n => ?_, nD0, ?_, fam.same (fun b h => ?_), upd_same, _, _, _, rfl⟩
      · rw [upd_ne n]
        exact e _ _ h
      · rw [upd_ne nDx]
        exact hD
      · rw [upd_ne fun q => by
          rw [q, e _ _ hx] at h
          cases h]
        exact h
  rintro σ H1 ⟨D1, f1, k1, n1, h1, fam1, hx1, y2, y3, y4, rfl⟩
  have nsx : sx ≠ x := by
    obtain ⟨dxs, F, Tt, L, hs⟩ := hsh.ins
    refine ne_of hs hx fun z => ?_
    injection z with _ _ z
    cases z
  have sh_of : ∀ {G : Hp}, (∀ c o, H c = some o → c ≠ x → G c = some o) → ShapeAt C_Shape G sx ws ps := by
    intro G kp
    obtain ⟨dxs, F, Tt, L, fvs, tvs, a1, a2, a3, a4, a5, g1, g2, a6⟩ := hsh
    exact ⟨dxs, F, Tt, L, fvs, tvs, kp _ _ a1 nsx, kp _ _ a2 (ne_of a2 hx fun z => nomatch z), a3, kp _ _ a4 (ne_of a4 hx fun z => nomatch z), a5, g1, g2, a6.keep fun b o no h => kp _ _ h (ne_of h hx fun z => no _ _ _ z)⟩
  -- self.outs
  refine ⟨fun σ H' => ∃ (D : Addr) (f : Str → Addr), (∀ c o, H1 c = some o → c ≠ x → H' c = some o) ∧ H1 D = none ∧ H' D = some (.dK (refD ws f)) ∧ Fam (.dK []) H1 H' D ws f ∧ H' x = some (.ins C_Links dx [("ins", .ref D1), ("outs", .ref D)]) ∧ ∃ y2 y3 y4, σ = [some (.ref x), some (.ref sx), y2, y3, y4], ?_, ?_⟩
  · have hsh1 := sh_of k1
    obtain ⟨dxs, F, Tt, L, hs⟩ := hsh1.ins
    refine ⟨_, rfl, sx, dxs, _, rfl, hs, shF_no (by decide +kernel) (by decide +kernel) (by decide +kernel), ?_⟩
    refine ⟨_, rfl, sx, ws, ps, rfl, hsh1, fun p np => .inl ⟨p, rfl, ⟨_, SqL.of upd_same⟩, fun D nD => ?_⟩⟩
    have e1 := grow (o := .lst (ws.map V.str)) np
    have nD0 : H1 D = none := e1.free nD
    refine dc_it (walk_list (xs := ws.map V.str)) (fun i H' => Same H1 H' ∧ H' p = some (.lst (ws.map V.str)) ∧ ∃ f, H' D = some (.dK (refD (ws.take i) f)) ∧ Fam (.dK []) H1 H' D (ws.take i) f) ⟨e1.trans (grow nD), (grow nD) _ _ upd_same, _, upd_same, fam_nil⟩ (fun i H' _ ⟨_, h, _⟩ => SqL.of h) ?_ ?_
    · rintro i v G1 G2 hi ⟨e, hp, ff, hD, fam⟩ ⟨rfl, g⟩
      obtain ⟨z, gz, rfl⟩ := st_get g
      have nz := nd_take ndw gz
      refine ⟨rfl, _, rfl, fun d nd0 => ⟨_, Sum.inr z, rfl, (grow nd0) _ _ hD, size5 (by rw [refD_len, List.length_take]; omega), ?_⟩⟩
      obtain ⟨f', fam2, ef⟩ := fam_snoc (u' := .dK (putK (refD (ws.take i) ff) (Sum.inr z) (.ref d))) fam (fun b o h => e _ _ h) hD nd0 nz
      have tk : ws.take (i + 1) = ws.take i ++ [z] := by rw [List.take_add_one, gz]; rfl
      refine ⟨same_mut (e.trans (grow nd0)) nD0, ?_, f', ?_, ?_⟩
      · rw [upd_ne (ne_of hp hD fun z => nomatch z)]
        exact (grow nd0) _ _ hp
      · rw [upd_same, tk, ef]
        exact congrArg (fun q => some (HO.dK q)) (putK_new _ (refD_none nz))
      · rw [tk]
        exact fam2
    · rintro G1 ⟨e, hp, ff, hD, fam⟩
      rw [List.length_map, List.take_length] at hD fam
      refine ⟨_, rfl, x, C_Links, dx, _, rfl, e _ _ hx1, T.cl_Links, T.na_Links_outs, (by show 1 < 1000; decide), ?_⟩
      have nDx : D ≠ x := fun q => by
        rw [q, hx1] at nD0
        cases nD0
      refine ⟨D, ff, fun c o h n => ?_, nD0, ?_, fam.same (fun b h => ?_), ?_, _, _, _, rfl⟩
      · rw [upd_ne n]
        exact e _ _ h
      · rw [upd_ne nDx]
        exact hD
      · rw [upd_ne fun q => by
          rw [q, e _ _ hx1] at h
          cases h]
        exact h
      · rw [upd_same]
        exact congrArg (fun q => some (HO.ins C_Links dx q)) (if_neg (by decide +kernel))
  rintro σ H2 ⟨D2, f2, k2, n2, h2, fam2, hx2, y2, y3, y4, rfl⟩
  -- self.found
  refine ⟨fun σ H' => ∃ F : Addr, (∀ c o, H2 c = some o → c ≠ x → H' c = some o) ∧ H2 F = none ∧ H' F = some (.lst []) ∧ H' x = some (.ins C_Links dx [("ins", .ref D1), ("outs", .ref D2), ("found", .ref F)]) ∧ ∃ y2 y3 y4, σ = [some (.ref x), some (.ref sx), y2, y3, y4], ?_, ?_⟩
  · refine ⟨Nat.zero_le _, fun F nF => ?_⟩
    refine ⟨_, rfl, x, C_Links, dx, _, rfl, (grow nF) _ _ hx2, T.cl_Links, T.na_Links_found, (by show 2 < 1000; decide), ?_⟩
    refine ⟨F, fun c o h n => ?_, nF, ?_, ?_, _, _, _, rfl⟩
    · rw [upd_ne n]
      exact (grow nF) _ _ h
    · rw [upd_ne (ne_of_none hx2 nF).symm, upd_same]
    · rw [upd_same]
      refine congrArg (fun q => some (HO.ins C_Links dx q)) ((if_neg (by decide +kernel)).trans ?_)
      exact congrArg (fun q => (("ins" : Str), V.ref D1) :: q) (if_neg (by decide +kernel))
  rintro σ H3 ⟨F, k3, n3, h3, hx3, y2, y3, y4, rfl⟩
  -- the parts
  have ne_x : ∀ {G : Hp} {fs : List (Str × V)} {c : Addr} {kv : List (Key × V)}, G x = some (.ins C_Links dx fs) → G c = some (.dK kv) → c ≠ x := fun h1 h2 => ne_of h2 h1 fun z => nomatch z
  have some1 : ∀ {c o}, H c = some o → c ≠ x → H1 c = some o := fun h n => k1 _ _ h n
  have ndx1 : D1 ≠ x := ne_x hx1 h1
  have ndx2 : D2 ≠ x := ne_x hx2 h2
  have hD1_2 := k2 _ _ h1 ndx1
  have nD12 : D1 ≠ D2 := fun q => by
    rw [← q, h1] at n2
    cases n2
  have f1x : ∀ r ∈ ws, f1 r ≠ x := fun r m => ne_x hx1 (fam1.nw r m).2.2
  have f2x : ∀ r ∈ ws, f2 r ≠ x := fun r m => ne_x hx2 (fam2.nw r m).2.2
  have f1_2 : ∀ r ∈ ws, H2 (f1 r) = some (.dK []) := fun r m => k2 _ _ (fam1.nw r m).2.2 (f1x r m)
  have aok : LA.Ok ⟨dx, D1, D2, F, f1, f2⟩ ws := by
    refine ⟨nD12, fun r m => ⟨(fam1.nw r m).2.1, fun q => ?_⟩, fun r m => ⟨fun q => ?_, (fam2.nw r m).2.1⟩, fun r m s1 n q => ?_, fun r m s1 n d => ⟨fam1.ij r m s1 n d, fam2.ij r m s1 n d⟩⟩
    · have q : f1 r = D2 := q
      rw [← q, (fam1.nw r m).2.2] at n2
      cases n2
    · have a := (fam2.nw r m).1
      have q : f2 r = D1 := q
      rw [q, h1] at a
      cases a
    · have a := (fam2.nw s1 n).1
      have q : f1 r = f2 s1 := q
      rw [← q, (fam1.nw r m).2.2] at a
      cases a
  have aout : ∀ c o, H c = some o → c ≠ x → LA.Out ⟨dx, D1, D2, F, f1, f2⟩ ws c := by
    intro c o h n
    have e1 := k1 _ _ h n
    have e2 := k2 _ _ e1 n
    refine ⟨fun q => ?_, fun q => ?_, fun q => ?_, fun r m => ⟨fun q => ?_, fun q => ?_⟩⟩
    · have q : c = D1 := q
      rw [← q, h] at n1
      cases n1
    · have q : c = D2 := q
      rw [← q, e1] at n2
      cases n2
    · have q : c = F := q
      rw [← q, e2] at n3
      cases n3
    · have a := (fam1.nw r m).1
      have q : c = f1 r := q
      rw [← q, h] at a
      cases a
    · have a := (fam2.nw r m).1
      have q : c = f2 r := q
      rw [← q, e1] at a
      cases a
  have hL0 : LinksAt C_Links H3 x ⟨dx, D1, D2, F, f1, f2⟩ ws LS0 :=
    ⟨hx3, k3 _ _ hD1_2 ndx1, k3 _ _ h2 ndx2, ⟨[], h3, .nil⟩, fun r m => k3 _ _ (f1_2 r m) (f1x r m), fun r m => k3 _ _ (fam2.nw r m).2.2 (f2x r m)⟩
  have kp3 : ∀ c o, H c = some o → c ≠ x → H3 c = some o := fun c o h n => k3 _ _ (k2 _ _ (k1 _ _ h n) n) n
  generalize hA : (⟨dx, D1, D2, F, f1, f2⟩ : LA) = A' at aok aout hL0
  have eF : A'.F = F := by rw [← hA]
  -- for source, target in shape.turns()
  have hsh3 := sh_of kp3
  obtain ⟨dxs, Fs, Tt, L, hs⟩ := hsh3.ins
  refine ⟨_, rfl, sx, dxs, _, rfl, hs, shF_no (by decide +kernel) (by decide +kernel) (by decide +kernel), ?_⟩
  refine ⟨_, rfl, sx, ws, ps, rfl, hsh3, fun p xs np hxs => .inl ⟨p, rfl, ⟨_, SqL.of upd_same⟩, ?_⟩⟩
  have okI : ∀ i, ((ps.take i).foldl (fun S p => S.link p.1 p.2) LS0).Ok ws ws := fun i => (LS.fold_ok (ps.take i) ls0_ok fun q m => hE q (List.mem_of_mem_take m)).1
  refine for_it (walk_list (xs := xs)) (fun i σ H' => (∀ c o, H c = some o → c ≠ x → H' c = some o) ∧ LinksAt C_Links H' x A' ws ((ps.take i).foldl (fun S p => S.link p.1 p.2) LS0) ∧ H' p = some (.lst xs) ∧ p ≠ A'.F ∧ TwsV H' xs ps ∧ ∃ y2 y3 y4, σ = [some (.ref x), some (.ref sx), y2, y3, y4])
    ⟨fun c o h n => (grow np) _ _ (kp3 c o h n), hL0.same (grow np), upd_same, (by rw [eF]; exact (ne_of_none h3 np).symm), hxs.kp (Same.kpt (grow np)), _, _, _, rfl⟩ (fun i σ H' _ ⟨_, _, h, _⟩ => SqL.of h) ?_ ?_
  · rintro i v σ G1 G2 hi ⟨kp, hL, hp, npF, hxs, y2, y3, y4, rfl⟩ ⟨rfl, g⟩
    obtain ⟨q, gq, t, rfl, ht⟩ := hxs.get g
    obtain ⟨m1, m2, ne⟩ := hE q (List.mem_of_getElem? gq)
    refine ⟨t, _, rfl, SqT.of ht, rfl, _, _, rfl, _, _, rfl, rfl, ?_⟩
    refine ⟨_, rfl, x, A'.dx, _, rfl, hL.hx, lkF_no (by decide +kernel) (by decide +kernel) (by decide +kernel), _, rfl, _, rfl, ?_⟩
    refine ⟨_, _, _, rfl, x, A', ws, ws, _, q.1, q.2, rfl, rfl, rfl, hL, aok, okI i, lw, lw, m1, m2, ne, fun H' keep hL' => ?_⟩
    obtain ⟨us, hF, hus⟩ := hL.hF
    have kpt : Kpt G2 H' := fun b ys eb => keep b _ (dic_tup (hL.ho q.1 m1) trivial eb) (dic_tup (hL.hi q.2 m2) trivial eb) (ne_of eb hF fun z => nomatch z) eb
    refine ⟨fun c o h n => ?_, ?_, keep _ _ ?_ ?_ npF hp, npF, hxs.kp kpt, _, _, _, rfl⟩
    · have oo := aout c o h n
      exact keep _ _ (oo.2.2.2 q.1 m1).2 (oo.2.2.2 q.2 m2).1 oo.2.2.1 (kp c o h n)
    · rw [fold_take (fun (S : LS) (p : Tw) => S.link p.1 p.2) LS0 ps i q gq]
      exact hL'
    · exact ne_of hp (hL.ho q.1 m1) fun z => nomatch z
    · exact ne_of hp (hL.hi q.2 m2) fun z => nomatch z
  · rintro σ G1 ⟨kp, hL, hp, npF, hxs, y2, y3, y4, rfl⟩
    rw [hxs.len, List.take_length] at hL
    exact k _ A' kp hL aok aout

end
end Fb

set_option Elab.async false
set_option linter.all false
set_option maxRecDepth 100000
set_option maxHeartbeats 4000000
namespace Fb
open PySem PySem.Spec L2
open PyProof.Rows hiding St
open C8 (Cal Met Mak Def cal0 met0 mak0 pe_c pe_mk pe_mt pe_mt0 fnScope fnBody fnArgs pss_cut tCut)
local macro_rules | `(tactic| walk_at "hp") => `(tactic| first | exact upd_same | assumption | (refine grow (by assumption) _ _ ?_; walk_at "hp") | (refine (show Same _ _ by assumption) _ _ ?_; walk_at "hp"))
local macro_rules | `(tactic| walk_at "sm") => `(tactic| first | exact Same.refl _ | assumption | (refine Same.trans ?_ (grow (by assumption)); walk_at "sm") | (refine Same.trans ?_ (show Same _ _ by assumption); walk_at "sm"))
section
variable {P : Program} {w : World} {K : PySem.W.Frag} {mg : Str → Option Value} {base : Heap}
variable {C_Shape C_Plan C_Links C_PlanTaken C_PlanRefused A_plan_of : Addr}
/-! ### Links.settle -/
def spSettle (C : Addr) : Sp := sp2 fun a b H Q => ∃ (x : Addr) (A : LA) (ws live : List Str) (S : LS) (r : Str), a = .ref x ∧ b = .str r ∧ LinksAt C H x A live S ∧ A.Ok live ∧ S.Ok ws live ∧ live.Nodup ∧ (∀ y ∈ live, y ∈ ws) ∧ live.length ≤ 1000 ∧ ws.length ≤ 1000 ∧ r ∈ live ∧
  ∀ H', LFr A live H H' → LinksAt C H' x A (live.erase r) (S.settle r) → Q .non H'
theorem c_Links_settle (T : Top K mg C_Shape C_Plan C_Links C_PlanTaken C_PlanRefused A_plan_of) : Met P w K mg base 2 C_Links "settle" (spSettle C_Links) [] := by
  obtain ⟨f, fd, me, F, df⟩ := T.d_Links_settle
  refine ⟨f, fd, ["self", "road"], [], T.cl_Links, me, ?_, F.binds df fun _ _ _ _ _ _ us hl => match us, hl with | [_, _], _ => rfl, .nil⟩
  refine fm2 F sc_Links_settle fun cdv A outer s H a b Q E hr h => ?_
  have nd := sc_Links_settle.nd
  obtain ⟨x, L, ws, live, S, r, rfl, rfl, hL, ok, sok, ndl, sub, l1, l2, mr, k⟩ := h
  obtain ⟨b1, b2⟩ := sok.lens l1 l2
  have lm : ∀ {y}, y ∈ live.erase r → y ∈ live ∧ y ≠ r := fun m => by
    have := (ndl.mem_erase_iff).mp m
    exact ⟨this.2, this.1⟩
  have ml : ∀ {y}, y ∈ live → y ≠ r → y ∈ live.erase r := fun m n => (ndl.mem_erase_iff).mpr ⟨n, m⟩
  have ok2 : L.Ok (live.erase r) := ok.sub fun y m => (lm m).1
  have l3 : (live.erase r).length ≤ 1000 := Nat.le_trans List.length_erase_le l1
  have nri : L.Out (live.erase r) (L.ai r) ∨ True := .inr trivial
  refine ⟨_, (pss_cons 
      (ps_set (i := 2) nd rfl (Or.inl rfl) (pe_dpop1 (pe_fld (pv 0) rfl) (pv 1) ⟨rfl, rfl, rfl, rfl⟩)) (pss_cons 
      (ps_set (i := 3) nd rfl (Or.inl rfl) (pe_dpop1 (pe_fld (pv 0) rfl) (pv 1) ⟨rfl, rfl, rfl, rfl⟩)) (pss_cut 
      (ps_lock (ps_for PassesOwn.never rfl (pi_keys (pv 2)) (pg_name (i := 4) nd rfl (Or.inl rfl)) (pss_one 
      (ps_expr (pe_dpop1 (pe_dget (hu_of hr) (pe_fld (pv 0) rfl) (pv 4) (fun _ _ => rfl)) (pv 1) ⟨rfl, rfl, rfl, rfl⟩))))) (pss_cut 
      (ps_lock (ps_for PassesOwn.never rfl (pi_keys (pv 3)) (pg_name (i := 5) nd rfl (Or.inl rfl)) (pss_one 
      (ps_expr (pe_dpop1 (pe_dget (hu_of hr) (pe_fld (pv 0) rfl) (pv 5) (fun _ _ => rfl)) (pv 1) ⟨rfl, rfl, rfl, rfl⟩))))) (pss_one 
      (ps_lock (ps_for PassesOwn.never rfl (pi_keys (pv 2)) (pg_name (i := 4) nd rfl (Or.inl rfl)) (pss_one 
      (ps_lock (ps_for PassesOwn.never rfl (pi_keys (pv 3)) (pg_name (i := 5) nd rfl (Or.inl rfl)) (pss_one 
      (ps_if (pt_cmpR (ne_K (K := K) rfl hr) (pv 4) (pv 5) (nomark _)) (pss_one 
      (ps_expr (pe_mt (c_Links_link T) hr (by decide) (pv 0) (pa_cons (pv 4) (pa_cons (pv 5) pa_nil))))) pss_nil)))))))))))), ?_⟩
  -- sources = self.ins.pop(road)
  refine ⟨_, rfl, x, C_Links, L.dx, _, _, rfl, hL.hx, T.cl_Links, T.na_Links_ins, lkF_i, L.I, rfl, .inl ⟨_, .inl hL.hI⟩, _, rfl, _, Sum.inr r, _, hL.hI, rfl, refD_val mr, ?_⟩
  rw [show dropK (refD live L.ai) (Sum.inr r) = refD (live.erase r) L.ai from refD_drop ndl L.ai r]
  -- targets = self.outs.pop(road)
  have hx1 : upd H L.I (.dK (refD (live.erase r) L.ai)) x = some (.ins C_Links L.dx (lkF L)) := by
    rw [upd_ne (ne_of hL.hx hL.hI fun z => nomatch z)]
    exact hL.hx
  have hO1 : upd H L.I (.dK (refD (live.erase r) L.ai)) L.O = some (.dK (refD live L.ao)) := by
    rw [upd_ne ok.io.symm]
    exact hL.hO
  refine ⟨_, rfl, x, C_Links, L.dx, _, _, rfl, hx1, T.cl_Links, T.na_Links_outs, lkF_o, L.O, rfl, .inl ⟨_, .inl hO1⟩, _, rfl, _, Sum.inr r, _, hO1, rfl, refD_val mr, ?_⟩
  rw [show dropK (refD live L.ao) (Sum.inr r) = refD (live.erase r) L.ao from refD_drop ndl L.ao r]
  have fr2 : LFr L live H (upd (upd H L.I (.dK (refD (live.erase r) L.ai))) L.O (.dK (refD (live.erase r) L.ao))) :=
    (LFr.upd (fun q => q.1 rfl) hL.hI trivial).trans (LFr.upd (fun q => q.2.1 rfl) hO1 trivial)
  have hL2 : LinksAt C_Links (upd (upd H L.I (.dK (refD (live.erase r) L.ai))) L.O (.dK (refD (live.erase r) L.ao))) x L (live.erase r) S := by
    obtain ⟨xs, hF, hxs⟩ := hL.hF
    refine ⟨?_, ?_, upd_same, ⟨xs, ?_, hxs.kp fr2.kp⟩, fun y m => ?_, fun y m => ?_⟩
    · rw [upd_ne (ne_of hx1 hO1 fun z => nomatch z)]
      exact hx1
    · rw [upd_ne ok.io, upd_same]
    · rw [upd_ne (ne_of hF hL.hO fun z => nomatch z), upd_ne (ne_of hF hL.hI fun z => nomatch z)]
      exact hF
    · rw [upd_ne (ok.ii y (lm m).1).2, upd_ne (ok.ii y (lm m).1).1]
      exact hL.hi y (lm m).1
    · rw [upd_ne (ok.oo y (lm m).1).2, upd_ne (ok.oo y (lm m).1).1]
      exact hL.ho y (lm m).1
  have hi2 : (upd (upd H L.I (.dK (refD (live.erase r) L.ai))) L.O (.dK (refD (live.erase r) L.ao))) (L.ai r) = some (.dK (setD (S.ins r))) := by
    rw [upd_ne (ok.ii r mr).2, upd_ne (ok.ii r mr).1]
    exact hL.hi r mr
  have ho2 : (upd (upd H L.I (.dK (refD (live.erase r) L.ai))) L.O (.dK (refD (live.erase r) L.ao))) (L.ao r) = some (.dK (setD (S.outs r))) := by
    rw [upd_ne (ok.oo r mr).2, upd_ne (ok.oo r mr).1]
    exact hL.ho r mr
  clear hx1 hO1
  generalize upd (upd H L.I _) L.O _ = H2 at fr2 hL2 hi2 ho2
  have off : ∀ {G : Hp} {S' : LS}, LinksAt C_Links G x L (live.erase r) S' → (∀ {o}, G (L.ai r) = some o → DicO o → L.Out (live.erase r) (L.ai r)) ∧ ∀ {o}, G (L.ao r) = some o → DicO o → L.Out (live.erase r) (L.ao r) := by
    intro G S' hG
    obtain ⟨xs, hF, _⟩ := hG.hF
    refine ⟨fun h d => ⟨(ok.ii r mr).1, (ok.ii r mr).2, ne_of h hF fun z => by rw [z] at d; exact d, fun y m => ⟨(ok.ij r mr y (lm m).1 (lm m).2.symm).1, ok.ia r mr y (lm m).1⟩⟩, fun h d => ⟨(ok.oo r mr).1, (ok.oo r mr).2, ne_of h hF fun z => by rw [z] at d; exact d, fun y m => ⟨(ok.ia y (lm m).1 r mr).symm, (ok.ij r mr y (lm m).1 (lm m).2.symm).2⟩⟩⟩
  -- for source in sources: self.outs[source].pop(road)
  refine ⟨fun σ H' => LFr L live H2 H' ∧ LinksAt C_Links H' x L (live.erase r) ⟨S.ins, fun y => (S.outs y).filter fun z => decide (z ≠ r), S.found⟩ ∧ H' (L.ai r) = some (.dK (setD (S.ins r))) ∧ H' (L.ao r) = some (.dK (setD (S.outs r))) ∧ ∃ y5, σ = [some (.ref x), some (.str r), some (.ref (L.ai r)), some (.ref (L.ao r)), y5, none], ?_, ?_⟩
  · refine ⟨L.ai r, _, hi2, trivial, fun od => ?_⟩
    refine ⟨_, rfl, L.ai r, od, rfl, .inl ⟨_, upd_same, ?_⟩⟩
    have hL3 := hL2.off (o' := .frz od (.dK (setD (S.ins r)))) ((off hL2).1 hi2 trivial) hi2 trivial
    have fr3 : LFr L live H2 (upd H2 (L.ai r) (.frz od (.dK (setD (S.ins r))))) := LFr.upd (out_i mr) hi2 trivial
    have ho3 : (upd H2 (L.ai r) (.frz od (.dK (setD (S.ins r))))) (L.ao r) = some (.dK (setD (S.outs r))) := by
      rw [upd_ne (ok.ia r mr r mr).symm]
      exact ho2
    refine for_it (walk_keys (kvs := setD (S.ins r))) (fun i σ H' => LFr L live H2 H' ∧ LinksAt C_Links H' x L (live.erase r) ⟨S.ins, fun y => if y ∈ (S.ins r).take i then (S.outs y).filter (fun z => decide (z ≠ r)) else S.outs y, S.found⟩ ∧ H' (L.ai r) = some (.frz od (.dK (setD (S.ins r)))) ∧ H' (L.ao r) = some (.dK (setD (S.outs r))) ∧ ∃ y5, σ = [some (.ref x), some (.str r), some (.ref (L.ai r)), some (.ref (L.ao r)), y5, none])
      ⟨fr3, hL3.congr (fun _ _ => rfl) (fun y _ => by simp) rfl, upd_same, ho3, _, rfl⟩ (fun i σ H' _ ⟨_, _, h, _⟩ => h) ?_ ?_
    · rintro i v σ G1 G2 hi ⟨fr, hG, hai, hao, y5, rfl⟩ ⟨rfl, kk, vv, g, rfl⟩
      obtain ⟨s1, gs, rfl⟩ := set_get g
      have ms := List.mem_of_getElem? gs
      have mls := sok.ini r mr s1 ms
      have mse := ml mls.1 mls.2
      have hgo : G2 (L.ao s1) = some (.dK (setD (S.outs s1))) := (hG.ho s1 mse).trans (congrArg (fun z => some (HO.dK (setD z))) (if_neg (nd_take (sok.ndi r mr) gs)))
      refine ⟨_, rfl, x, C_Links, L.dx, _, _, rfl, hG.hx, T.cl_Links, T.na_Links_outs, lkF_o, _, rfl, _, _, rfl, dget_ref (.inl hG.hO) mse, ?_⟩
      refine ⟨_, rfl, .inl ⟨_, .inl hgo⟩, _, rfl, _, Sum.inr r, _, hgo, rfl, setD_val ((sok.back s1 mls.1 r mr).mp ms), ?_⟩
      rw [show dropK (setD (S.outs s1)) (Sum.inr r) = setD ((S.outs s1).filter fun z => decide (z ≠ r)) from setD_drop _ _]
      refine ⟨fr.trans (LFr.upd (out_o mls.1) hgo trivial), (hG.setO _ ok2 mse).congr (fun _ _ => rfl) (fun y my => ?_) rfl, ?_, ?_, _, rfl⟩
      · show (if y = s1 then (S.outs s1).filter (fun z => decide (z ≠ r)) else if y ∈ (S.ins r).take i then (S.outs y).filter (fun z => decide (z ≠ r)) else S.outs y) = if y ∈ (S.ins r).take (i + 1) then (S.outs y).filter (fun z => decide (z ≠ r)) else S.outs y
        by_cases e : y = s1
        · rw [if_pos e, if_pos ((mem_take_more gs).mpr (.inr e)), e]
        · rw [if_neg e]
          by_cases c : y ∈ (S.ins r).take i
          · rw [if_pos c, if_pos ((mem_take_more gs).mpr (.inl c))]
          · rw [if_neg c, if_neg fun z => ((mem_take_more gs).mp z).elim c e]
      · rw [upd_ne (ok.ia r mr s1 mls.1)]
        exact hai
      · rw [upd_ne (ok.ij r mr s1 mls.1 mls.2.symm).2]
        exact hao
    · rintro σ G1 ⟨fr, hG, hai, hao, y5, rfl⟩
      rw [setD_len, List.take_length] at hG
      refine ⟨hai, fr.trans (LFr.upd (out_i mr) hai trivial), (hG.off ((off hG).1 hai trivial) hai trivial).congr (fun _ _ => rfl) (fun y my => ?_) rfl, upd_same, ?_, _, rfl⟩
      · show (if y ∈ S.ins r then (S.outs y).filter (fun z => decide (z ≠ r)) else S.outs y) = (S.outs y).filter (fun z => decide (z ≠ r))
        by_cases c : y ∈ S.ins r
        · rw [if_pos c]
        · rw [if_neg c]
          refine (List.filter_eq_self.mpr fun z mz => ?_).symm
          rw [decide_eq_true_eq]
          intro e
          rw [e] at mz
          exact c ((sok.back y (lm my).1 r mr).mpr mz)
      · rw [upd_ne (ok.ia r mr r mr).symm]
        exact hao
  rintro σ H3 ⟨fr3, hL3, hi3, ho3, y5, rfl⟩
  -- for target in targets: self.ins[target].pop(road)
  refine ⟨fun σ H' => LFr L live H2 H' ∧ LinksAt C_Links H' x L (live.erase r) (S.drop r) ∧ H' (L.ai r) = some (.dK (setD (S.ins r))) ∧ H' (L.ao r) = some (.dK (setD (S.outs r))) ∧ ∃ y5 y6, σ = [some (.ref x), some (.str r), some (.ref (L.ai r)), some (.ref (L.ao r)), y5, y6], ?_, ?_⟩
  · refine ⟨L.ao r, _, ho3, trivial, fun od => ?_⟩
    refine ⟨_, rfl, L.ao r, od, rfl, .inl ⟨_, upd_same, ?_⟩⟩
    have hL4 := hL3.off (o' := .frz od (.dK (setD (S.outs r)))) ((off hL3).2 ho3 trivial) ho3 trivial
    have fr4 : LFr L live H2 (upd H3 (L.ao r) (.frz od (.dK (setD (S.outs r))))) := fr3.trans (LFr.upd (out_o mr) ho3 trivial)
    have hi4 : (upd H3 (L.ao r) (.frz od (.dK (setD (S.outs r))))) (L.ai r) = some (.dK (setD (S.ins r))) := by
      rw [upd_ne (ok.ia r mr r mr)]
      exact hi3
    refine for_it (walk_keys (kvs := setD (S.outs r))) (fun i σ H' => LFr L live H2 H' ∧ LinksAt C_Links H' x L (live.erase r) ⟨fun y => if y ∈ (S.outs r).take i then (S.ins y).filter (fun z => decide (z ≠ r)) else S.ins y, (S.drop r).outs, S.found⟩ ∧ H' (L.ao r) = some (.frz od (.dK (setD (S.outs r)))) ∧ H' (L.ai r) = some (.dK (setD (S.ins r))) ∧ ∃ y5 y6, σ = [some (.ref x), some (.str r), some (.ref (L.ai r)), some (.ref (L.ao r)), y5, y6])
      ⟨fr4, hL4.congr (fun y _ => by simp) (fun _ _ => rfl) rfl, upd_same, hi4, _, _, rfl⟩ (fun i σ H' _ ⟨_, _, h, _⟩ => h) ?_ ?_
    · rintro i v σ G1 G2 hi ⟨fr, hG, hao, hai, y5, y6, rfl⟩ ⟨rfl, kk, vv, g, rfl⟩
      obtain ⟨s1, gs, rfl⟩ := set_get g
      have ms := List.mem_of_getElem? gs
      have mls := sok.ino r mr s1 ms
      have mse := ml mls.1 mls.2
      have hgo : G2 (L.ai s1) = some (.dK (setD (S.ins s1))) := (hG.hi s1 mse).trans (congrArg (fun z => some (HO.dK (setD z))) (if_neg (nd_take (sok.ndo r mr) gs)))
      refine ⟨_, rfl, x, C_Links, L.dx, _, _, rfl, hG.hx, T.cl_Links, T.na_Links_ins, lkF_i, _, rfl, _, _, rfl, dget_ref (.inl hG.hI) mse, ?_⟩
      refine ⟨_, rfl, .inl ⟨_, .inl hgo⟩, _, rfl, _, Sum.inr r, _, hgo, rfl, setD_val ((sok.back r mr s1 mls.1).mpr ms), ?_⟩
      rw [show dropK (setD (S.ins s1)) (Sum.inr r) = setD ((S.ins s1).filter fun z => decide (z ≠ r)) from setD_drop _ _]
      refine ⟨fr.trans (LFr.upd (out_i mls.1) hgo trivial), (hG.setI _ ok2 mse).congr (fun y my => ?_) (fun _ _ => rfl) rfl, ?_, ?_, _, _, rfl⟩
      · show (if y = s1 then (S.ins s1).filter (fun z => decide (z ≠ r)) else if y ∈ (S.outs r).take i then (S.ins y).filter (fun z => decide (z ≠ r)) else S.ins y) = if y ∈ (S.outs r).take (i + 1) then (S.ins y).filter (fun z => decide (z ≠ r)) else S.ins y
        by_cases e : y = s1
        · rw [if_pos e, if_pos ((mem_take_more gs).mpr (.inr e)), e]
        · rw [if_neg e]
          by_cases c : y ∈ (S.outs r).take i
          · rw [if_pos c, if_pos ((mem_take_more gs).mpr (.inl c))]
          · rw [if_neg c, if_neg fun z => ((mem_take_more gs).mp z).elim c e]
      · rw [upd_ne (ok.ia s1 mls.1 r mr).symm]
        exact hao
      · rw [upd_ne (ok.ij r mr s1 mls.1 mls.2.symm).1]
        exact hai
    · rintro σ G1 ⟨fr, hG, hao, hai, y5, y6, rfl⟩
      rw [setD_len, List.take_length] at hG
      refine ⟨hao, fr.trans (LFr.upd (out_o mr) hao trivial), (hG.off ((off hG).2 hao trivial) hao trivial).congr (fun y my => ?_) (fun _ _ => rfl) rfl, ?_, upd_same, _, _, rfl⟩
      · show (if y ∈ S.outs r then (S.ins y).filter (fun z => decide (z ≠ r)) else S.ins y) = (S.ins y).filter (fun z => decide (z ≠ r))
        by_cases c : y ∈ S.outs r
        · rw [if_pos c]
        · rw [if_neg c]
          refine (List.filter_eq_self.mpr fun z mz => ?_).symm
          rw [decide_eq_true_eq]
          intro e
          rw [e] at mz
          exact c ((sok.back r mr y (lm my).1).mp mz)
      · rw [upd_ne (ok.ia r mr r mr)]
        exact hai
  rintro σ H4 ⟨fr4, hL4, hi4, ho4, y5, y6, rfl⟩
  -- each source to each target
  have sok4 := sok.drop r ndl
  have sub2 : ∀ y ∈ live.erase r, y ∈ ws := fun y m => sub y (lm m).1
  have ts : ∀ t ∈ S.outs r, t ∈ live.erase r := fun t m => ml (sok.ino r mr t m).1 (sok.ino r mr t m).2
  have ss : ∀ t ∈ S.ins r, t ∈ live.erase r := fun t m => ml (sok.ini r mr t m).1 (sok.ini r mr t m).2
  have okI : ∀ i, ((S.drop r).all ((S.ins r).take i) (S.outs r)).Ok ws (live.erase r) := fun i => (LS.all_ok sub2 ts ((S.ins r).take i) sok4 fun s m => ss s (List.mem_of_mem_take m)).1
  refine ⟨L.ai r, _, hi4, trivial, fun od => ?_⟩
  refine ⟨_, rfl, L.ai r, od, rfl, .inl ⟨_, upd_same, ?_⟩⟩
  have hL5 := hL4.off (o' := .frz od (.dK (setD (S.ins r)))) ((off hL4).1 hi4 trivial) hi4 trivial
  have ho5 : (upd H4 (L.ai r) (.frz od (.dK (setD (S.ins r))))) (L.ao r) = some (.dK (setD (S.outs r))) := by
    rw [upd_ne (ok.ia r mr r mr).symm]
    exact ho4
  refine for_it (walk_keys (kvs := setD (S.ins r))) (fun i σ H' => LFr L live H2 H' ∧ LinksAt C_Links H' x L (live.erase r) ((S.drop r).all ((S.ins r).take i) (S.outs r)) ∧ H' (L.ai r) = some (.frz od (.dK (setD (S.ins r)))) ∧ H' (L.ao r) = some (.dK (setD (S.outs r))) ∧ ∃ y5 y6, σ = [some (.ref x), some (.str r), some (.ref (L.ai r)), some (.ref (L.ao r)), y5, y6])
    ⟨fr4.trans (LFr.upd (out_i mr) hi4 trivial), hL5, upd_same, ho5, _, _, rfl⟩ (fun i σ H' _ ⟨_, _, h, _⟩ => h) ?_ ?_
  · rintro i v σ G1 G2 hi ⟨fr, hG, hai, hao, y5, y6, rfl⟩ ⟨rfl, kk, vv, g, rfl⟩
    obtain ⟨s1, gs, rfl⟩ := set_get g
    have ms := ss s1 (List.mem_of_getElem? gs)
    refine ⟨L.ao r, _, hao, trivial, fun od2 => ?_⟩
    refine ⟨_, rfl, L.ao r, od2, rfl, .inl ⟨_, upd_same, ?_⟩⟩
    have hG2 := hG.off (o' := .frz od2 (.dK (setD (S.outs r)))) ((off hG).2 hao trivial) hao trivial
    have hai2 : (upd G2 (L.ao r) (.frz od2 (.dK (setD (S.outs r))))) (L.ai r) = some (.frz od (.dK (setD (S.ins r)))) := by
      rw [upd_ne (ok.ia r mr r mr)]
      exact hai
    refine for_it (walk_keys (kvs := setD (S.outs r))) (fun j σ H' => LFr L live H2 H' ∧ LinksAt C_Links H' x L (live.erase r) (((S.drop r).all ((S.ins r).take i) (S.outs r)).row s1 ((S.outs r).take j)) ∧ H' (L.ai r) = some (.frz od (.dK (setD (S.ins r)))) ∧ H' (L.ao r) = some (.frz od2 (.dK (setD (S.outs r)))) ∧ ∃ y6, σ = [some (.ref x), some (.str r), some (.ref (L.ai r)), some (.ref (L.ao r)), some (.str s1), y6])
      ⟨fr.trans (LFr.upd (out_o mr) hao trivial), hG2, hai2, upd_same, _, rfl⟩ (fun i σ H' _ ⟨_, _, _, h, _⟩ => h) ?_ ?_
    · rintro j v σ G3 G4 hj ⟨fr, hG, hai, hao, y6, rfl⟩ ⟨rfl, kk, vv, g, rfl⟩
      obtain ⟨t, gt, rfl⟩ := set_get g
      have mt := ts t (List.mem_of_getElem? gt)
      have okJ := (LS.row_ok sub2 ms ((S.outs r).take j) (okI i) fun t m => ts t (List.mem_of_mem_take m)).1
      have estep : (((S.drop r).all ((S.ins r).take i) (S.outs r)).row s1 ((S.outs r).take (j + 1))) = (((S.drop r).all ((S.ins r).take i) (S.outs r)).row s1 ((S.outs r).take j)).link2 s1 t := fold_take _ _ _ _ _ gt
      rw [estep]
      refine ⟨_, rfl, _, rfl, .inl ⟨rfl, _, rfl, ite2 (fun h => ?_) (fun h => ?_)⟩⟩
      rotate_left
      · have e : s1 = t := Classical.byContradiction fun n => h (show (!decide (V.str s1 = V.str t)) = true by rw [decide_eq_false fun z => n (by injection z)]; rfl)
        refine ⟨fr, ?_, hai, hao, _, rfl⟩
        rw [show LS.link2 (((S.drop r).all ((S.ins r).take i) (S.outs r)).row s1 ((S.outs r).take j)) s1 t = _ from if_pos e]
        exact hG
      · have e : s1 ≠ t := fun z => by
          have h : (!decide (V.str s1 = V.str t)) = true := h
          rw [z, decide_eq_true rfl] at h
          cases h
        refine ⟨_, rfl, x, L.dx, _, rfl, hG.hx, lkF_no (by decide +kernel) (by decide +kernel) (by decide +kernel), _, rfl, _, rfl, ?_⟩
        refine ⟨_, _, _, rfl, x, L, ws, live.erase r, _, s1, t, rfl, rfl, rfl, hG, ok2, okJ, l3, l2, ms, mt, e, fun H' keep hL' => ?_⟩
        obtain ⟨xs, hF, hxs⟩ := hG.hF
        have kpt : Kpt G4 H' := fun b ys eb => keep b _ (dic_tup (hG.ho s1 ms) trivial eb) (dic_tup (hG.hi t mt) trivial eb) (ne_of eb hF fun z => nomatch z) eb
        refine ⟨fr.trans ⟨fun b o q eb => keep b o ?_ ?_ q.2.2.1 eb, kpt, fun _ _ _ => trivial⟩, ?_, keep _ _ ?_ ?_ ?_ hai, keep _ _ ?_ ?_ ?_ hao, _, rfl⟩
        · exact (q.2.2.2 s1 (lm ms).1).2
        · exact (q.2.2.2 t (lm mt).1).1
        · rw [show LS.link2 (((S.drop r).all ((S.ins r).take i) (S.outs r)).row s1 ((S.outs r).take j)) s1 t = _ from if_neg e]
          exact hL'
        · exact ok.ia r mr s1 (lm ms).1
        · exact (ok.ij r mr t (lm mt).1 (lm mt).2.symm).1
        · exact ne_of hai hF fun z => nomatch z
        · exact (ok.ij r mr s1 (lm ms).1 (lm ms).2.symm).2
        · exact (ok.ia t (lm mt).1 r mr).symm
        · exact ne_of hao hF fun z => nomatch z
    · rintro σ G3 ⟨fr, hG, hai, hao, y6, rfl⟩
      rw [setD_len, List.take_length] at hG
      refine ⟨hao, fr.trans (LFr.upd (out_o mr) hao trivial), ?_, ?_, upd_same, _, _, rfl⟩
      · rw [show (S.drop r).all ((S.ins r).take (i + 1)) (S.outs r) = ((S.drop r).all ((S.ins r).take i) (S.outs r)).row s1 (S.outs r) from fold_take _ _ _ _ _ gs]
        exact hG.off ((off hG).2 hao trivial) hao trivial
      · rw [upd_ne (ok.ia r mr r mr)]
        exact hai
  · rintro σ G1 ⟨fr, hG, hai, hao, y5, y6, rfl⟩
    rw [setD_len, List.take_length] at hG
    exact ⟨hai, k _ (fr2.trans (fr.trans (LFr.upd (out_i mr) hai trivial))) (hG.off ((off hG).1 hai trivial) hai trivial)⟩

end
end Fb

set_option Elab.async false
set_option linter.all false
set_option maxRecDepth 100000
set_option maxHeartbeats 4000000
namespace Fb
open PySem PySem.Spec L2
open PyProof.Rows hiding St
open C8 (Cal Met Mak Def cal0 met0 mak0 pe_c pe_mk pe_mt pe_mt0 fnScope fnBody fnArgs pss_cut tCut)
local macro_rules | `(tactic| walk_at "hp") => `(tactic| first | exact upd_same | assumption | (refine grow (by assumption) _ _ ?_; walk_at "hp") | (refine (show Same _ _ by assumption) _ _ ?_; walk_at "hp"))
local macro_rules | `(tactic| walk_at "sm") => `(tactic| first | exact Same.refl _ | assumption | (refine Same.trans ?_ (grow (by assumption)); walk_at "sm") | (refine Same.trans ?_ (show Same _ _ by assumption); walk_at "sm"))
section
variable {P : Program} {w : World} {K : PySem.W.Frag} {mg : Str → Option Value} {base : Heap}
variable {C_Shape C_Plan C_Links C_PlanTaken C_PlanRefused A_plan_of : Addr}
/-! ### low_pairs -/
def spLowPairs (K : PySem.W.Frag) (C : Addr) : Sp := sp2 fun a b H Q => ∃ (x l : Addr) (ws order : List Str) (ps : List Tw), a = .ref x ∧ b = .ref l ∧ ShapeAt C H x ws ps ∧ SqL K H l (order.map V.str) ∧ ws.Nodup ∧ ws.length ≤ 1000 ∧ order.Nodup ∧ (∀ r, r ∈ order ↔ r ∈ ws) ∧ ps.length ≤ 100000 ∧ (∀ p ∈ ps, p.1 ∈ ws ∧ p.2 ∈ ws ∧ p.1 ≠ p.2) ∧
  ∀ H' D ys fs, Same H H' → H D = none → H' D = some (.lst ys) → TwsV H' ys (fs.mergeSort twLe) → IsLow ps ws order fs → Q (.ref D) H'
theorem c_low_pairs (T : Top K mg C_Shape C_Plan C_Links C_PlanTaken C_PlanRefused A_plan_of) : Cal P w K mg base 4 "low_pairs" (spLowPairs K C_Shape) [] := by
  obtain ⟨f, fd, F, df⟩ := T.d_low_pairs
  refine cal_of F df (fn2 F sc_low_pairs fun cdv A outer s H a b Q E hr h => ?_) fun _ _ _ _ _ _ us hl => match us, hl with | [_, _], _ => rfl
  have nd := sc_low_pairs.nd
  obtain ⟨x, l, ws, order, ps, rfl, rfl, hx, hs, ndw, lw, ndo, mo, lp, hE, k⟩ := h
  have lo : order.length ≤ 1000 := Nat.le_trans (nd_le ndo fun r m => (mo r).mp m) lw
  refine ⟨_, (pss_cons 
      (ps_expr (pe_c (c_check_order T) hr (by decide) (by rfl) (pa_cons (pv 0) (pa_cons (pv 1) pa_nil)))) (pss_cons 
      (ps_set (i := 2) nd rfl (Or.inl rfl) (pe_mk (c_Links___init__ T) hr (by decide) (by rfl) (pa_cons (pv 0) pa_nil))) (pss_cut 
      (ps_for PassesOwn.never rfl (pi_K (K := K) rfl (pv 1)) (pg_name (i := 3) nd rfl (Or.inl rfl)) (pss_one 
      (ps_expr (pe_mt (c_Links_settle T) hr (by decide) (pv 2) (pa_cons (pv 3) pa_nil))))) (pss_one 
      (ps_ret (pe_callB (srt_K (K := K) rfl hr) (by rfl) T.sorted (by decide +kernel) (pa_cons (pe_fld (pv 2) rfl) pa_nil))))))), ?_⟩
  refine ⟨_, rfl, _, rfl, _, _, rfl, x, l, ws, order, ps, rfl, rfl, hx, hs, ndo, mo, lo, fun H1 e1 => ?_⟩
  -- links = Links(shape)
  refine ⟨_, rfl, fun lx ldx nx ndx ne => ?_⟩
  have e2 : Same H1 (upd (upd H1 ldx (.own lx)) lx (.ins C_Links ldx [])) := (grow ndx).trans (grow (by rw [upd_ne ne.symm]; exact nx))
  refine ⟨_, _, rfl, lx, ldx, x, ws, ps, rfl, rfl, upd_same, (hx.mono e1).mono e2, ndw, lw, lp, hE, fun H2 A kp hL aok aout => ⟨rfl, ?_⟩⟩
  have e12 : Same H H2 := fun b o h => kp _ _ (e2 _ _ (e1 _ _ h)) (ne_of_none (e1 _ _ h) nx)
  have aout2 : ∀ c o, H c = some o → A.Out ws c := fun c o h => aout c o (e2 _ _ (e1 _ _ h)) (ne_of_none (e1 _ _ h) nx)
  obtain ⟨ok0, sem0⟩ := LS.of_ok hE order
  clear e2 kp aout nx ndx ne e1
  refine ⟨fun σ H' => Same H H' ∧ ∃ live S, LinksAt C_Links H' lx A live S ∧ S.Ok ws live ∧ S.Sem ps ws order order.length ∧ ∃ y3, σ = [some (.ref x), some (.ref l), some (.ref lx), y3], ?_, ?_⟩
  · refine ⟨_, rfl, .inl ⟨l, rfl, ⟨_, e12.seq hs⟩, ?_⟩⟩
    refine for_it (walk_list (xs := order.map V.str)) (fun i σ H' => Same H H' ∧ (∃ live S, LinksAt C_Links H' lx A live S ∧ S.Ok ws live ∧ S.Sem ps ws order i ∧ live.Nodup ∧ ∀ r, r ∈ live ↔ r ∈ ws ∧ r ∉ order.take i) ∧ ∃ y3, σ = [some (.ref x), some (.ref l), some (.ref lx), y3])
      ⟨e12, ⟨ws, _, hL, ok0, sem0, ndw, fun r => by simp⟩, _, rfl⟩ (fun i σ H' _ ⟨e, _⟩ => e.seq hs) ?_ ?_
    · rintro i v σ G1 G2 hi ⟨e, ⟨live, S, hL, sok, sem, ndl, ml⟩, y3, rfl⟩ ⟨rfl, g⟩
      obtain ⟨z, gz, rfl⟩ := st_get g
      obtain ⟨zl, sok2, ml2, sem2⟩ := sem.step sok ndl ml ndo mo gz
      have sub : ∀ y ∈ live, y ∈ ws := fun y m => ((ml y).mp m).1
      refine ⟨_, rfl, lx, A.dx, _, rfl, hL.hx, lkF_no (by decide +kernel) (by decide +kernel) (by decide +kernel), _, rfl, ?_⟩
      refine ⟨_, _, rfl, lx, A, ws, live, S, z, rfl, rfl, hL, aok.sub sub, sok, ndl, sub, Nat.le_trans (nd_le ndl sub) lw, lw, zl, fun H' fr hL' => ?_⟩
      refine ⟨fun b o h => (fr.sub sub).fr b o (aout2 b o h) (e _ _ h), ⟨_, _, hL', sok2, sem2, ndl.erase _, ml2⟩, _, rfl⟩
    · rintro σ G1 ⟨e, ⟨live, S, hL, sok, sem, ndl, ml⟩, y3, rfl⟩
      rw [List.length_map] at sem
      exact ⟨e, live, S, hL, sok, sem, _, rfl⟩
  rintro σ H3 ⟨e3, live, S, hL, sok, sem, y3, rfl⟩
  obtain ⟨xs, hF, hxs⟩ := hL.hF
  refine ⟨_, rfl, lx, C_Links, A.dx, _, _, rfl, hL.hx, T.cl_Links, T.na_Links_found, lkF_f, ?_⟩
  refine srt_tw (.inl (SqL.of hF)) hxs fun p ys np hys => ?_
  refine k _ p ys S.found (e3.trans (grow np)) (e3.free np) upd_same hys ⟨sok.ndf, fun s t => ?_⟩
  rw [sem.sf]
  refine and_congr_right fun m1 => and_congr_right fun m2 => ?_
  have i1 := List.idxOf_lt_length_of_mem ((mo s).mpr m1)
  rw [show min order.length (min (order.idxOf s) (order.idxOf t)) = min (order.idxOf s) (order.idxOf t) by omega]

end
end Fb

set_option Elab.async false
set_option linter.all false
set_option maxRecDepth 100000
set_option maxHeartbeats 4000000
namespace Fb
open PySem PySem.Spec L2
open PyProof.Rows hiding St
open C8 (Cal Met Mak Def cal0 met0 mak0 pe_c pe_mk pe_mt pe_mt0 fnScope fnBody fnArgs pss_cut tCut)
local macro_rules | `(tactic| walk_at "hp") => `(tactic| first | exact upd_same | assumption | (refine grow (by assumption) _ _ ?_; walk_at "hp") | (refine (show Same _ _ by assumption) _ _ ?_; walk_at "hp"))
local macro_rules | `(tactic| walk_at "sm") => `(tactic| first | exact Same.refl _ | assumption | (refine Same.trans ?_ (grow (by assumption)); walk_at "sm") | (refine Same.trans ?_ (show Same _ _ by assumption); walk_at "sm"))
section
variable {P : Program} {w : World} {K : PySem.W.Frag} {mg : Str → Option Value} {base : Heap}
variable {C_Shape C_Plan C_Links C_PlanTaken C_PlanRefused A_plan_of : Addr}
/-! ### _law_mixed -/
def spMixed (K : PySem.W.Frag) : Sp := sp2 fun a b H Q => ∃ (p l : Addr) (zs : List V), a = .ref p ∧ BagAt H p ∧ b = .ref l ∧ SqL K H l zs ∧ zs.length ≤ 1000 ∧
  ∀ (H' : Hp) (D : Addr) (cs : List V), Same H H' → H D = none → H' D = some (.lst cs) → cs.Perm zs → Q (.ref D) H'
theorem ins_perm {α : Type} (l : List α) (j : Nat) (x : α) : (l.take j ++ [x] ++ l.drop j).Perm (l ++ [x]) := by
  rw [List.append_assoc]
  refine (List.Perm.append_left _ List.perm_append_comm).trans ?_
  rw [← List.append_assoc, List.take_append_drop]
theorem c__law_mixed (T : Top K mg C_Shape C_Plan C_Links C_PlanTaken C_PlanRefused A_plan_of) : Cal P w K mg base 2 "_law_mixed" (spMixed K) [] := by
  obtain ⟨f, fd, F, df⟩ := T.d__law_mixed
  refine cal_of F df (fn2 F sc__law_mixed fun cdv A outer s H a b Q E hr h => ?_) fun _ _ _ _ _ _ us hl => match us, hl with | [_, _], _ => rfl
  have nd := sc__law_mixed.nd
  obtain ⟨p, l, zs, rfl, hb, rfl, hs, hl, k⟩ := h
  refine ⟨_, (pss_cons 
      (ps_set (i := 2) nd rfl (Or.inl rfl) (pe_lst pa_nil)) (pss_cons 
      (ps_for PassesOwn.never rfl (pi_K (K := K) rfl (pv 1)) (pg_name (i := 3) nd rfl (Or.inl rfl)) (pss_one 
      (ps_expr (pe_bm PySem.F.plainAttrs_list PySem.F.slot_list_insert PySem.F.type_list_insert mt_insert (pv 2) (pa_cons (pe_c (c__law_draw T) hr (by decide) (by rfl) (pa_cons (pv 0) (pa_cons (pe_op op_addU (pe_callB (len_K (K := K) rfl) (by rfl) T.len (by decide +kernel) (pa_cons (pv 2) pa_nil)) pe_int) pa_nil))) (pa_cons (pv 3) pa_nil)))))) (pss_one 
      (ps_ret (pv 2))))), ?_⟩
  refine ⟨Nat.zero_le _, fun q nq => ?_⟩
  have e0 := grow (o := .lst []) nq
  refine ⟨_, rfl, .inl ⟨l, rfl, ⟨_, e0.seq hs⟩, ?_⟩⟩
  refine for_it (walk_list (xs := zs)) (fun i σ G => Same H G ∧ (∃ us, G q = some (.lst us) ∧ us.Perm (zs.take i)) ∧ ∃ y, σ = [some (.ref p), some (.ref l), some (.ref q), y])
    ⟨e0, ⟨[], upd_same, .refl _⟩, _, rfl⟩ (fun i σ G _ ⟨e, _⟩ => e.seq hs) ?_ ?_
  · rintro i x σ G1 G2 hi ⟨e, ⟨us, hq, pm⟩, y, rfl⟩ ⟨rfl, g⟩
    have lu : us.length = i := by
      rw [pm.length_eq, List.length_take]
      omega
    refine ⟨_, rfl, .inl ⟨rfl, _, SqL.of hq⟩, _, rfl, _, rfl, .inl ⟨q, _, rfl, .inl (SqL.of hq), ?_⟩⟩
    refine .inl ⟨_, _, rfl, rfl, ?_⟩
    refine ⟨_, _, rfl, p, (us.length : Int) + 1, rfl, rfl, hb.mono e, by omega, small_log (by omega) (by omega), fun d d0 d1 => ?_⟩
    refine ⟨_, rfl, q, us, d, x, rfl, rfl, hq, size5 (by omega), d0, by omega, ?_⟩
    refine ⟨same_mut e nq, ⟨_, upd_same, ?_⟩, _, rfl⟩
    rw [take_snoc g]
    exact (ins_perm us d.toNat x).trans (pm.append_right [x])
  · rintro σ G ⟨e, ⟨us, hq, pm⟩, y, rfl⟩
    rw [List.take_length] at pm
    exact ⟨_, rfl, k G q us e nq hq pm⟩

end
end Fb

set_option Elab.async false
set_option linter.all false
set_option maxRecDepth 100000
set_option maxHeartbeats 4000000
namespace Fb
open PySem PySem.Spec L2
open PyProof.Rows hiding St
open C8 (Cal Met Mak Def cal0 met0 mak0 pe_c pe_mk pe_mt pe_mt0 fnScope fnBody fnArgs pss_cut tCut)
local macro_rules | `(tactic| walk_at "hp") => `(tactic| first | exact upd_same | assumption | (refine grow (by assumption) _ _ ?_; walk_at "hp") | (refine (show Same _ _ by assumption) _ _ ?_; walk_at "hp"))
local macro_rules | `(tactic| walk_at "sm") => `(tactic| first | exact Same.refl _ | assumption | (refine Same.trans ?_ (grow (by assumption)); walk_at "sm") | (refine Same.trans ?_ (show Same _ _ by assumption); walk_at "sm"))
section
variable {P : Program} {w : World} {K : PySem.W.Frag} {mg : Str → Option Value} {base : Heap}
variable {C_Shape C_Plan C_Links C_PlanTaken C_PlanRefused A_plan_of : Addr}
/-! ### is_name -/
def spIsName (K : PySem.W.Frag) : Sp := sp1 fun a H Q => AnyV K H a ∧ Then H Q (.bl (nameB a))
theorem ok_is_name (T : Top K mg C_Shape C_Plan C_Links C_PlanTaken C_PlanRefused A_plan_of) {f : Addr} {fd : FuncData} (F : Def K mg "is_name" s_is_name f fd) : FnOk P w K mg base C8.CX0 1 f fd ["value"] (spIsName K) := by
  refine fn1 F sc_is_name fun cdv A outer s H a Q E hr h => ?_
  have nd := sc_is_name.nd
  obtain ⟨ha, q⟩ := h
  refine ⟨_, (pss_cons 
      (ps_if (PW.pt (pw_or (pt_not (pt_val (pe_callB (isi_K (K := K) rfl) (by rfl) T.isinstance (by decide +kernel) (pa_cons (pv 0) (pa_cons (pe_bltn (v := .ty "str") (by rfl) T.str (by decide +kernel) rfl) pa_nil))))) (pw_or1 (pt_not (pt_chain op_leU op_leU pe_int (pe_callB (len_K (K := K) rfl) (by rfl) T.len (by decide +kernel) (pa_cons (pv 0) pa_nil)) (C8.pe_gc (v := .int 8) (by rfl) T.m_LETTERS)))))) (pss_one 
      (ps_ret pe_bl)) pss_nil) (pss_one 
      (ps_ret (pe_callB (all_K (K := K) rfl rfl) (by rfl) T.all (by decide +kernel) (pa_cons (pe_lc (own := [("letter", 1)]) rfl nd (pi_K (K := K) rfl (pv 0)) (blkOk_by (N := ["value", "letter"]) (sc := fnScope s_is_name) (by decide +kernel)) (fun _ _ _ _ _ => (pg_name (i := 1) nd rfl (Or.inl rfl))) (fun _ _ _ _ _ => pts_nil) (fun _ _ _ _ _ => (pe_chain op_leU op_leU pe_str (pv 1) pe_str))) pa_nil))))), ?_⟩
  rcases ha.strOr with ⟨z, rfl, hz⟩ | ⟨no, t, ty, kb⟩
  · refine ⟨_, rfl, .inl ⟨_, _, _, true, rfl, .base (.str z), by decide +kernel, _, rfl, ?_⟩⟩
    -- not 1 <= len(value) <= LETTERS
    refine iteF ⟨_, rfl, .inr ⟨z, rfl, size5' hz, .inl ⟨_, _, rfl, rfl, _, rfl, ite2 (fun h1 => ?_) (fun h1 => ?_)⟩⟩⟩
    · refine .inl ⟨_, _, rfl, rfl, _, rfl, ?_⟩
      by_cases h8 : (z.length : Int) ≤ 8
      · rw [decide_eq_true h8]
        refine iteF ?_
        -- all([..])
        refine ⟨_, rfl, .inr (.inr ⟨z, rfl, fun D hD => ?_⟩)⟩
        refine lc_map walk_str (fun i => .bl (letC (z.cps.toList.getD i 0))) ?_ (by show z.length ≤ 100000; exact hz) hD (fun _ _ => trivial) ?_ ?_
        · rintro i H x H' ⟨rfl, _⟩
          exact Same.refl _
        · rintro i x H1 H2 hi e ⟨rfl, c, hc, rfl⟩ R k
          have ec : z.cps.toList.getD i 0 = c := by
            rw [List.getD_eq_getElem?_getD, Array.getElem?_toList, hc]
            rfl
          have f97 : decide ((("a" : Str).cps.toList) ≤ [c]) = true → True := fun _ => trivial
          refine ⟨rfl, _, rfl, .inr ⟨_, _, rfl, rfl, _, rfl, ?_⟩⟩
          have k := k H2 (Same.refl _)
          rw [ec] at k
          show (if (!decide (#[c].toList < #[97].toList)) = true then _ else _)
          rw [lt1]
          by_cases h97 : c < 97
          · rw [decide_eq_true h97]
            refine iteF ?_
            rw [show letC c = false by unfold letC; rw [decide_eq_false (by omega)]; rfl] at k
            exact k
          · rw [decide_eq_false h97]
            refine iteT (.inr ⟨_, _, rfl, rfl, ?_⟩)
            show R (.bl (!decide (#[122].toList < #[c].toList))) H2
            rw [lt1, show (!decide (122 < c)) = letC c by unfold letC; rw [decide_eq_true (show 97 ≤ c by omega), ← decide_not, Bool.true_and]; exact decide_eq_decide.mpr (by omega)]
            exact k
        · intro H1 e hd
          rw [str_len] at hd
          have hd := hd.trans (congrArg (fun l => some (HO.lst l)) (map_range_get 0 (fun c => V.bl (letC c)) z.cps.toList))
          refine ⟨D, z.cps.toList.map letC, rfl, SqL.of (by rw [hd, List.map_map]; rfl), ?_⟩
          have k := q H1 e
          rw [show nameB (.str z) = (z.cps.toList.map letC).all id by
            show (decide (1 ≤ z.length) && decide (z.length ≤ 8) && z.cps.toList.all letC) = _
            have h1 := of_decide_eq_true h1
            rw [decide_eq_true (show 1 ≤ z.length by omega), decide_eq_true (show z.length ≤ 8 by omega), List.all_map]
            rfl] at k
          exact k
      · rw [decide_eq_false h8]
        refine iteT ?_
        have k := q.here
        rw [show nameB (.str z) = false by
          show (decide (1 ≤ z.length) && decide (z.length ≤ 8) && z.cps.toList.all letC) = _
          rw [decide_eq_false (show ¬ z.length ≤ 8 by omega), Bool.and_false, Bool.false_and]] at k
        exact k
    · refine ⟨_, rfl, iteT ?_⟩
      have h1 : ¬ (1 : Int) ≤ z.length := fun e => h1 (decide_eq_true e)
      have k := q.here
      rw [show nameB (.str z) = false by
        show (decide (1 ≤ z.length) && decide (z.length ≤ 8) && z.cps.toList.all letC) = _
        rw [decide_eq_false (show ¬ 1 ≤ z.length by omega), Bool.false_and, Bool.false_and]] at k
      exact k
  · refine ⟨_, rfl, .inl ⟨_, _, _, false, rfl, ty, kb, _, rfl, ?_⟩⟩
    have := q.here
    rw [nameB_no no] at this
    exact this

theorem c_is_name (T : Top K mg C_Shape C_Plan C_Links C_PlanTaken C_PlanRefused A_plan_of) : Cal P w K mg base 1 "is_name" (spIsName K) [] := by
  obtain ⟨f, fd, F, df⟩ := T.d_is_name
  exact cal_of F df (ok_is_name T F) fun _ _ _ _ _ _ us hl => match us, hl with | [_], _ => rfl

end
end Fb

set_option Elab.async false
set_option linter.all false
set_option maxRecDepth 100000
set_option maxHeartbeats 4000000
namespace Fb
open PySem PySem.Spec L2
open PyProof.Rows hiding St
open C8 (Cal Met Mak Def cal0 met0 mak0 pe_c pe_mk pe_mt pe_mt0 fnScope fnBody fnArgs pss_cut tCut)
local macro_rules | `(tactic| walk_at "hp") => `(tactic| first | exact upd_same | assumption | (refine grow (by assumption) _ _ ?_; walk_at "hp") | (refine (show Same _ _ by assumption) _ _ ?_; walk_at "hp"))
local macro_rules | `(tactic| walk_at "sm") => `(tactic| first | exact Same.refl _ | assumption | (refine Same.trans ?_ (grow (by assumption)); walk_at "sm") | (refine Same.trans ?_ (show Same _ _ by assumption); walk_at "sm"))
section
variable {P : Program} {w : World} {K : PySem.W.Frag} {mg : Str → Option Value} {base : Heap}
variable {C_Shape C_Plan C_Links C_PlanTaken C_PlanRefused A_plan_of : Addr}
/-! ### check_different -/
def spCheckDiff (K : PySem.W.Frag) : Sp := sp1 fun a H Q => ∃ (l : Addr) (ws : List Str), a = .ref l ∧ SqL K H l (ws.map V.str) ∧ Nms ws ∧ ws.Nodup ∧ ws.length ≤ 1000 ∧ Then H Q .non
theorem c_check_different (T : Top K mg C_Shape C_Plan C_Links C_PlanTaken C_PlanRefused A_plan_of) : Cal P w K mg base 2 "check_different" (spCheckDiff K) [] := by
  obtain ⟨f, fd, F, df⟩ := T.d_check_different
  refine cal_of F df (fn1 F sc_check_different fun cdv A outer s H a Q E hr h => ?_) fun _ _ _ _ _ _ us hl => match us, hl with | [_], _ => rfl
  have nd := sc_check_different.nd
  obtain ⟨l, ws, rfl, hs, nm, nd', hl, q⟩ := h
  refine ⟨_, (pss_cons 
      (ps_for PassesOwn.never rfl (pi_K (K := K) rfl (pv 0)) (pg_name (i := 1) nd rfl (Or.inl rfl)) (pss_one 
      (ps_if (pt_not (pt_val (pe_c (c_is_name T) hr (by decide) (by rfl) (pa_cons (pv 1) pa_nil)))) (pss_one 
      ps_never) pss_nil))) (pss_cons 
      (ps_set (i := 2) nd rfl (Or.inl rfl) pe_dnewK) (pss_one 
      (ps_for PassesOwn.never rfl (pi_K (K := K) rfl (pv 0)) (pg_name (i := 1) nd rfl (Or.inl rfl)) (pss_cons 
      (ps_if (pt_cmp (pc_din (hu_of hr) (pv 1) (pv 2)) (by with_unfolding_all rfl)) (pss_one 
      ps_never) pss_nil) (pss_one 
      (ps_dput (hu_of hr) (pv 2) (pv 1) pe_bl rfl))))))), ?_⟩
  have get : ∀ {i : Nat} {x : V}, (ws.map V.str)[i]? = some x → ∃ z, ws[i]? = some z ∧ x = .str z := fun {i x} g => by
    rw [List.getElem?_map] at g
    cases e : ws[i]? with
    | none =>
      rw [e] at g
      cases g
    | some z =>
      rw [e] at g
      exact ⟨z, rfl, (Option.some.inj g).symm⟩
  refine ⟨_, rfl, .inl ⟨l, rfl, ⟨_, hs⟩, ?_⟩⟩
  refine for_it (walk_list (xs := ws.map V.str)) (fun i σ H' => Same H H' ∧ ∃ y, σ = [some (.ref l), y, none]) ⟨Same.refl _, _, rfl⟩ (fun i σ H' _ ⟨e, _⟩ => e.seq hs) ?_ ?_
  · rintro i x σ H1 H2 hi ⟨e, y, rfl⟩ ⟨rfl, g⟩
    obtain ⟨z, gz, rfl⟩ := get g
    have nz := nm z (List.mem_of_getElem? gz)
    refine ⟨_, rfl, _, rfl, any_str (by have := nz.len; omega), fun H3 e3 => ⟨_, rfl, ?_⟩⟩
    rw [nz]
    exact iteF ⟨e.trans e3, _, rfl⟩
  rintro σ H1 ⟨e1, y, rfl⟩
  refine fun d nd0 => ?_
  have e2 := e1.trans (grow (o := .dK []) nd0)
  have fd := e1.free nd0
  refine ⟨_, rfl, .inl ⟨l, rfl, ⟨_, e2.seq hs⟩, ?_⟩⟩
  refine for_it (walk_list (xs := ws.map V.str)) (fun i σ H' => Same H H' ∧ H' d = some (.dK (setD (ws.take i))) ∧ ∃ y, σ = [some (.ref l), y, some (.ref d)]) ⟨e2, upd_same, _, rfl⟩ (fun i σ H' _ ⟨e, _⟩ => e.seq hs) ?_ ?_
  · rintro i x σ H2 H3 hi ⟨e, hd, y, rfl⟩ ⟨rfl, g⟩
    obtain ⟨z, gz, rfl⟩ := get g
    have nz : z ∉ ws.take i := by
      intro m
      obtain ⟨j, h1, h2⟩ := List.getElem_of_mem m
      rw [List.length_take] at h1
      rw [List.getElem_take] at h2
      obtain ⟨lt, e3⟩ := List.getElem?_eq_some_iff.mp gz
      have := (List.getElem_inj nd').mp (h2.trans e3.symm)
      omega
    refine ⟨_, rfl, _, rfl, d, _, rfl, DGet.k (k := Sum.inr z) hd, _, rfl, ?_⟩
    rw [show (valV (setD (ws.take i)) (Sum.inr z)).isSome = false from (setD_some _ z).trans (decide_eq_false nz)]
    refine iteF ⟨_, rfl, _, rfl, d, _, rfl, DPut.k (k := Sum.inr z) hd (size5 ?_), ?_⟩
    · rw [setD_len, List.length_take]
      omega
    · refine ⟨same_mut e fd, ?_, _, rfl⟩
      rw [upd_same]
      exact congrArg (fun q => some (HO.dK q)) ((setD_put nz).trans (by rw [List.take_add_one, gz]; rfl))
  · rintro σ H2 ⟨e, hd, y, rfl⟩
    exact q H2 e

end
end Fb

set_option Elab.async false
set_option linter.all false
set_option maxRecDepth 100000
set_option maxHeartbeats 4000000
namespace Fb
open PySem PySem.Spec L2
open PyProof.Rows hiding St
open C8 (Cal Met Mak Def cal0 met0 mak0 pe_c pe_mk pe_mt pe_mt0 fnScope fnBody fnArgs pss_cut tCut)
local macro_rules | `(tactic| walk_at "hp") => `(tactic| first | exact upd_same | assumption | (refine grow (by assumption) _ _ ?_; walk_at "hp") | (refine (show Same _ _ by assumption) _ _ ?_; walk_at "hp"))
local macro_rules | `(tactic| walk_at "sm") => `(tactic| first | exact Same.refl _ | assumption | (refine Same.trans ?_ (grow (by assumption)); walk_at "sm") | (refine Same.trans ?_ (show Same _ _ by assumption); walk_at "sm"))
section
variable {P : Program} {w : World} {K : PySem.W.Frag} {mg : Str → Option Value} {base : Heap}
variable {C_Shape C_Plan C_Links C_PlanTaken C_PlanRefused A_plan_of : Addr}
/-! ### is_pair -/
def spIsPair : Sp := sp2 fun a b H Q => ∃ (p : Tw) (d : Addr) (kvs : List (Key × V)) (ws : List Str), TwV H a p ∧ b = .ref d ∧ H d = some (.dK kvs) ∧ kvs.map Prod.fst = ws.map nmK ∧ p.1 ∈ ws ∧ p.2 ∈ ws ∧ p.1 ≠ p.2 ∧ Q (.bl true) H
theorem c_is_pair (T : Top K mg C_Shape C_Plan C_Links C_PlanTaken C_PlanRefused A_plan_of) : Cal P w K mg base 1 "is_pair" spIsPair [] := by
  obtain ⟨f, fd, F, df⟩ := T.d_is_pair
  refine cal_of F df (fn2 F sc_is_pair fun cdv A outer s H a b Q E hr h => ?_) fun _ _ _ _ _ _ us hl => match us, hl with | [_, _], _ => rfl
  have nd := sc_is_pair.nd
  obtain ⟨p, d, kvs, ws, ⟨t, rfl, ht⟩, rfl, hd, hk, m1, m2, ne, k⟩ := h
  refine ⟨_, (pss_cons 
      (ps_if (PW.pt (pw_or (pt_not (pt_val (pe_callB (isi_K (K := K) rfl) (by rfl) T.isinstance (by decide +kernel) (pa_cons (pv 0) (pa_cons (pe_bltn (v := .ty "tuple") (by rfl) T.tuple (by decide +kernel) rfl) pa_nil))))) (pw_or1 (pt_cmpR (ne_K (K := K) rfl hr) (pe_callB (len_K (K := K) rfl) (by rfl) T.len (by decide +kernel) (pa_cons (pv 0) pa_nil)) pe_int (nomark _))))) (pss_one 
      (ps_ret pe_bl)) pss_nil) (pss_cons 
      (ps_asg (pv 0) (tup_K (K := K) (n := 2) rfl rfl (pgs_cons (pg_name (i := 2) nd rfl (Or.inl rfl)) (pgs_cons (pg_name (i := 3) nd rfl (Or.inl rfl)) pgs_nil)))) (pss_cons 
      (ps_if (PW.pt (pw_or (pt_not (pt_val (pe_callB (isi_K (K := K) rfl) (by rfl) T.isinstance (by decide +kernel) (pa_cons (pv 2) (pa_cons (pe_bltn (v := .ty "str") (by rfl) T.str (by decide +kernel) rfl) pa_nil))))) (pw_or1 (pt_not (pt_val (pe_callB (isi_K (K := K) rfl) (by rfl) T.isinstance (by decide +kernel) (pa_cons (pv 3) (pa_cons (pe_bltn (v := .ty "str") (by rfl) T.str (by decide +kernel) rfl) pa_nil)))))))) (pss_one 
      (ps_ret pe_bl)) pss_nil) (pss_one 
      (ps_ret (pe_and (pe_cmp (pc_din (hu_of hr) (pv 2) (pv 1)) (by with_unfolding_all rfl)) (pe_and (pe_cmp (pc_din (hu_of hr) (pv 3) (pv 1)) (by with_unfolding_all rfl)) (pe_one (pe_cmpR (ne_K (K := K) rfl hr) (pv 2) (pv 3) (nomark _)))))))))), ?_⟩
  refine ⟨_, rfl, .inl ⟨_, _, _, true, rfl, .base (.tup ht), by decide +kernel, _, rfl, iteF ?_⟩⟩
  refine ⟨_, rfl, .inl ⟨t, _, rfl, .inr (SqT.of ht), .inl ⟨rfl, _, rfl, iteF ?_⟩⟩⟩
  refine ⟨_, rfl, t, _, rfl, SqT.of ht, rfl, _, _, rfl, _, _, rfl, rfl, ?_⟩
  refine ⟨_, rfl, .inl ⟨_, _, _, true, rfl, .base (.str p.1), by decide +kernel, _, rfl, iteF ?_⟩⟩
  refine ⟨_, rfl, .inl ⟨_, _, _, true, rfl, .base (.str p.2), by decide +kernel, _, rfl, iteF ?_⟩⟩
  have v1 : (valV kvs (Sum.inr p.1)).isSome = true := by
    rw [val_in hk]
    exact decide_eq_true m1
  have v2 : (valV kvs (Sum.inr p.2)).isSome = true := by
    rw [val_in hk]
    exact decide_eq_true m2
  refine ⟨_, rfl, _, rfl, d, _, rfl, DGet.k (k := Sum.inr p.1) hd, ?_⟩
  rw [v1]
  refine ⟨_, rfl, ⟨_, rfl, _, rfl, d, _, rfl, DGet.k (k := Sum.inr p.2) hd, ?_⟩⟩
  rw [v2]
  refine ⟨_, rfl, ⟨_, rfl, _, rfl, .inl ⟨rfl, ?_⟩⟩⟩
  rw [show decide (V.str p.1 = V.str p.2) = false from decide_eq_false fun e => ne (by injection e)]
  exact k

end
end Fb

set_option Elab.async false
set_option linter.all false
set_option maxRecDepth 100000
set_option maxHeartbeats 4000000
namespace Fb
open PySem PySem.Spec L2
open PyProof.Rows hiding St
open C8 (Cal Met Mak Def cal0 met0 mak0 pe_c pe_mk pe_mt pe_mt0 fnScope fnBody fnArgs pss_cut tCut)
local macro_rules | `(tactic| walk_at "hp") => `(tactic| first | exact upd_same | assumption | (refine grow (by assumption) _ _ ?_; walk_at "hp") | (refine (show Same _ _ by assumption) _ _ ?_; walk_at "hp"))
local macro_rules | `(tactic| walk_at "sm") => `(tactic| first | exact Same.refl _ | assumption | (refine Same.trans ?_ (grow (by assumption)); walk_at "sm") | (refine Same.trans ?_ (show Same _ _ by assumption); walk_at "sm"))
section
variable {P : Program} {w : World} {K : PySem.W.Frag} {mg : Str → Option Value} {base : Heap}
variable {C_Shape C_Plan C_Links C_PlanTaken C_PlanRefused A_plan_of : Addr}
/-! ### Shape.__init__ -/
def spShapeI (K : PySem.W.Frag) (C : Addr) : Sp := sp3 fun a b c H Q => ∃ (x dx l1 l2 : Addr) (rs : List Str) (xs : List V) (ts : List Tw), a = .ref x ∧ b = .ref l1 ∧ c = .ref l2 ∧ H x = some (.ins C dx []) ∧ H l1 = some (.lst (rs.map V.str)) ∧ H l2 = some (.lst xs) ∧ TwsV H xs ts ∧ Nms rs ∧ rs.Nodup ∧ rs.length ≤ 1000 ∧ ts.length ≤ 10000 ∧ (∀ p ∈ ts, p.1 ∈ rs ∧ p.2 ∈ rs ∧ p.1 ≠ p.2) ∧
  ∀ (H' : Hp), (∀ c o, H c = some o → c ≠ x → H' c = some o) → ShapeAt C H' x (rs.mergeSort stLe) (uq (ts.mergeSort twLe)) → Q .non H'
theorem c_Shape___init__ (T : Top K mg C_Shape C_Plan C_Links C_PlanTaken C_PlanRefused A_plan_of) : Mak P w K mg base 3 "Shape" C_Shape (spShapeI K C_Shape) [] := by
  obtain ⟨f, fd, me, F, df⟩ := T.d_Shape___init__
  refine ⟨f, fd, ["self", "roads", "turns"], [], me, ?_, T.g_Shape, F.binds df fun _ _ _ _ _ _ us hl => match us, hl with | [_, _, _], _ => rfl, .nil⟩
  refine fm3 F sc_Shape___init__ fun cdv A outer s H a b c Q E hr h => ?_
  have nd := sc_Shape___init__.nd
  obtain ⟨x, dx, l1, l2, rs, xs, ts, rfl, rfl, rfl, hx, hl1, hl2, hxs, nm, ndr, lr, lt, hE, k⟩ := h
  refine ⟨_, (pss_cons 
      (ps_expr (pe_c (c_check_different T) hr (by decide) (by rfl) (pa_cons (pv 1) pa_nil))) (pss_cut 
      (ps_fld (pv 0) (pe_dc (own := [("road", 6)]) rfl nd (pi_K (K := K) rfl (pe_callB (srt_K (K := K) rfl hr) (by rfl) T.sorted (by decide +kernel) (pa_cons (pv 1) pa_nil))) (blkOk_by (N := ["self", "roads", "turns", "turn", "source", "target", "road"]) (sc := fnScope s_Shape___init__) (by decide +kernel)) (fun _ _ _ _ _ => (pg_name (i := 6) nd rfl (Or.inl rfl))) (fun _ _ _ _ _ => pts_nil) (fun _ _ _ _ _ => (pv 6)) (fun _ _ _ _ _ => (pe_lst pa_nil))) rfl) (pss_cut 
      (ps_for PassesOwn.never rfl (pi_K (K := K) rfl (pv 2)) (pg_name (i := 3) nd rfl (Or.inl rfl)) (pss_one 
      (ps_if (pt_not (pt_val (pe_c (c_is_pair T) hr (by decide) (by rfl) (pa_cons (pv 3) (pa_cons (pe_fld (pv 0) rfl) pa_nil))))) (pss_cons 
      ps_never (pss_one 
      ps_never)) pss_nil))) (pss_cut 
      (ps_fld (pv 0) (pe_dcT (hu_of hr) (own := [("turn", 3)]) rfl nd (pi_K (K := K) rfl (pe_callB (srt_K (K := K) rfl hr) (by rfl) T.sorted (by decide +kernel) (pa_cons (pv 2) pa_nil))) (blkOk_by (N := ["self", "roads", "turns", "turn", "source", "target", "road"]) (sc := fnScope s_Shape___init__) (by decide +kernel)) (fun _ _ _ _ _ => (pg_name (i := 3) nd rfl (Or.inl rfl))) (fun _ _ _ _ _ => pts_nil) (fun _ _ _ _ _ => (pv 3)) (fun _ _ _ _ _ => pe_bl)) rfl) (pss_cut 
      (ps_fld (pv 0) (pe_lock (pe_dc (own := [("road", 6)]) rfl nd (pi_keys (pe_fld (pv 0) rfl)) (blkOk_by (N := ["self", "roads", "turns", "turn", "source", "target", "road"]) (sc := fnScope s_Shape___init__) (by decide +kernel)) (fun _ _ _ _ _ => (pg_name (i := 6) nd rfl (Or.inl rfl))) (fun _ _ _ _ _ => pts_nil) (fun _ _ _ _ _ => (pv 6)) (fun _ _ _ _ _ => (pe_lst pa_nil)))) rfl) (pss_one 
      (ps_lock (ps_for PassesOwn.never rfl (pi_keys (pe_fld (pv 0) rfl)) (tup_K (K := K) (n := 2) rfl rfl (pgs_cons (pg_name (i := 4) nd rfl (Or.inl rfl)) (pgs_cons (pg_name (i := 5) nd rfl (Or.inl rfl)) pgs_nil))) (pss_cons 
      (ps_expr (pe_bm PySem.F.plainAttrs_list PySem.F.slot_list_append PySem.F.type_list_append mt_append (pe_dget (hu_of hr) (pe_fld (pv 0) rfl) (pv 4) (fun _ _ => rfl)) (pa_cons (pv 5) pa_nil))) (pss_one 
      (ps_expr (pe_bm PySem.F.plainAttrs_list PySem.F.slot_list_append PySem.F.type_list_append mt_append (pe_dget (hu_of hr) (pe_fld (pv 0) rfl) (pv 5) (fun _ _ => rfl)) (pa_cons (pv 4) pa_nil))))))))))))), ?_⟩
  have nl1 : l1 ≠ x := ne_of hl1 hx fun z => nomatch z
  have nl2 : l2 ≠ x := ne_of hl2 hx fun z => nomatch z
  refine ⟨_, rfl, _, rfl, l1, rs, rfl, SqL.of hl1, nm, ndr, lr, fun H0 e0 => ?_⟩
  have mw : ∀ {r}, r ∈ rs.mergeSort stLe ↔ r ∈ rs := fun {r} => List.mem_mergeSort
  have ndw : (rs.mergeSort stLe).Nodup := (List.mergeSort_perm rs stLe).nodup_iff.mpr ndr
  have lw : (rs.mergeSort stLe).length ≤ 1000 := by rw [List.length_mergeSort]; exact lr
  have lps : (ts.mergeSort twLe).length ≤ 10000 := by rw [List.length_mergeSort]; exact lt
  generalize hws : rs.mergeSort stLe = ws at mw ndw lw k
  generalize hps : ts.mergeSort twLe = ps at lps k
  have mp : ∀ {p}, p ∈ ps ↔ p ∈ ts := fun {p} => by rw [← hps]; exact List.mem_mergeSort
  have k : ∀ (H' : Hp), (∀ c o, H0 c = some o → c ≠ x → H' c = some o) → ShapeAt C_Shape H' x ws (uq ps) → _ := fun H' a b => k H' (fun c o h n => a c o (e0 _ _ h) n) b
  have hx := e0 _ _ hx
  have hl1 := e0 _ _ hl1
  have hl2 := e0 _ _ hl2
  have hxs := hxs.kp (Same.kpt e0)
  clear e0
  -- self._following
  refine ⟨fun σ H' => ∃ (D : Addr) (f : Str → Addr), (∀ c o, H0 c = some o → c ≠ x → H' c = some o) ∧ H0 D = none ∧ H' D = some (.dK (refD ws f)) ∧ Fam (.lst []) H0 H' D ws f ∧ H' x = some (.ins C_Shape dx [("_following", .ref D)]) ∧ ∃ y3 y4 y5 y6, σ = [some (.ref x), some (.ref l1), some (.ref l2), y3, y4, y5, y6], ?_, ?_⟩
  · refine ⟨_, rfl, ?_⟩
    dsimp only [tNil]
    refine srt_st (.inl (SqL.of hl1)) fun p np => ?_
    rw [hws]
    refine .inl ⟨p, rfl, ⟨_, SqL.of upd_same⟩, fun D nD => ?_⟩
    have e1 := grow (o := .lst (ws.map V.str)) np
    have nD0 : H0 D = none := e1.free nD
    refine dc_it (walk_list (xs := ws.map V.str)) (fun i H' => Same H0 H' ∧ H' p = some (.lst (ws.map V.str)) ∧ ∃ f, H' D = some (.dK (refD (ws.take i) f)) ∧ Fam (.lst []) H0 H' D (ws.take i) f) ⟨e1.trans (grow nD), (grow nD) _ _ upd_same, _, upd_same, fam_nil⟩ (fun i H' _ ⟨_, h, _⟩ => SqL.of h) ?_ ?_
    · rintro i v H1 H2 hi ⟨e, hp, ff, hD, fam⟩ ⟨rfl, g⟩
      obtain ⟨z, gz, rfl⟩ := st_get g
      have nz := nd_take ndw gz
      refine ⟨rfl, _, rfl, Nat.zero_le _, fun d nd0 => ⟨_, Sum.inr z, rfl, (grow nd0) _ _ hD, size5 (by rw [refD_len, List.length_take]; omega), ?_⟩⟩
      obtain ⟨f', fam2, ef⟩ := fam_snoc (u' := .dK (putK (refD (ws.take i) ff) (Sum.inr z) (.ref d))) fam (fun b o h => e _ _ h) hD nd0 nz
      have tk : ws.take (i + 1) = ws.take i ++ [z] := by rw [List.take_add_one, gz]; rfl
      refine ⟨same_mut (e.trans (grow nd0)) nD0, ?_, f', ?_, ?_⟩
      · rw [upd_ne (ne_of hp hD fun z => nomatch z)]
        exact (grow nd0) _ _ hp
      · rw [upd_same, tk, ef]
        exact congrArg (fun q => some (HO.dK q)) (putK_new _ (refD_none nz))
      · rw [tk]
        exact fam2
    · rintro H1 ⟨e, hp, ff, hD, fam⟩
      rw [List.length_map, List.take_length] at hD fam
      refine ⟨_, rfl, x, C_Shape, dx, _, rfl, e _ _ hx, T.cl_Shape, T.na_Shape__following, (by show 0 < 1000; decide), ?_⟩
      have nDx : D ≠ x := fun q => by
        rw [q, hx] at nD0
        cases nD0
      refine ⟨D, ff, fun c o h n => ?_, nD0, ?_, fam.same (fun b h => ?_), upd_same, _, _, _, _, rfl⟩
      · rw [upd_ne n]
        exact e _ _ h
      · rw [upd_ne nDx]
        exact hD
      · rw [upd_ne fun q => by
          rw [q, e _ _ hx] at h
          cases h]
        exact h
  rintro σ H1 ⟨F, f1, k1, n1, h1, fam1, hx1, y3, y4, y5, y6, rfl⟩
  have hl2a := k1 _ _ hl2 nl2
  have hxs1 : TwsV H1 xs ts := hxs.kp fun b ys eb => k1 _ _ eb (ne_of eb hx fun z => nomatch z)
  -- for turn in turns
  refine ⟨fun σ H' => H' = H1 ∧ ∃ y3 y4 y5 y6, σ = [some (.ref x), some (.ref l1), some (.ref l2), y3, y4, y5, y6], ?_, ?_⟩
  · refine ⟨_, rfl, .inl ⟨l2, rfl, ⟨_, SqL.of hl2a⟩, ?_⟩⟩
    refine for_it (walk_list (xs := xs)) (fun i σ H' => H' = H1 ∧ ∃ y3 y4 y5 y6, σ = [some (.ref x), some (.ref l1), some (.ref l2), y3, y4, y5, y6]) ⟨rfl, _, _, _, _, rfl⟩ (fun i σ H' _ ⟨e, _⟩ => e ▸ SqL.of hl2a) ?_ ?_
    · rintro i v σ _ G2 hi ⟨rfl, y3, y4, y5, y6, rfl⟩ ⟨rfl, g⟩
      obtain ⟨q, gq, hq⟩ := hxs1.get g
      obtain ⟨m1, m2, ne⟩ := hE q (List.mem_of_getElem? gq)
      refine ⟨_, rfl, ?_⟩
      refine ⟨_, rfl, x, C_Shape, dx, _, _, rfl, hx1, T.cl_Shape, T.na_Shape__following, lk_hit, ?_⟩
      refine ⟨_, _, rfl, q, F, _, ws, hq, rfl, h1, refD_keys ws f1, mw.mpr m1, mw.mpr m2, ne, ?_⟩
      exact ⟨_, rfl, iteF ⟨rfl, _, _, _, _, rfl⟩⟩
    · rintro σ _ ⟨rfl, y3, y4, y5, y6, rfl⟩
      exact ⟨rfl, _, _, _, _, rfl⟩
  rintro σ G1 ⟨eG, y3, y4, y5, y6, rfl⟩
  have eG : H1 = G1 := eG.symm
  subst eG
  -- self._turns
  refine ⟨fun σ H' => ∃ (D : Addr) (tvs : List (List Key × V)), (∀ c o, H1 c = some o → c ≠ x → H' c = some o) ∧ H1 D = none ∧ H' D = some (.dT tvs) ∧ tvs.map Prod.fst = (uq ps).map twK ∧ H' x = some (.ins C_Shape dx [("_following", .ref F), ("_turns", .ref D)]) ∧ ∃ y3 y4 y5 y6, σ = [some (.ref x), some (.ref l1), some (.ref l2), y3, y4, y5, y6], ?_, ?_⟩
  · refine ⟨_, rfl, ?_⟩
    dsimp only [tNil]
    refine srt_tw (.inl (SqL.of hl2a)) hxs1 fun p ys np hys => ?_
    rw [hps] at hys
    refine .inl ⟨p, rfl, ⟨_, SqL.of upd_same⟩, fun D nD => ?_⟩
    have e1 := grow (o := .lst ys) np
    have nD0 : H1 D = none := e1.free nD
    refine dcT_it (walk_list (xs := ys)) (fun i H' => Same H1 H' ∧ H' p = some (.lst ys) ∧ TwsV H' ys ps ∧ ∃ tvs, H' D = some (.dT tvs) ∧ tvs.map Prod.fst = (uq (ps.take i)).map twK) ⟨e1.trans (grow nD), (grow nD) _ _ upd_same, hys.kp (Same.kpt (grow nD)), _, upd_same, rfl⟩ (fun i H' _ ⟨_, h, _⟩ => SqL.of h) ?_ ?_
    · rintro i v H4 H5 hi ⟨e, hp, hy, tvs, hD, ek⟩ ⟨rfl, g⟩
      obtain ⟨q, gq, t, rfl, ht⟩ := hy.get g
      have el : tvs.length = (uq (ps.take i)).length := by
        have := congrArg List.length ek
        rwa [List.length_map, List.length_map] at this
      have ul := uq_len (ps.take i)
      rw [List.length_take] at ul
      refine ⟨rfl, _, rfl, tvs, twK q, t, rfl, ht, hD, size5 (by omega), same_mut e nD0, ?_, ?_, _, upd_same, ?_⟩
      · rw [upd_ne (ne_of hp hD fun z => nomatch z)]
        exact hp
      · exact hy.kp fun b ys eb => by
          rw [upd_ne (ne_of eb hD fun z => nomatch z)]
          exact eb
      · rw [put_keys ek, uq, uq, fold_take uqS [] ps i q gq]
    · rintro H4 ⟨e, hp, hy, tvs, hD, ek⟩
      rw [hy.len, List.take_length] at ek
      refine ⟨_, rfl, x, C_Shape, dx, _, rfl, e _ _ hx1, T.cl_Shape, T.na_Shape__turns, (by show 1 < 1000; decide), ?_⟩
      have nDx : D ≠ x := fun q => by
        rw [q, hx1] at nD0
        cases nD0
      refine ⟨D, tvs, fun c o h n => ?_, nD0, ?_, ek, ?_, _, _, _, _, rfl⟩
      · rw [upd_ne n]
        exact e _ _ h
      · rw [upd_ne nDx]
        exact hD
      · rw [upd_same]
        exact congrArg (fun q => some (HO.ins C_Shape dx q)) (if_neg (by decide +kernel))
  rintro σ H2 ⟨Tt, tvs, k2, n2, h2, ek, hx2, y3, y4, y5, y6, rfl⟩
  have nFx : F ≠ x := ne_of h1 hx1 fun z => nomatch z
  have h1b := k2 _ _ h1 nFx
  -- self._leading
  refine ⟨fun σ H' => ∃ (D : Addr) (f : Str → Addr), (∀ c o, H2 c = some o → c ≠ x → H' c = some o) ∧ H2 D = none ∧ H' D = some (.dK (refD ws f)) ∧ Fam (.lst []) H2 H' D ws f ∧ H' x = some (.ins C_Shape dx (shF F Tt D)) ∧ ∃ y3 y4 y5 y6, σ = [some (.ref x), some (.ref l1), some (.ref l2), y3, y4, y5, y6], ?_, ?_⟩
  · refine ⟨F, _, h1b, trivial, fun od => ?_⟩
    have nxF : x ≠ F := nFx.symm
    refine ⟨_, rfl, x, C_Shape, dx, _, _, rfl, (by rw [upd_ne nxF]; exact hx2), T.cl_Shape, T.na_Shape__following, lk_hit, F, od, rfl, .inl ⟨_, upd_same, fun D nD => ?_⟩⟩
    have nDF : D ≠ F := fun q => by
      rw [q, upd_same] at nD
      cases nD
    have nD0 : H2 D = none := by
      rw [upd_ne nDF] at nD
      exact nD
    have hxf : (upd H2 F (.frz od (.dK (refD ws f1)))) x = some (.ins C_Shape dx [("_following", .ref F), ("_turns", .ref Tt)]) := by
      rw [upd_ne nxF]
      exact hx2
    have hFf : (upd H2 F (.frz od (.dK (refD ws f1)))) F = some (.frz od (.dK (refD ws f1))) := upd_same
    generalize hHF : upd H2 F (.frz od (.dK (refD ws f1))) = HF at nD hxf hFf
    refine dc_it (walk_keys (kvs := refD ws f1)) (fun i H' => Same HF H' ∧ ∃ f, H' D = some (.dK (refD (ws.take i) f)) ∧ Fam (.lst []) HF H' D (ws.take i) f) ⟨grow nD, _, upd_same, fam_nil⟩ (fun i H' _ ⟨e, _⟩ => e _ _ hFf) ?_ ?_
    · rintro i v G1 G2 hi ⟨e, ff, hD, fam⟩ ⟨rfl, kk, vv, g, rfl⟩
      obtain ⟨z, gz, rfl⟩ := ref_get g
      have nz := nd_take ndw gz
      refine ⟨rfl, _, rfl, Nat.zero_le _, fun d nd0 => ⟨_, Sum.inr z, rfl, (grow nd0) _ _ hD, size5 (by rw [refD_len, List.length_take]; omega), ?_⟩⟩
      obtain ⟨f', fam2, ef⟩ := fam_snoc (u' := .dK (putK (refD (ws.take i) ff) (Sum.inr z) (.ref d))) fam (fun b o h => e _ _ h) hD nd0 nz
      have tk : ws.take (i + 1) = ws.take i ++ [z] := by rw [List.take_add_one, gz]; rfl
      refine ⟨same_mut (e.trans (grow nd0)) nD, f', ?_, ?_⟩
      · rw [upd_same, tk, ef]
        exact congrArg (fun q => some (HO.dK q)) (putK_new _ (refD_none nz))
      · rw [tk]
        exact fam2
    · rintro G3 ⟨e, ff, hD, fam⟩
      rw [refD_len, List.take_length] at hD fam
      refine ⟨e _ _ hFf, ?_⟩
      refine ⟨_, rfl, x, C_Shape, dx, _, rfl, (by rw [upd_ne nxF]; exact e _ _ hxf), T.cl_Shape, T.na_Shape__leading, (by show 2 < 1000; decide), ?_⟩
      have nDx : D ≠ x := fun q => by
        rw [q, hx2] at nD0
        cases nD0
      refine ⟨D, ff, fun c o h n => ?_, nD0, ?_, ⟨fun r m => ?_, fam.ij⟩, ?_, _, _, _, _, rfl⟩
      · rw [upd_ne n]
        by_cases q : c = F
        · rw [q, upd_same, ← h, q, h1b]
        · rw [upd_ne q]
          refine e _ _ ?_
          rw [← hHF, upd_ne q]
          exact h
      · rw [upd_ne nDx, upd_ne nDF]
        exact hD
      · obtain ⟨a, b, c⟩ := fam.nw r m
        have nF : ff r ≠ F := fun q => by
          rw [q, hFf] at a
          cases a
        have a2 : H2 (ff r) = none := by
          rw [← hHF, upd_ne nF] at a
          exact a
        refine ⟨a2, b, ?_⟩
        have nX : ff r ≠ x := fun q => by
          rw [q, hx2] at a2
          cases a2
        rw [upd_ne nX, upd_ne nF]
        exact c
      · rw [upd_same]
        refine congrArg (fun q => some (HO.ins C_Shape dx q)) ((if_neg (by decide +kernel)).trans ?_)
        exact congrArg (fun q => (("_following" : Str), V.ref F) :: q) (if_neg (by decide +kernel))
  rintro σ H3 ⟨L, f2, k3, n3, h3, fam2, hx3, y3, y4, y5, y6, rfl⟩
  have kp3 : ∀ c o, H0 c = some o → c ≠ x → H3 c = some o := fun c o h n => k3 _ _ (k2 _ _ (k1 _ _ h n) n) n
  have lx : ∀ {G : Hp} {c : Addr} {ys : List V} {fs : List (Str × V)}, G c = some (.lst ys) → G x = some (.ins C_Shape dx fs) → c ≠ x := fun h hx => ne_of h hx fun z => nomatch z
  have h1c := k3 _ _ h1b nFx
  have nTx : Tt ≠ x := ne_of h2 hx2 fun z => nomatch z
  have h2c := k3 _ _ h2 nTx
  have a1 : ∀ r ∈ ws, H3 (f1 r) = some (.lst []) ∧ H2 (f1 r) = some (.lst []) ∧ H0 (f1 r) = none := fun r m => by
    obtain ⟨a, b, c⟩ := fam1.nw r m
    have nx := lx c hx1
    have c2 := k2 _ _ c nx
    exact ⟨k3 _ _ c2 nx, c2, a⟩
  have a2 : ∀ r ∈ ws, H3 (f2 r) = some (.lst []) ∧ H0 (f2 r) = none := fun r m => by
    obtain ⟨a, b, c⟩ := fam2.nw r m
    refine ⟨c, ?_⟩
    cases q : H0 (f2 r) with
    | none => rfl
    | some o =>
      have nx : f2 r ≠ x := fun z => by
        rw [z, hx2] at a
        cases a
      have := k2 _ _ (k1 _ _ q nx) nx
      rw [this] at a
      cases a
  have d12 : ∀ r ∈ ws, ∀ s ∈ ws, f1 r ≠ f2 s := fun r m s n q => by
    have := (fam2.nw s n).1
    rw [← q, (a1 r m).2.1] at this
    cases this
  have lu : (uq ps).length ≤ 10000 := Nat.le_trans (uq_len ps) lps
  have hU : ∀ p ∈ uq ps, p.1 ∈ ws ∧ p.2 ∈ ws ∧ p.1 ≠ p.2 := fun p m => by
    obtain ⟨a, b, c⟩ := hE p (mp.mp (uq_mem.mp m))
    exact ⟨mw.mpr a, mw.mpr b, c⟩
  have elen : tvs.length = (uq ps).length := by
    have := congrArg List.length ek
    rwa [List.length_map, List.length_map] at this
  generalize uq ps = us at ek lu hU elen k
  have nT : ∀ {c o}, H0 c = some o → c ≠ Tt := fun {c o} h q => by
    have := k1 _ _ h (fun z => nTx (q.symm.trans z))
    rw [q, n2] at this
    cases this
  -- for source, target in self._turns
  refine ⟨Tt, _, h2c, trivial, fun od => ?_⟩
  have fz : ∀ {b o}, H3 b = some o → b ≠ Tt → (upd H3 Tt (.frz od (.dT tvs))) b = some o := fun h n => by
    rw [upd_ne n]
    exact h
  have nxT : x ≠ Tt := nTx.symm
  have nFT : F ≠ Tt := ne_of h1c h2c fun z => nomatch z
  have nLT : L ≠ Tt := ne_of h3 h2c fun z => nomatch z
  refine ⟨_, rfl, x, C_Shape, dx, _, _, rfl, fz hx3 nxT, T.cl_Shape, T.na_Shape__turns, shF_t, Tt, od, rfl, .inr ⟨tvs, upd_same, ?_⟩⟩
  refine for_it (walk_keysT (kvs := tvs)) (fun i σ H' => (∀ c o, H0 c = some o → c ≠ x → H' c = some o) ∧ H' x = some (.ins C_Shape dx (shF F Tt L)) ∧ H' F = some (.dK (refD ws f1)) ∧ H' L = some (.dK (refD ws f2)) ∧ H' Tt = some (.frz od (.dT tvs)) ∧ (∀ r ∈ ws, H' (f1 r) = some (.lst ((folT (us.take i) r).map V.str))) ∧ (∀ r ∈ ws, H' (f2 r) = some (.lst ((ledT (us.take i) r).map V.str))) ∧ ∃ y3 y4 y5 y6, σ = [some (.ref x), some (.ref l1), some (.ref l2), y3, y4, y5, y6])
    ⟨fun c o h n => fz (kp3 c o h n) (nT h), fz hx3 nxT, fz h1c nFT, fz h3 nLT, upd_same, fun r m => fz (a1 r m).1 (ne_of (a1 r m).1 h2c fun z => nomatch z), fun r m => fz (a2 r m).1 (ne_of (a2 r m).1 h2c fun z => nomatch z), _, _, _, _, rfl⟩ (fun i σ H' _ ⟨_, _, _, _, h, _⟩ => h) ?_ ?_
  · rintro i v σ G1 G2 hi ⟨kp, gx, gF, gL, gT, g1, g2, y3, y4, y5, y6, rfl⟩ ⟨rfl, kk, vv, q, g, rfl, hq⟩
    obtain ⟨p, gp, rfl⟩ : ∃ p, us[i]? = some p ∧ kk = twK p := by
      have := congrArg (fun l => l[i]?) ek
      simp only [List.getElem?_map, g, Option.map_some] at this
      cases c : us[i]? with
      | none =>
        rw [c] at this
        cases this
      | some p =>
        rw [c] at this
        exact ⟨p, rfl, Option.some.inj this⟩
    obtain ⟨m1, m2, ne⟩ := hU p (List.mem_of_getElem? gp)
    have il : i < us.length := by rw [← elen]; exact hi
    have tl : (us.take i).length ≤ 10000 := by rw [List.length_take]; omega
    refine ⟨q, _, rfl, SqT.of hq, rfl, _, _, rfl, _, _, rfl, rfl, ?_⟩
    refine ⟨_, rfl, x, C_Shape, dx, _, _, rfl, gx, T.cl_Shape, T.na_Shape__following, shF_f, _, rfl, F, _, rfl, dget_ref (.inl gF) m1, ?_⟩
    have b1 := g1 _ m1
    refine ⟨.inl ⟨rfl, _, SqL.of b1⟩, _, rfl, f1 p.1, _, _, rfl, rfl, b1, size5 (by rw [List.length_map]; have := folT_len (us.take i) p.1; omega), ?_⟩
    have st1 : ∀ {c o}, G2 c = some o → c ≠ f1 p.1 → (upd G2 (f1 p.1) (.lst ((folT (us.take i) p.1).map V.str ++ [kV (Sum.inr p.2)]))) c = some o := fun h n => by
      rw [upd_ne n]
      exact h
    have s1 : (upd G2 (f1 p.1) (.lst ((folT (us.take i) p.1).map V.str ++ [kV (Sum.inr p.2)]))) (f1 p.1) = some (.lst ((folT (us.take i) p.1).map V.str ++ [.str p.2])) := upd_same
    generalize upd G2 (f1 p.1) (.lst ((folT (us.take i) p.1).map V.str ++ [kV (Sum.inr p.2)])) = G3 at st1 s1 ⊢
    have gx3 := st1 gx (lx b1 gx).symm
    have gF3 := st1 gF (ne_of gF b1 fun z => nomatch z)
    have gL3 := st1 gL (ne_of gL b1 fun z => nomatch z)
    have gT3 := st1 gT (ne_of gT b1 fun z => nomatch z)
    have b2 := st1 (g2 _ m2) (d12 _ m1 _ m2).symm
    refine ⟨_, rfl, x, C_Shape, dx, _, _, rfl, gx3, T.cl_Shape, T.na_Shape__leading, shF_l, _, rfl, L, _, rfl, dget_ref (.inl gL3) m2, ?_⟩
    refine ⟨.inl ⟨rfl, _, SqL.of b2⟩, _, rfl, f2 p.2, _, _, rfl, rfl, b2, size5 (by rw [List.length_map]; have := ledT_len (us.take i) p.2; omega), ?_⟩
    have st2 : ∀ {c o}, G3 c = some o → c ≠ f2 p.2 → (upd G3 (f2 p.2) (.lst ((ledT (us.take i) p.2).map V.str ++ [.str p.1]))) c = some o := fun h n => by
      rw [upd_ne n]
      exact h
    refine ⟨fun c o h n => st2 (st1 (kp c o h n) ?_) ?_, st2 gx3 (lx b2 gx3).symm, st2 gF3 (ne_of gF3 b2 fun z => nomatch z), st2 gL3 (ne_of gL3 b2 fun z => nomatch z), st2 gT3 (ne_of gT3 b2 fun z => nomatch z), fun r m => ?_, fun r m => ?_, _, _, _, _, rfl⟩
    · exact fun z => by
        rw [z, (a1 _ m1).2.2] at h
        cases h
    · exact fun z => by
        rw [z, (a2 _ m2).2] at h
        cases h
    · rw [folT_snoc gp]
      by_cases e : p.1 = r
      · rw [if_pos e, ← e, List.map_append]
        exact st2 s1 (d12 _ m1 _ m2)
      · rw [if_neg e, List.append_nil]
        exact st2 (st1 (g1 r m) fun z => fam1.ij _ m1 _ m e z.symm) (d12 _ m _ m2)
    · rw [ledT_snoc gp]
      by_cases e : p.2 = r
      · rw [if_pos e, ← e, List.map_append]
        exact upd_same
      · rw [if_neg e, List.append_nil]
        exact st2 (st1 (g2 r m) (d12 _ m1 _ m).symm) fun z => fam2.ij _ m2 _ m e z.symm
  · rintro σ G1 ⟨kp, gx, gF, gL, gT, g1, g2, y3, y4, y5, y6, rfl⟩
    rw [elen, List.take_length] at g1 g2
    refine ⟨gT, ?_⟩
    have un : ∀ {c o}, G1 c = some o → c ≠ Tt → (upd G1 Tt (.dT tvs)) c = some o := fun h n => by
      rw [upd_ne n]
      exact h
    have lT : ∀ {c ys}, G1 c = some (.lst ys) → c ≠ Tt := fun h => ne_of h gT fun z => nomatch z
    refine k _ (fun c o h n => un (kp c o h n) (nT h)) ?_
    exact ⟨dx, F, Tt, L, _, tvs, un gx nxT, un gF nFT, refD_keys ws f1, upd_same, ek, f1, f2, rfl, un gL nLT, fun r m => un (g1 r m) (lT (g1 r m)), fun r m => un (g2 r m) (lT (g2 r m))⟩

end
end Fb

set_option Elab.async false
set_option linter.all false
set_option maxRecDepth 100000
set_option maxHeartbeats 4000000
namespace Fb
open PySem PySem.Spec L2
open PyProof.Rows hiding St
open C8 (Cal Met Mak Def cal0 met0 mak0 pe_c pe_mk pe_mt pe_mt0 fnScope fnBody fnArgs pss_cut tCut)
local macro_rules | `(tactic| walk_at "hp") => `(tactic| first | exact upd_same | assumption | (refine grow (by assumption) _ _ ?_; walk_at "hp") | (refine (show Same _ _ by assumption) _ _ ?_; walk_at "hp"))
local macro_rules | `(tactic| walk_at "sm") => `(tactic| first | exact Same.refl _ | assumption | (refine Same.trans ?_ (grow (by assumption)); walk_at "sm") | (refine Same.trans ?_ (show Same _ _ by assumption); walk_at "sm"))
section
variable {P : Program} {w : World} {K : PySem.W.Frag} {mg : Str → Option Value} {base : Heap}
variable {C_Shape C_Plan C_Links C_PlanTaken C_PlanRefused A_plan_of : Addr}
/-! ### _law_figure -/
def spFig (K : PySem.W.Frag) (C : Addr) : Sp := sp2 fun a b H Q => ∃ (p W : Addr) (ns : List Str) (ps : List Tw) (n : Nat), a = .ref p ∧ b = .ref W ∧ BagAt H p ∧ WebAt H W ns ps ∧ WebOk ns ps n ∧ n ≤ 100 ∧
  ∀ (H' : Hp) (x : Addr), Same H H' → ShapeAt C H' x (ns.mergeSort stLe) (ps.mergeSort twLe) → Q (.ref x) H'
theorem c__law_figure (T : Top K mg C_Shape C_Plan C_Links C_PlanTaken C_PlanRefused A_plan_of) : Cal P w K mg base 5 "_law_figure" (spFig K C_Shape) [] := by
  obtain ⟨f, fd, F, df⟩ := T.d__law_figure
  refine cal_of F df (fn2 F sc__law_figure fun cdv A outer s H a b Q E hr h => ?_) fun _ _ _ _ _ _ us hl => match us, hl with | [_, _], _ => rfl
  have nd := sc__law_figure.nd
  obtain ⟨p, W, ns, ps, n, rfl, rfl, hb, ⟨D, F, xs, hW, hD, hF, hxs⟩, ok, ln, k⟩ := h
  refine ⟨_, (pss_cons 
      (ps_set (i := 2) nd rfl (Or.inl rfl) (pe_c (c__law_mixed T) hr (by decide) (by rfl) (pa_cons (pv 0) (pa_cons (pe_ix (ix_K (K := K) rfl) (pv 1) pe_int (fun _ _ => rfl)) pa_nil)))) (pss_one 
      (ps_ret (pe_mk (c_Shape___init__ T) hr (by decide) (by rfl) (pa_cons (pe_c (c__law_mixed T) hr (by decide) (by rfl) (pa_cons (pv 0) (pa_cons (pe_ix (ix_K (K := K) rfl) (pv 1) pe_int (fun _ _ => rfl)) pa_nil))) (pa_cons (pe_op op_addU (pv 2) (pe_slice (sl_K (K := K) rfl) (pv 2) po_none (po_some (pe_c (c__law_draw T) hr (by decide) (by rfl) (pa_cons (pv 0) (pa_cons pe_int pa_nil)))))) pa_nil)))))), ?_⟩
  have at0 : atI [V.ref D, .ref F] 0 = some (.ref D) := rfl
  have at1 : atI [V.ref D, .ref F] 1 = some (.ref F) := rfl
  have lx := hxs.len
  have lp := ok.lp
  have lns := ok.ln
  refine ⟨_, rfl, _, rfl, .inr (.inl ⟨W, _, _, _, rfl, rfl, SqT.of hW, at1, ?_⟩)⟩
  refine ⟨_, _, rfl, p, F, xs, rfl, hb, rfl, SqL.of hF, by omega, fun H1 M cs e1 nM hM pm => ?_⟩
  obtain ⟨ts, hts, pt⟩ := (hxs.kp (Same.kpt e1)).perm pm
  refine ⟨_, rfl, _, rfl, .inr (.inl ⟨W, _, _, _, rfl, rfl, SqT.of (e1 _ _ hW), at0, ?_⟩)⟩
  refine ⟨_, _, rfl, p, D, ns.map V.str, rfl, hb.mono e1, rfl, SqL.of (e1 _ _ hD), by rw [List.length_map]; omega, fun H2 R us e2 nR hR pm2 => ?_⟩
  obtain ⟨rs, rfl, pr⟩ := perm_map pm2 rfl
  have e12 := e1.trans e2
  have hM2 := e2 _ _ hM
  have hts2 := hts.kp (Same.kpt e2)
  refine ⟨_, rfl, _, rfl, _, rfl, _, _, rfl, p, 2, rfl, rfl, hb.mono e12, by decide, small_log (by decide) (by decide), fun d d0 d1 => ?_⟩
  obtain ⟨c, rfl⟩ := Int.eq_ofNat_of_zero_le d0
  refine ⟨_, rfl, .inl ⟨M, _, rfl, SqL.of hM2, fun q nq => ?_⟩⟩
  rw [cutV_pre]
  have e3 := grow (o := .lst (cs.take c)) nq
  have lcs : cs.length = xs.length := pm.length_eq
  have lt1 := List.length_take_le c cs
  refine .inr (.inr ⟨M, q, cs, cs.take c, rfl, rfl, e3 _ _ hM2, upd_same, size5' (by omega), fun A nA => ?_⟩)
  have e4 := e3.trans (grow (o := .lst (cs ++ cs.take c)) nA)
  have hA : (upd (upd H2 q (.lst (cs.take c))) A (.lst (cs ++ cs.take c))) A = some (.lst (cs ++ cs.take c)) := upd_same
  generalize upd (upd H2 q (.lst (cs.take c))) A (.lst (cs ++ cs.take c)) = H3 at e4 hA ⊢
  have hts3 := hts2.kp (Same.kpt e4)
  have hall : TwsV H3 (cs ++ cs.take c) (ts ++ ts.take c) := hts3.app (hts3.take c)
  have lts : ts.length = ps.length := pt.length_eq
  have lt2 := List.length_take_le c ts
  have psm := List.mergeSort_perm ps twLe
  have mts : ∀ q, q ∈ ts ++ ts.take c ↔ q ∈ ps.mergeSort twLe := fun q => by
    rw [List.mem_append, psm.mem_iff, pt.mem_iff]
    exact ⟨fun h => h.elim id fun h => pt.mem_iff.mp (List.mem_of_mem_take h), .inl⟩
  intro x dx nx ndx ne
  have e5 : Same H3 (upd (upd H3 dx (.own x)) x (.ins C_Shape dx [])) := (grow ndx).trans (grow (by rw [upd_ne ne.symm]; exact nx))
  have e14 := e12.trans e4
  refine ⟨_, _, _, rfl, x, dx, R, A, rs, cs ++ cs.take c, ts ++ ts.take c, rfl, rfl, rfl, upd_same, e5 _ _ (e4 _ _ hR), e5 _ _ hA, hall.kp (Same.kpt e5), fun r m => ok.nm r (pr.mem_iff.mp m), pr.nodup_iff.mpr ok.nd, ?_, ?_, fun q m => ?_, fun H' kp hsh => ⟨rfl, ?_⟩⟩
  · rw [pr.length_eq]
    omega
  · rw [List.length_append]
    omega
  · obtain ⟨a, b, c⟩ := ok.ok.2 q (psm.mem_iff.mp ((mts q).mp m))
    exact ⟨pr.mem_iff.mpr a, pr.mem_iff.mpr b, c⟩
  · rw [uq_sort (psm.nodup_iff.mpr ok.ok.1) (lin_tw.sorted ps) mts, lin_st.perm pr] at hsh
    exact k H' x (fun b o h => kp _ _ (e5 _ _ (e14 _ _ h)) (ne_of_none (e14 _ _ h) nx)) hsh

end
end Fb

set_option Elab.async false
set_option linter.all false
set_option maxRecDepth 100000
set_option maxHeartbeats 4000000
namespace Fb
open PySem PySem.Spec L2
open PyProof.Rows hiding St
open C8 (Cal Met Mak Def cal0 met0 mak0 pe_c pe_mk pe_mt pe_mt0 fnScope fnBody fnArgs pss_cut tCut)
local macro_rules | `(tactic| walk_at "hp") => `(tactic| first | exact upd_same | assumption | (refine grow (by assumption) _ _ ?_; walk_at "hp") | (refine (show Same _ _ by assumption) _ _ ?_; walk_at "hp"))
local macro_rules | `(tactic| walk_at "sm") => `(tactic| first | exact Same.refl _ | assumption | (refine Same.trans ?_ (grow (by assumption)); walk_at "sm") | (refine Same.trans ?_ (show Same _ _ by assumption); walk_at "sm"))
section
variable {P : Program} {w : World} {K : PySem.W.Frag} {mg : Str → Option Value} {base : Heap}
variable {C_Shape C_Plan C_Links C_PlanTaken C_PlanRefused A_plan_of : Addr}
/-! ### _law_order -/
def spOrd (K : PySem.W.Frag) : Sp := sp2 fun a b H Q => ∃ (p l : Addr) (ns : List Str), a = .ref p ∧ BagAt H p ∧ b = .ref l ∧ H l = some (.lst (ns.map V.str)) ∧ ns.length ≤ 1000 ∧
  ∀ (H' : Hp) (D : Addr) (os : List Str), Same H H' → H D = none → H' D = some (.lst (os.map V.str)) → os.Perm ns → Q (.ref D) H'
theorem c__law_order (T : Top K mg C_Shape C_Plan C_Links C_PlanTaken C_PlanRefused A_plan_of) : Cal P w K mg base 3 "_law_order" (spOrd K) [] := by
  obtain ⟨f, fd, F, df⟩ := T.d__law_order
  refine cal_of F df (fn2 F sc__law_order fun cdv A outer s H a b Q E hr h => ?_) fun _ _ _ _ _ _ us hl => match us, hl with | [_, _], _ => rfl
  have nd := sc__law_order.nd
  obtain ⟨p, l, ns, rfl, hb, rfl, hs, hl, k⟩ := h
  refine ⟨_, (pss_one 
      (ps_ret (pe_ifExp (pt_cmpR (eq_K (K := K) rfl hr) (pe_c (c__law_draw T) hr (by decide) (by rfl) (pa_cons (pv 0) (pa_cons pe_int pa_nil))) pe_int (nomark _)) (pe_callB (srt_K (K := K) rfl hr) (by rfl) T.sorted (by decide +kernel) (pa_cons (pv 1) pa_nil)) (pe_c (c__law_mixed T) hr (by decide) (by rfl) (pa_cons (pv 0) (pa_cons (pv 1) pa_nil)))))), ?_⟩
  refine ⟨_, rfl, _, _, rfl, p, 5, rfl, rfl, hb, by decide, small_log (by decide) (by decide), fun d _ _ => .inl ⟨rfl, _, rfl, ite2 (fun _ => ?_) (fun _ => ?_)⟩⟩
  · refine ⟨_, rfl, ?_⟩
    dsimp only [tNil]
    exact srt_st (.inl (SqL.of hs)) fun q nq => k _ q _ (grow nq) nq upd_same (List.mergeSort_perm ns stLe)
  · refine ⟨_, rfl, _, rfl, _, _, rfl, p, l, _, rfl, hb, rfl, SqL.of hs, by rw [List.length_map]; exact hl, fun H' D cs e nD hD pm => ?_⟩
    obtain ⟨os, rfl, po⟩ := perm_map pm rfl
    exact k H' D os e nD hD po

end
end Fb

set_option Elab.async false
set_option linter.all false
set_option maxRecDepth 100000
set_option maxHeartbeats 4000000
namespace Fb
open PySem PySem.Spec L2
open PyProof.Rows hiding St
open C8 (Cal Met Mak Def cal0 met0 mak0 pe_c pe_mk pe_mt pe_mt0 fnScope fnBody fnArgs pss_cut tCut)
local macro_rules | `(tactic| walk_at "hp") => `(tactic| first | exact upd_same | assumption | (refine grow (by assumption) _ _ ?_; walk_at "hp") | (refine (show Same _ _ by assumption) _ _ ?_; walk_at "hp"))
local macro_rules | `(tactic| walk_at "sm") => `(tactic| first | exact Same.refl _ | assumption | (refine Same.trans ?_ (grow (by assumption)); walk_at "sm") | (refine Same.trans ?_ (show Same _ _ by assumption); walk_at "sm"))
section
variable {P : Program} {w : World} {K : PySem.W.Frag} {mg : Str → Option Value} {base : Heap}
variable {C_Shape C_Plan C_Links C_PlanTaken C_PlanRefused A_plan_of : Addr}
/-! ### check_places -/
def spCheckPl (K : PySem.W.Frag) : Sp := sp1 fun a H Q => ∃ (l : Addr) (ws : List Str), a = .ref l ∧ SqL K H l (ws.map V.str) ∧ Nms ws ∧ ws.Nodup ∧ ws.length ≤ 1000 ∧ Then H Q .non
theorem c_check_places (T : Top K mg C_Shape C_Plan C_Links C_PlanTaken C_PlanRefused A_plan_of) : Cal P w K mg base 2 "check_places" (spCheckPl K) [] := by
  obtain ⟨f, fd, F, df⟩ := T.d_check_places
  refine cal_of F df (fn1 F sc_check_places fun cdv A outer s H a Q E hr h => ?_) fun _ _ _ _ _ _ us hl => match us, hl with | [_], _ => rfl
  have nd := sc_check_places.nd
  obtain ⟨l, ws, rfl, hs, nm, nd', hl, q⟩ := h
  refine ⟨_, (pss_cons 
      (ps_set (i := 1) nd rfl (Or.inl rfl) pe_dnewK) (pss_one 
      (ps_for PassesOwn.never rfl (pi_K (K := K) rfl (pv 0)) (pg_name (i := 2) nd rfl (Or.inl rfl)) (pss_cons 
      (ps_if (PW.pt (pw_or (pt_not (pt_val (pe_c (c_is_name T) hr (by decide) (by rfl) (pa_cons (pv 2) pa_nil)))) (pw_or1 (pt_cmp (pc_din (hu_of hr) (pv 2) (pv 1)) (by with_unfolding_all rfl))))) (pss_one 
      ps_never) pss_nil) (pss_one 
      (ps_dput (hu_of hr) (pv 1) (pv 2) pe_bl rfl)))))), ?_⟩
  refine fun d nd0 => ?_
  have e2 := grow (o := .dK []) nd0
  refine ⟨_, rfl, .inl ⟨l, rfl, ⟨_, e2.seq hs⟩, ?_⟩⟩
  refine for_it (walk_list (xs := ws.map V.str)) (fun i σ H' => Same H H' ∧ H' d = some (.dK (setD (ws.take i))) ∧ ∃ y, σ = [some (.ref l), some (.ref d), y]) ⟨e2, upd_same, _, rfl⟩ (fun i σ H' _ ⟨e, _⟩ => e.seq hs) ?_ ?_
  · rintro i x σ H2 H3 hi ⟨e, hd, y, rfl⟩ ⟨rfl, g⟩
    obtain ⟨z, gz, rfl⟩ := st_get g
    have nz := nd_take nd' gz
    have nmz := nm z (List.mem_of_getElem? gz)
    refine ⟨_, rfl, _, rfl, any_str (by have := nmz.len; omega), fun H4 e4 => ⟨_, rfl, ?_⟩⟩
    rw [nmz]
    refine iteF ?_
    have hd4 := e4 _ _ hd
    refine ⟨_, rfl, _, rfl, d, _, rfl, DGet.k (k := Sum.inr z) hd4, _, rfl, ?_⟩
    rw [show (valV (setD (ws.take i)) (Sum.inr z)).isSome = false from (setD_some _ z).trans (decide_eq_false nz)]
    refine iteF ⟨_, rfl, _, rfl, d, _, rfl, DPut.k (k := Sum.inr z) hd4 (size5 ?_), ?_⟩
    · rw [setD_len, List.length_take]
      omega
    · refine ⟨same_mut (e.trans e4) nd0, ?_, _, rfl⟩
      rw [upd_same]
      exact congrArg (fun q => some (HO.dK q)) ((setD_put nz).trans (by rw [take_snoc gz]))
  · rintro σ H2 ⟨e, hd, y, rfl⟩
    exact q H2 e

end
end Fb

set_option Elab.async false
set_option linter.all false
set_option maxRecDepth 100000
set_option maxHeartbeats 4000000
namespace Fb
open PySem PySem.Spec L2
open PyProof.Rows hiding St
open C8 (Cal Met Mak Def cal0 met0 mak0 pe_c pe_mk pe_mt pe_mt0 fnScope fnBody fnArgs pss_cut tCut)
local macro_rules | `(tactic| walk_at "hp") => `(tactic| first | exact upd_same | assumption | (refine grow (by assumption) _ _ ?_; walk_at "hp") | (refine (show Same _ _ by assumption) _ _ ?_; walk_at "hp"))
local macro_rules | `(tactic| walk_at "sm") => `(tactic| first | exact Same.refl _ | assumption | (refine Same.trans ?_ (grow (by assumption)); walk_at "sm") | (refine Same.trans ?_ (show Same _ _ by assumption); walk_at "sm"))
section
variable {P : Program} {w : World} {K : PySem.W.Frag} {mg : Str → Option Value} {base : Heap}
variable {C_Shape C_Plan C_Links C_PlanTaken C_PlanRefused A_plan_of : Addr}
/-! ### Plan.__init__ -/
def spPlanI (K : PySem.W.Frag) (C : Addr) : Sp := sp3 fun a b c H Q => ∃ (x dx l1 l2 : Addr) (order : List Str) (xs : List V) (ts : List Tw), a = .ref x ∧ b = .ref l1 ∧ c = .ref l2 ∧ H x = some (.ins C dx []) ∧ H l1 = some (.lst (order.map V.str)) ∧ H l2 = some (.lst xs) ∧ TwsV H xs ts ∧ Nms order ∧ order.Nodup ∧ order.length ≤ 1000 ∧ ts.length ≤ 90000 ∧ (∀ p ∈ ts, p.1 ∈ order ∧ p.2 ∈ order ∧ p.1 ≠ p.2) ∧
  ∀ (H' : Hp), (∀ c o, H c = some o → c ≠ x → H' c = some o) → PlanAt C H' x order (uq (ts.mergeSort twLe)) → Q .non H'
theorem c_Plan___init__ (T : Top K mg C_Shape C_Plan C_Links C_PlanTaken C_PlanRefused A_plan_of) : Mak P w K mg base 3 "Plan" C_Plan (spPlanI K C_Plan) [] := by
  obtain ⟨f, fd, me, F, df⟩ := T.d_Plan___init__
  refine ⟨f, fd, ["self", "order", "pairs"], [], me, ?_, T.g_Plan, F.binds df fun _ _ _ _ _ _ us hl => match us, hl with | [_, _, _], _ => rfl, .nil⟩
  refine fm3 F sc_Plan___init__ fun cdv A outer s H a b c Q E hr h => ?_
  have nd := sc_Plan___init__.nd
  obtain ⟨x, dx, l1, l2, order, xs, ts, rfl, rfl, rfl, hx, hl1, hl2, hxs, nm, ndo, lo, lt, hE, k⟩ := h
  refine ⟨_, (pss_cons 
      (ps_expr (pe_c (c_check_places T) hr (by decide) (by rfl) (pa_cons (pv 1) pa_nil))) (pss_cut 
      (ps_fld (pv 0) (pe_dc (own := [("at", 4), ("road", 5)]) rfl nd (pi_enum (by rfl) T.enumerate (pa_cons (pv 1) pa_nil)) (blkOk_by (N := ["self", "order", "pairs", "pair", "at", "road", "source", "target"]) (sc := fnScope s_Plan___init__) (by decide +kernel)) (fun _ _ _ _ _ => (tup_K (K := K) (n := 2) rfl rfl (pgs_cons (pg_name (i := 4) nd rfl (Or.inl rfl)) (pgs_cons (pg_name (i := 5) nd rfl (Or.inl rfl)) pgs_nil)))) (fun _ _ _ _ _ => pts_nil) (fun _ _ _ _ _ => (pv 5)) (fun _ _ _ _ _ => (pv 4))) rfl) (pss_cut 
      (ps_for PassesOwn.never rfl (pi_K (K := K) rfl (pv 2)) (pg_name (i := 3) nd rfl (Or.inl rfl)) (pss_one 
      (ps_if (pt_not (pt_val (pe_c (c_is_pair T) hr (by decide) (by rfl) (pa_cons (pv 3) (pa_cons (pe_fld (pv 0) rfl) pa_nil))))) (pss_cons 
      ps_never (pss_one 
      ps_never)) pss_nil))) (pss_one 
      (ps_fld (pv 0) (pe_dcT (hu_of hr) (own := [("pair", 3)]) rfl nd (pi_K (K := K) rfl (pe_callB (srt_K (K := K) rfl hr) (by rfl) T.sorted (by decide +kernel) (pa_cons (pv 2) pa_nil))) (blkOk_by (N := ["self", "order", "pairs", "pair", "at", "road", "source", "target"]) (sc := fnScope s_Plan___init__) (by decide +kernel)) (fun _ _ _ _ _ => (pg_name (i := 3) nd rfl (Or.inl rfl))) (fun _ _ _ _ _ => pts_nil) (fun _ _ _ _ _ => (pv 3)) (fun _ _ _ _ _ => pe_bl)) rfl))))), ?_⟩
  have nl1 : l1 ≠ x := ne_of hl1 hx fun z => nomatch z
  have nl2 : l2 ≠ x := ne_of hl2 hx fun z => nomatch z
  refine ⟨_, rfl, _, rfl, l1, order, rfl, SqL.of hl1, nm, ndo, lo, fun H0 e0 => ?_⟩
  have lps : (ts.mergeSort twLe).length ≤ 90000 := by rw [List.length_mergeSort]; exact lt
  generalize hps : ts.mergeSort twLe = ps at lps k
  have k : ∀ (H' : Hp), (∀ c o, H0 c = some o → c ≠ x → H' c = some o) → PlanAt C_Plan H' x order (uq ps) → _ := fun H' a b => k H' (fun c o h n => a c o (e0 _ _ h) n) b
  have hx := e0 _ _ hx
  have hl1 := e0 _ _ hl1
  have hl2 := e0 _ _ hl2
  have hxs := hxs.kp (Same.kpt e0)
  clear e0
  -- self._ranks
  refine ⟨fun σ H' => ∃ D : Addr, (∀ c o, H0 c = some o → c ≠ x → H' c = some o) ∧ H0 D = none ∧ H' D = some (.dK (rankD order)) ∧ H' x = some (.ins C_Plan dx [("_ranks", .ref D)]) ∧ ∃ y3 y4 y5 y6 y7, σ = [some (.ref x), some (.ref l1), some (.ref l2), y3, y4, y5, y6, y7], ?_, ?_⟩
  · refine ⟨_, rfl, l1, _, rfl, SqL.of hl1, fun D nD => ?_⟩
    refine dc_it (walk_enum (xs := order.map V.str)) (fun i H' => Same H0 H' ∧ H' D = some (.dK (rankD (order.take i)))) ⟨grow nD, upd_same⟩ (fun i H' _ ⟨e, _⟩ => SqL.of (e _ _ hl1)) ?_ ?_
    · rintro i v H1 H2 hi ⟨e, hD⟩ ⟨t, a, b, rfl, nt, rfl, ga, gb⟩
      obtain ⟨z, gz, rfl⟩ := st_get gb
      cases ga
      have nz := nd_take ndo gz
      have hD2 := (grow (o := .tup [.int (i : Nat), .str z]) nt) _ _ hD
      have il : i < order.length := (List.getElem?_eq_some_iff.mp gz).1
      refine ⟨t, _, rfl, SqT.of upd_same, rfl, _, _, rfl, _, _, rfl, rfl, rfl, _, rfl, _, rfl, _, Sum.inr z, rfl, hD2, size5 (by rw [rankD_len, List.length_take]; omega), same_mut (e.trans (grow nt)) nD, ?_⟩
      rw [upd_same, take_snoc gz, rankD_snoc]
      refine congrArg (fun q => some (HO.dK q)) ((putK_new _ (rankD_none nz)).trans ?_)
      rw [List.length_take, Nat.min_eq_left (by omega)]
    · rintro H1 ⟨e, hD⟩
      rw [List.length_map, List.take_length] at hD
      refine ⟨_, rfl, x, C_Plan, dx, _, rfl, e _ _ hx, T.cl_Plan, T.na_Plan__ranks, (by show 0 < 1000; decide), ?_⟩
      have nDx : D ≠ x := fun q => by
        rw [q, hx] at nD
        cases nD
      refine ⟨D, fun c o h n => ?_, nD, ?_, upd_same, _, _, _, _, _, rfl⟩
      · rw [upd_ne n]
        exact e _ _ h
      · rw [upd_ne nDx]
        exact hD
  rintro σ H1 ⟨R, k1, n1, h1, hx1, y3, y4, y5, y6, y7, rfl⟩
  have hl2a := k1 _ _ hl2 nl2
  have hxs1 : TwsV H1 xs ts := hxs.kp fun b ys eb => k1 _ _ eb (ne_of eb hx fun z => nomatch z)
  -- for pair in pairs
  refine ⟨fun σ H' => H' = H1 ∧ ∃ y3 y4 y5 y6 y7, σ = [some (.ref x), some (.ref l1), some (.ref l2), y3, y4, y5, y6, y7], ?_, ?_⟩
  · refine ⟨_, rfl, .inl ⟨l2, rfl, ⟨_, SqL.of hl2a⟩, ?_⟩⟩
    refine for_it (walk_list (xs := xs)) (fun i σ H' => H' = H1 ∧ ∃ y3 y4 y5 y6 y7, σ = [some (.ref x), some (.ref l1), some (.ref l2), y3, y4, y5, y6, y7]) ⟨rfl, _, _, _, _, _, rfl⟩ (fun i σ H' _ ⟨e, _⟩ => e ▸ SqL.of hl2a) ?_ ?_
    · rintro i v σ _ G2 hi ⟨rfl, y3, y4, y5, y6, y7, rfl⟩ ⟨rfl, g⟩
      obtain ⟨q, gq, hq⟩ := hxs1.get g
      obtain ⟨m1, m2, ne⟩ := hE q (List.mem_of_getElem? gq)
      refine ⟨_, rfl, ?_⟩
      refine ⟨_, rfl, x, C_Plan, dx, _, _, rfl, hx1, T.cl_Plan, T.na_Plan__ranks, lk_hit, ?_⟩
      refine ⟨_, _, rfl, q, R, _, order, hq, rfl, h1, rankD_keys order, m1, m2, ne, ?_⟩
      exact ⟨_, rfl, iteF ⟨rfl, _, _, _, _, _, rfl⟩⟩
    · rintro σ _ ⟨rfl, y3, y4, y5, y6, y7, rfl⟩
      exact ⟨rfl, _, _, _, _, _, rfl⟩
  rintro σ G1 ⟨eG, y3, y4, y5, y6, y7, rfl⟩
  have eG : H1 = G1 := eG.symm
  subst eG
  -- self._pairs
  refine ⟨_, rfl, ?_⟩
  dsimp only [tNil]
  refine srt_tw (.inl (SqL.of hl2a)) hxs1 fun p ys np hys => ?_
  rw [hps] at hys
  refine .inl ⟨p, rfl, ⟨_, SqL.of upd_same⟩, fun D nD => ?_⟩
  have e1 := grow (o := .lst ys) np
  have nD0 : H1 D = none := e1.free nD
  refine dcT_it (walk_list (xs := ys)) (fun i H' => Same H1 H' ∧ H' p = some (.lst ys) ∧ TwsV H' ys ps ∧ H' D = some (.dT (pairD (uq (ps.take i))))) ⟨e1.trans (grow nD), (grow nD) _ _ upd_same, hys.kp (Same.kpt (grow nD)), upd_same⟩ (fun i H' _ ⟨_, h, _⟩ => SqL.of h) ?_ ?_
  · rintro i v H4 H5 hi ⟨e, hp, hy, hD⟩ ⟨rfl, g⟩
    obtain ⟨q, gq, t, rfl, ht⟩ := hy.get g
    have ul := uq_len (ps.take i)
    rw [List.length_take] at ul
    refine ⟨rfl, _, rfl, _, twK q, t, rfl, ht, hD, size5 (by rw [pairD_len]; omega), same_mut e nD0, ?_, ?_, ?_⟩
    · rw [upd_ne (ne_of hp hD fun z => nomatch z)]
      exact hp
    · exact hy.kp fun b ys eb => by
        rw [upd_ne (ne_of eb hD fun z => nomatch z)]
        exact eb
    · rw [upd_same, pairD_put, uq, uq, fold_take uqS [] ps i q gq]
  · rintro H4 ⟨e, hp, hy, hD⟩
    rw [hy.len, List.take_length] at hD
    refine ⟨_, rfl, x, C_Plan, dx, _, rfl, e _ _ hx1, T.cl_Plan, T.na_Plan__pairs, (by show 1 < 1000; decide), ?_⟩
    have nDx : D ≠ x := fun q => by
      rw [q, hx1] at nD0
      cases nD0
    have nRx : R ≠ x := ne_of h1 hx1 fun z => nomatch z
    refine k _ (fun c o h n => ?_) ⟨dx, R, D, ?_, ?_, ?_⟩
    · rw [upd_ne n]
      exact e _ _ (k1 _ _ h n)
    · rw [upd_same]
      exact congrArg (fun q => some (HO.ins C_Plan dx q)) (if_neg (by decide +kernel))
    · rw [upd_ne nRx]
      exact e _ _ h1
    · rw [upd_ne nDx]
      exact hD

end
end Fb

set_option Elab.async false
set_option linter.all false
set_option maxRecDepth 100000
set_option maxHeartbeats 4000000
namespace Fb
open PySem PySem.Spec L2
open PyProof.Rows hiding St
open C8 (Cal Met Mak Def cal0 met0 mak0 pe_c pe_mk pe_mt pe_mt0 fnScope fnBody fnArgs pss_cut tCut)
local macro_rules | `(tactic| walk_at "hp") => `(tactic| first | exact upd_same | assumption | (refine grow (by assumption) _ _ ?_; walk_at "hp") | (refine (show Same _ _ by assumption) _ _ ?_; walk_at "hp"))
local macro_rules | `(tactic| walk_at "sm") => `(tactic| first | exact Same.refl _ | assumption | (refine Same.trans ?_ (grow (by assumption)); walk_at "sm") | (refine Same.trans ?_ (show Same _ _ by assumption); walk_at "sm"))
section
variable {P : Program} {w : World} {K : PySem.W.Frag} {mg : Str → Option Value} {base : Heap}
variable {C_Shape C_Plan C_Links C_PlanTaken C_PlanRefused A_plan_of : Addr}
/-! ### plan_of -/
def spPlanOf (K : PySem.W.Frag) (CS C : Addr) : Sp := sp3 fun a b c H Q => ∃ (x l s : Addr) (ws order : List Str) (ps qs : List Tw) (zs : List V), a = .ref x ∧ b = .ref l ∧ c = .ref s ∧ ShapeAt CS H x ws ps ∧ H l = some (.lst (order.map V.str)) ∧ (SqL K H s zs ∨ SqT K H s zs) ∧ TwsV H zs qs ∧ Nms ws ∧ ws.Nodup ∧ ws.length ≤ 100 ∧ order.Nodup ∧ (∀ r, r ∈ order ↔ r ∈ ws) ∧ ps.length ≤ 100000 ∧ (∀ p ∈ ps, p.1 ∈ ws ∧ p.2 ∈ ws ∧ p.1 ≠ p.2) ∧ qs.length ≤ 10000 ∧ (∀ p ∈ qs, p.1 ∈ ws ∧ p.2 ∈ ws ∧ p.1 ≠ p.2) ∧
  ∀ (H' : Hp) (y : Addr) (rs : List Tw), Same H H' → PlanAt C H' y order rs → Prs (fun q => LowP ps order q ∨ q ∈ qs) rs → Q (.ref y) H'
theorem ok_plan_of (T : Top K mg C_Shape C_Plan C_Links C_PlanTaken C_PlanRefused A_plan_of) {f : Addr} {fd : FuncData} (F : Def K mg "plan_of" s_plan_of f fd) : FnOk P w K mg base C8.CX0 5 f fd ["shape", "order", "spare"] (spPlanOf K C_Shape C_Plan) := by
  refine fn3 F sc_plan_of fun cdv A outer s H a b c Q E hr h => ?_
  have nd := sc_plan_of.nd
  obtain ⟨x, l, s1, ws, order, ps, qs, zs, rfl, rfl, rfl, hx, hl, hs, hzs, nm, ndw, lw, ndo, mo, lp, hE, lq, hQ, k⟩ := h
  refine ⟨_, (pss_one 
      (ps_ret (pe_mk (c_Plan___init__ T) hr (by decide) (by rfl) (pa_cons (pv 1) (pa_cons (pe_op op_addU (pe_c (c_low_pairs T) hr (by decide) (by rfl) (pa_cons (pv 0) (pa_cons (pv 1) pa_nil))) (pe_callTy (listOf_K (K := K) rfl) (by rfl) T.list (by decide +kernel) (pa_cons (pv 2) pa_nil))) pa_nil))))), ?_⟩
  have lo : order.length ≤ 100 := Nat.le_trans (nd_le ndo fun r m => (mo r).mp m) lw
  refine ⟨_, rfl, _, rfl, _, rfl, _, _, rfl, x, l, ws, order, ps, rfl, rfl, hx, SqL.of hl, ndw, by omega, ndo, mo, lp, hE, fun H1 D ys fs e1 _ hD hys low => ?_⟩
  have lf := low.len lw
  have lys := hys.len
  rw [List.length_mergeSort] at lys
  refine ⟨_, rfl, s1, _, rfl, hs.imp e1.seq (same_tup e1), fun S nS => ?_⟩
  have e2 := e1.trans (grow (o := .lst zs) nS)
  have hD2 := (grow (o := .lst zs) nS) _ _ hD
  have hS : (upd H1 S (.lst zs)) S = some (.lst zs) := upd_same
  have hys2 := hys.kp (Same.kpt (grow (o := .lst zs) nS))
  generalize upd H1 S (.lst zs) = H2 at e2 hD2 hS hys2 ⊢
  have lz := hzs.len
  refine .inr (.inr ⟨D, S, ys, zs, rfl, rfl, hD2, hS, size5' (by omega), fun L nL => ?_⟩)
  have e3 := e2.trans (grow (o := .lst (ys ++ zs)) nL)
  have hL : (upd H2 L (.lst (ys ++ zs))) L = some (.lst (ys ++ zs)) := upd_same
  have hall : TwsV (upd H2 L (.lst (ys ++ zs))) (ys ++ zs) (fs.mergeSort twLe ++ qs) := (hys2.kp (Same.kpt (grow nL))).app (hzs.kp (Same.kpt e3))
  generalize upd H2 L (.lst (ys ++ zs)) = H3 at e3 hL hall ⊢
  intro y dy ny ndy ne
  have e4 : Same H3 (upd (upd H3 dy (.own y)) y (.ins C_Plan dy [])) := (grow ndy).trans (grow (by rw [upd_ne ne.symm]; exact ny))
  have mall : ∀ q, q ∈ fs.mergeSort twLe ++ qs ↔ LowP ps order q ∨ q ∈ qs := fun q => by
    rw [List.mem_append, List.mem_mergeSort, low.lowP mo]
  refine ⟨_, _, _, rfl, y, dy, l, L, order, ys ++ zs, fs.mergeSort twLe ++ qs, rfl, rfl, rfl, upd_same, e4 _ _ (e3 _ _ hl), e4 _ _ hL, hall.kp (Same.kpt e4), fun r m => nm r ((mo r).mp m), ndo, by omega, ?_, fun q m => ?_, fun H' kp hp => ⟨rfl, ?_⟩⟩
  · rw [List.length_append, List.length_mergeSort]
    omega
  · rcases (mall q).mp m with h | h
    · exact ⟨h.1, h.2.1, h.2.2.1⟩
    · obtain ⟨a, b, c⟩ := hQ q h
      exact ⟨(mo _).mpr a, (mo _).mpr b, c⟩
  · exact k H' y _ (fun b o h => kp _ _ (e4 _ _ (e3 _ _ h)) (ne_of_none (e3 _ _ h) ny)) hp (Prs.of_uq.iff mall)

theorem c_plan_of (T : Top K mg C_Shape C_Plan C_Links C_PlanTaken C_PlanRefused A_plan_of) : Cal P w K mg base 5 "plan_of" (spPlanOf K C_Shape C_Plan) [.ref A_plan_of] := by
  obtain ⟨f, fd, F, FD⟩ := T.kd_plan_of
  obtain ⟨ds, r, b⟩ := FD.binds0 (ps := ["shape", "order", "spare"]) 2 (by intro h; cases h) rfl fun D doc pm an cdv ct us ks l1 l2 => match us, ks, l1, l2 with | [_, _], [_], _, _ => ⟨_, _, _, _, _, _, rfl, rfl, rfl⟩
  exact ⟨f, fd, _, ds, ok_plan_of T F, F.mgf, F.kp, b, r⟩
theorem k_plan_of_2_spare (T : Top K mg C_Shape C_Plan C_Links C_PlanTaken C_PlanRefused A_plan_of) : CalK P w K mg base 5 "plan_of" (spPlanOf K C_Shape C_Plan) 2 ["spare"] (fun vs zs => pick vs [] zs [(0, 0), (0, 1), (2, 0)]) := by
  obtain ⟨f, fd, F, df⟩ := T.d_plan_of
  exact ⟨f, fd, _, _, ok_plan_of T F, F.mgf, F.kp, nod_kbn (ps := ["shape", "order", "spare"]) (ks := ["spare"]) F df 2 [(0, 0), (0, 1), (2, 0)] fun _ _ _ _ _ _ us ws l1 l2 => match us, ws, l1, l2 with | [_, _], [_], _, _ => rfl⟩

end
end Fb

set_option Elab.async false
set_option linter.all false
set_option maxRecDepth 100000
set_option maxHeartbeats 4000000
namespace Fb
open PySem PySem.Spec L2
open PyProof.Rows hiding St
open C8 (Cal Met Mak Def cal0 met0 mak0 pe_c pe_mk pe_mt pe_mt0 fnScope fnBody fnArgs pss_cut tCut)
local macro_rules | `(tactic| walk_at "hp") => `(tactic| first | exact upd_same | assumption | (refine grow (by assumption) _ _ ?_; walk_at "hp") | (refine (show Same _ _ by assumption) _ _ ?_; walk_at "hp"))
local macro_rules | `(tactic| walk_at "sm") => `(tactic| first | exact Same.refl _ | assumption | (refine Same.trans ?_ (grow (by assumption)); walk_at "sm") | (refine Same.trans ?_ (show Same _ _ by assumption); walk_at "sm"))
section
variable {P : Program} {w : World} {K : PySem.W.Frag} {mg : Str → Option Value} {base : Heap}
variable {C_Shape C_Plan C_Links C_PlanTaken C_PlanRefused A_plan_of : Addr}
/-! ### _law_same -/
def spSame (K : PySem.W.Frag) (n : Nat) : Sp := sp2 fun a b H Q => ∃ d, Lk n d ∧ Dp K H a d ∧ Dp K H b d ∧ Then H Q (.bl true)
theorem c__law_same_n (T : Top K mg C_Shape C_Plan C_Links C_PlanTaken C_PlanRefused A_plan_of) : ∀ n, Cal P w K mg base (n + 1) "_law_same" (spSame K n) []
  | 0 => by
    obtain ⟨f, fd, F, df⟩ := T.d__law_same
    refine cal_of F df (fn2 F sc__law_same fun cdv A outer s H a b Q E hr h => ?_) fun _ _ _ _ _ _ us hl => match us, hl with | [_, _], _ => rfl
    obtain ⟨d, h, _⟩ := h
    exact h.elim
  | n + 1 => by
    have ih := @c__law_same_n T n
    obtain ⟨f, fd, F, df⟩ := T.d__law_same
    refine cal_of F df (fn2 F sc__law_same fun cdv A outer s H a b Q E hr h => ?_) fun _ _ _ _ _ _ us hl => match us, hl with | [_, _], _ => rfl
    have nd := sc__law_same.nd
    obtain ⟨d, lk, ha, hb, q⟩ := h
    refine ⟨_, (pss_cons 
      (ps_if (PW.pt (pw_or (pt_cmpR op_isN (pv 1) pe_non (nomark _)) (pw_or1 (pt_cmpR op_isN (pv 0) pe_non (nomark _))))) (pss_one 
      (ps_ret (pe_and (pe_cmpR op_isN (pv 1) pe_non (nomark _)) (pe_one (pe_cmpR op_isN (pv 0) pe_non (nomark _)))))) pss_nil) (pss_cons 
      (ps_if (pt_val (pe_callB (isi_K (K := K) rfl) (by rfl) T.isinstance (by decide +kernel) (pa_cons (pv 1) (pa_cons (pe_bltn (v := .ty "dict") (by rfl) T.dict (by decide +kernel) rfl) pa_nil)))) (pss_cons 
      ps_never (pss_one 
      ps_never)) pss_nil) (pss_cons 
      (ps_if (pt_val (pe_callB (isi_K (K := K) rfl) (by rfl) T.isinstance (by decide +kernel) (pa_cons (pv 1) (pa_cons (pe_tup (pa_cons (pe_bltn (v := .ty "list") (by rfl) T.list (by decide +kernel) rfl) (pa_cons (pe_bltn (v := .ty "tuple") (by rfl) T.tuple (by decide +kernel) rfl) pa_nil))) pa_nil)))) (pss_cons 
      (ps_if (PW.pt (pw_or (pt_cmpR (ne_K (K := K) rfl hr) (pe_callB (isi_K (K := K) rfl) (by rfl) T.isinstance (by decide +kernel) (pa_cons (pv 0) (pa_cons (pe_bltn (v := .ty "list") (by rfl) T.list (by decide +kernel) rfl) pa_nil))) (pe_callB (isi_K (K := K) rfl) (by rfl) T.isinstance (by decide +kernel) (pa_cons (pv 1) (pa_cons (pe_bltn (v := .ty "list") (by rfl) T.list (by decide +kernel) rfl) pa_nil))) (nomark _)) (pw_or1 (pt_cmpR (ne_K (K := K) rfl hr) (pe_callB (isi_K (K := K) rfl) (by rfl) T.isinstance (by decide +kernel) (pa_cons (pv 0) (pa_cons (pe_bltn (v := .ty "tuple") (by rfl) T.tuple (by decide +kernel) rfl) pa_nil))) (pe_callB (isi_K (K := K) rfl) (by rfl) T.isinstance (by decide +kernel) (pa_cons (pv 1) (pa_cons (pe_bltn (v := .ty "tuple") (by rfl) T.tuple (by decide +kernel) rfl) pa_nil))) (nomark _))))) (pss_one 
      (ps_ret pe_bl)) pss_nil) (pss_one 
      (ps_ret (pe_and (pe_cmpR (eq_K (K := K) rfl hr) (pe_callB (len_K (K := K) rfl) (by rfl) T.len (by decide +kernel) (pa_cons (pv 0) pa_nil)) (pe_callB (len_K (K := K) rfl) (by rfl) T.len (by decide +kernel) (pa_cons (pv 1) pa_nil)) (nomark _)) (pe_one (pe_callB (all_K (K := K) rfl rfl) (by rfl) T.all (by decide +kernel) (pa_cons (pe_lc (own := [("one", 3), ("other", 4)]) rfl nd (zip_K (K := K) rfl (by rfl) T.zip (pa_cons (pv 0) (pa_cons (pv 1) pa_nil))) (blkOk_by (N := ["found", "due", "key", "one", "other"]) (sc := fnScope s__law_same) (by decide +kernel)) (fun _ _ _ _ _ => (tup_K (K := K) (n := 2) rfl rfl (pgs_cons (pg_name (i := 3) nd rfl (Or.inl rfl)) (pgs_cons (pg_name (i := 4) nd rfl (Or.inl rfl)) pgs_nil)))) (fun _ _ _ _ _ => pts_nil) (fun _ _ _ _ _ => (pe_c ih hr (Nat.le_refl _) (by rfl) (pa_cons (pv 3) (pa_cons (pv 4) pa_nil))))) pa_nil))))))) pss_nil) (pss_cons 
      (ps_if (PW.pt (pw_or (pt_cmpR (ne_K (K := K) rfl hr) (pe_callB (isi_K (K := K) rfl) (by rfl) T.isinstance (by decide +kernel) (pa_cons (pv 0) (pa_cons (pe_bltn (v := .ty "bool") (by rfl) T.bool (by decide +kernel) rfl) pa_nil))) (pe_callB (isi_K (K := K) rfl) (by rfl) T.isinstance (by decide +kernel) (pa_cons (pv 1) (pa_cons (pe_bltn (v := .ty "bool") (by rfl) T.bool (by decide +kernel) rfl) pa_nil))) (nomark _)) (pw_or1 (pt_cmpR (ne_K (K := K) rfl hr) (pe_callB (isi_K (K := K) rfl) (by rfl) T.isinstance (by decide +kernel) (pa_cons (pv 0) (pa_cons (pe_bltn (v := .ty "int") (by rfl) T.int (by decide +kernel) rfl) pa_nil))) (pe_callB (isi_K (K := K) rfl) (by rfl) T.isinstance (by decide +kernel) (pa_cons (pv 1) (pa_cons (pe_bltn (v := .ty "int") (by rfl) T.int (by decide +kernel) rfl) pa_nil))) (nomark _))))) (pss_one 
      (ps_ret pe_bl)) pss_nil) (pss_one 
      (ps_ret (pe_and (pe_cmpR (eq_K (K := K) rfl hr) (pe_callB (isi_K (K := K) rfl) (by rfl) T.isinstance (by decide +kernel) (pa_cons (pv 0) (pa_cons (pe_bltn (v := .ty "str") (by rfl) T.str (by decide +kernel) rfl) pa_nil))) (pe_callB (isi_K (K := K) rfl) (by rfl) T.isinstance (by decide +kernel) (pa_cons (pv 1) (pa_cons (pe_bltn (v := .ty "str") (by rfl) T.str (by decide +kernel) rfl) pa_nil))) (nomark _)) (pe_one (pe_cmpR (eq_K (K := K) rfl hr) (pv 0) (pv 1) (nomark _)))))))))), ?_⟩
    have tb := dp_ty hb
    have ta := dp_ty ha
    cases d with
    | dict _ => exact lk.elim
    | none =>
      cases hb
      cases ha
      exact ⟨_, rfl, rfl, _, rfl, iteT ⟨_, rfl, rfl, _, rfl, iteT ⟨_, rfl, rfl, q.here⟩⟩⟩
    | bool x =>
      cases hb
      cases ha
      refine ⟨_, rfl, rfl, _, rfl, iteF ⟨_, rfl, rfl, _, rfl, iteF ?_⟩⟩
      refine ⟨_, rfl, .inl ⟨_, _, _, false, rfl, .base (.bl x), by decide +kernel, _, rfl, iteF ?_⟩⟩
      refine ⟨_, rfl, by decide, fun t nt => .inr ⟨_, _, ["list", "tuple"], "bool", false, rfl, upd_same, .base (.bl x), by decide +kernel, _, rfl, iteF ?_⟩⟩
      refine ⟨_, rfl, .inl ⟨_, _, _, true, rfl, .base (.bl x), by decide +kernel, ⟨_, rfl, .inl ⟨_, _, _, true, rfl, .base (.bl x), by decide +kernel, .inl ⟨rfl, _, rfl, iteF ?_⟩⟩⟩⟩⟩
      refine ⟨_, rfl, .inl ⟨_, _, _, true, rfl, .base (.bl x), by decide +kernel, ⟨_, rfl, .inl ⟨_, _, _, true, rfl, .base (.bl x), by decide +kernel, .inl ⟨rfl, _, rfl, iteF ?_⟩⟩⟩⟩⟩
      refine ⟨_, rfl, .inl ⟨_, _, _, false, rfl, .base (.bl x), by decide +kernel, ⟨_, rfl, .inl ⟨_, _, _, false, rfl, .base (.bl x), by decide +kernel, .inl ⟨rfl, _, rfl, iteT ?_⟩⟩⟩⟩⟩
      refine ⟨_, rfl, _, rfl, .inl ⟨rfl, ?_⟩⟩
      rw [decide_eq_true (rfl : V.bl x = V.bl x)]
      exact q _ (grow nt)
    | int x =>
      cases hb
      cases ha
      refine ⟨_, rfl, rfl, _, rfl, iteF ⟨_, rfl, rfl, _, rfl, iteF ?_⟩⟩
      refine ⟨_, rfl, .inl ⟨_, _, _, false, rfl, .base (.int x), by decide +kernel, _, rfl, iteF ?_⟩⟩
      refine ⟨_, rfl, by decide, fun t nt => .inr ⟨_, _, ["list", "tuple"], "int", false, rfl, upd_same, .base (.int x), by decide +kernel, _, rfl, iteF ?_⟩⟩
      refine ⟨_, rfl, .inl ⟨_, _, _, false, rfl, .base (.int x), by decide +kernel, ⟨_, rfl, .inl ⟨_, _, _, false, rfl, .base (.int x), by decide +kernel, .inl ⟨rfl, _, rfl, iteF ?_⟩⟩⟩⟩⟩
      refine ⟨_, rfl, .inl ⟨_, _, _, true, rfl, .base (.int x), by decide +kernel, ⟨_, rfl, .inl ⟨_, _, _, true, rfl, .base (.int x), by decide +kernel, .inl ⟨rfl, _, rfl, iteF ?_⟩⟩⟩⟩⟩
      refine ⟨_, rfl, .inl ⟨_, _, _, false, rfl, .base (.int x), by decide +kernel, ⟨_, rfl, .inl ⟨_, _, _, false, rfl, .base (.int x), by decide +kernel, .inl ⟨rfl, _, rfl, iteT ?_⟩⟩⟩⟩⟩
      refine ⟨_, rfl, _, rfl, .inl ⟨rfl, ?_⟩⟩
      rw [decide_eq_true (rfl : V.int x = V.int x)]
      exact q _ (grow nt)
    | str x =>
      cases hb
      cases ha
      refine ⟨_, rfl, rfl, _, rfl, iteF ⟨_, rfl, rfl, _, rfl, iteF ?_⟩⟩
      refine ⟨_, rfl, .inl ⟨_, _, _, false, rfl, .base (.str x), by decide +kernel, _, rfl, iteF ?_⟩⟩
      refine ⟨_, rfl, by decide, fun t nt => .inr ⟨_, _, ["list", "tuple"], "str", false, rfl, upd_same, .base (.str x), by decide +kernel, _, rfl, iteF ?_⟩⟩
      refine ⟨_, rfl, .inl ⟨_, _, _, false, rfl, .base (.str x), by decide +kernel, ⟨_, rfl, .inl ⟨_, _, _, false, rfl, .base (.str x), by decide +kernel, .inl ⟨rfl, _, rfl, iteF ?_⟩⟩⟩⟩⟩
      refine ⟨_, rfl, .inl ⟨_, _, _, false, rfl, .base (.str x), by decide +kernel, ⟨_, rfl, .inl ⟨_, _, _, false, rfl, .base (.str x), by decide +kernel, .inl ⟨rfl, _, rfl, iteF ?_⟩⟩⟩⟩⟩
      refine ⟨_, rfl, .inl ⟨_, _, _, true, rfl, .base (.str x), by decide +kernel, ⟨_, rfl, .inl ⟨_, _, _, true, rfl, .base (.str x), by decide +kernel, .inl ⟨rfl, _, rfl, iteT ?_⟩⟩⟩⟩⟩
      refine ⟨_, rfl, _, rfl, .inl ⟨rfl, ?_⟩⟩
      rw [decide_eq_true (rfl : V.str x = V.str x)]
      exact q _ (grow nt)
    | list ds =>
      obtain ⟨hl, lks⟩ := lk
      cases hb with
      | lst sb db =>
      cases ha with
      | lst sa da =>
      rename_i bb ys aa xs
      have l1 := dpAll_len da
      have l2 := dpAll_len db
      refine ⟨_, rfl, rfl, _, rfl, iteF ⟨_, rfl, rfl, _, rfl, iteF ?_⟩⟩
      refine ⟨_, rfl, .inl ⟨_, _, _, false, rfl, sql_ty sb, by decide +kernel, _, rfl, iteF ?_⟩⟩
      refine ⟨_, rfl, by decide, fun t nt => .inr ⟨_, _, ["list", "tuple"], "list", true, rfl, upd_same, sql_ty (Same.seq (grow nt) sb), by decide +kernel, _, rfl, iteT ?_⟩⟩
      have sa := Same.seq (grow (o := .tup (["list", "tuple"].map V.ty)) nt) sa
      have sb := Same.seq (grow (o := .tup (["list", "tuple"].map V.ty)) nt) sb
      have da := dpAll_mono (grow (o := .tup (["list", "tuple"].map V.ty)) nt) ds da
      have db := dpAll_mono (grow (o := .tup (["list", "tuple"].map V.ty)) nt) ds db
      refine ⟨_, rfl, .inl ⟨_, _, _, true, rfl, sql_ty sa, by decide +kernel, ⟨_, rfl, .inl ⟨_, _, _, true, rfl, sql_ty sb, by decide +kernel, .inl ⟨rfl, _, rfl, iteF ?_⟩⟩⟩⟩⟩
      refine ⟨_, rfl, .inl ⟨_, _, _, false, rfl, sql_ty sa, by decide +kernel, ⟨_, rfl, .inl ⟨_, _, _, false, rfl, sql_ty sb, by decide +kernel, .inl ⟨rfl, _, rfl, iteF ?_⟩⟩⟩⟩⟩
      refine ⟨_, rfl, .inl ⟨_, _, rfl, .inl sa, ⟨_, rfl, .inl ⟨_, _, rfl, .inl sb, .inl ⟨rfl, _, rfl, ?_⟩⟩⟩⟩⟩
      rw [decide_eq_true (show V.int xs.length = V.int ys.length by rw [l1, l2])]
      refine iteT ⟨_, rfl, _, rfl, _, _, xs, ys, rfl, .inl ⟨sa, sb, fun D hD => ?_⟩⟩
      refine lc_map (walk_zip (n := ds.length) (by omega)) (fun _ => .bl true) grow_pair hl hD (fun H1 e => ⟨Same.seq e sa, Same.seq e sb⟩) ?_ ?_
      · rintro i x H1 H2 hi e ⟨T, x1, x2, rfl, nT, rfl, g1, g2⟩ R k
        obtain ⟨d1, h1, p1⟩ := dpAll_get da g1
        obtain ⟨d2, h2, p2⟩ := dpAll_get db g2
        have ed : d2 = d1 := Option.some.inj (h2.symm.trans h1)
        subst ed
        have e2 := e.trans (grow (o := .tup [x1, x2]) nT)
        exact ⟨T, [x1, x2], rfl, SqT.of upd_same, rfl, x1, [x2], rfl, x2, [], rfl, rfl, rfl, _, rfl, _, rfl, _, _, rfl, d2, lk_item lks h1, dp_mono e2 _ p1, dp_mono e2 _ p2, k⟩
      · intro H1 e hd
        refine ⟨D, (List.range ds.length).map fun _ => true, rfl, SqL.of (by rw [hd, List.map_map]; rfl), ?_⟩
        rw [all_true]
        exact q _ ((grow nt).trans e)
    | tuple ds =>
      obtain ⟨hl, lks⟩ := lk
      cases hb with
      | tup sb db =>
      cases ha with
      | tup sa da =>
      rename_i bb ys aa xs
      have l1 := dpAll_len da
      have l2 := dpAll_len db
      refine ⟨_, rfl, rfl, _, rfl, iteF ⟨_, rfl, rfl, _, rfl, iteF ?_⟩⟩
      refine ⟨_, rfl, .inl ⟨_, _, _, false, rfl, sqt_ty sb, by decide +kernel, _, rfl, iteF ?_⟩⟩
      refine ⟨_, rfl, by decide, fun t nt => .inr ⟨_, _, ["list", "tuple"], "tuple", true, rfl, upd_same, sqt_ty (same_tup (grow nt) sb), by decide +kernel, _, rfl, iteT ?_⟩⟩
      have sa := same_tup (grow (o := .tup (["list", "tuple"].map V.ty)) nt) sa
      have sb := same_tup (grow (o := .tup (["list", "tuple"].map V.ty)) nt) sb
      have da := dpAll_mono (grow (o := .tup (["list", "tuple"].map V.ty)) nt) ds da
      have db := dpAll_mono (grow (o := .tup (["list", "tuple"].map V.ty)) nt) ds db
      refine ⟨_, rfl, .inl ⟨_, _, _, false, rfl, sqt_ty sa, by decide +kernel, ⟨_, rfl, .inl ⟨_, _, _, false, rfl, sqt_ty sb, by decide +kernel, .inl ⟨rfl, _, rfl, iteF ?_⟩⟩⟩⟩⟩
      refine ⟨_, rfl, .inl ⟨_, _, _, true, rfl, sqt_ty sa, by decide +kernel, ⟨_, rfl, .inl ⟨_, _, _, true, rfl, sqt_ty sb, by decide +kernel, .inl ⟨rfl, _, rfl, iteF ?_⟩⟩⟩⟩⟩
      refine ⟨_, rfl, .inl ⟨_, _, rfl, .inr sa, ⟨_, rfl, .inl ⟨_, _, rfl, .inr sb, .inl ⟨rfl, _, rfl, ?_⟩⟩⟩⟩⟩
      rw [decide_eq_true (show V.int xs.length = V.int ys.length by rw [l1, l2])]
      refine iteT ⟨_, rfl, _, rfl, _, _, xs, ys, rfl, .inr ⟨sa, sb, fun D hD => ?_⟩⟩
      refine lc_map (walk_zipT (n := ds.length) (by omega)) (fun _ => .bl true) grow_pair hl hD (fun H1 e => ⟨same_tup e sa, same_tup e sb⟩) ?_ ?_
      · rintro i x H1 H2 hi e ⟨T, x1, x2, rfl, nT, rfl, g1, g2⟩ R k
        obtain ⟨d1, h1, p1⟩ := dpAll_get da g1
        obtain ⟨d2, h2, p2⟩ := dpAll_get db g2
        have ed : d2 = d1 := Option.some.inj (h2.symm.trans h1)
        subst ed
        have e2 := e.trans (grow (o := .tup [x1, x2]) nT)
        exact ⟨T, [x1, x2], rfl, SqT.of upd_same, rfl, x1, [x2], rfl, x2, [], rfl, rfl, rfl, _, rfl, _, rfl, _, _, rfl, d2, lk_item lks h1, dp_mono e2 _ p1, dp_mono e2 _ p2, k⟩
      · intro H1 e hd
        refine ⟨D, (List.range ds.length).map fun _ => true, rfl, SqL.of (by rw [hd, List.map_map]; rfl), ?_⟩
        rw [all_true]
        exact q _ ((grow nt).trans e)
theorem c__law_same (T : Top K mg C_Shape C_Plan C_Links C_PlanTaken C_PlanRefused A_plan_of) : Cal P w K mg base 8 "_law_same" (spSame K 7) [] := c__law_same_n T 7

end
end Fb

set_option Elab.async false
set_option linter.all false
set_option maxRecDepth 100000
set_option maxHeartbeats 4000000
namespace Fb
open PySem PySem.Spec L2
open PyProof.Rows hiding St
open C8 (Cal Met Mak Def cal0 met0 mak0 pe_c pe_mk pe_mt pe_mt0 fnScope fnBody fnArgs pss_cut tCut)
local macro_rules | `(tactic| walk_at "hp") => `(tactic| first | exact upd_same | assumption | (refine grow (by assumption) _ _ ?_; walk_at "hp") | (refine (show Same _ _ by assumption) _ _ ?_; walk_at "hp"))
local macro_rules | `(tactic| walk_at "sm") => `(tactic| first | exact Same.refl _ | assumption | (refine Same.trans ?_ (grow (by assumption)); walk_at "sm") | (refine Same.trans ?_ (show Same _ _ by assumption); walk_at "sm"))
section
variable {P : Program} {w : World} {K : PySem.W.Frag} {mg : Str → Option Value} {base : Heap}
variable {C_Shape C_Plan C_Links C_PlanTaken C_PlanRefused A_plan_of : Addr}
/-! ### _law_closed -/
def spClosed (K : PySem.W.Frag) : Sp := sp2 fun a b H Q => ∃ (O L : Addr) (order : List Str) (ls : List V) (low E : List Tw), a = .ref O ∧ b = .ref L ∧ H O = some (.lst (order.map V.str)) ∧ H L = some (.lst ls) ∧ TwsV H ls low ∧ Nms order ∧ order.Nodup ∧ order.length ≤ 1000 ∧ (∀ q, q ∈ low ↔ LowP E order q) ∧ Then H Q (.bl true)
theorem c__law_closed (T : Top K mg C_Shape C_Plan C_Links C_PlanTaken C_PlanRefused A_plan_of) : Cal P w K mg base 1 "_law_closed" (spClosed K) [] := by
  obtain ⟨f, fd, F, df⟩ := T.d__law_closed
  refine cal_of F df (fn2 F sc__law_closed fun cdv A outer s H a b Q E hr h => ?_) fun _ _ _ _ _ _ us hl => match us, hl with | [_, _], _ => rfl
  have nd := sc__law_closed.nd
  obtain ⟨O, L, order, ls, low, Es, rfl, rfl, hO, hL, hls, nm, ndo, lo, ml, k⟩ := h
  refine ⟨_, (pss_cons 
      (ps_for PassesOwn.never rfl (pi_K (K := K) rfl (pv 1)) (tup_K (K := K) (n := 2) rfl rfl (pgs_cons (pg_name (i := 2) nd rfl (Or.inl rfl)) (pgs_cons (pg_name (i := 3) nd rfl (Or.inl rfl)) pgs_nil))) (pss_one 
      (ps_for PassesOwn.never rfl (pi_K (K := K) rfl (pv 1)) (tup_K (K := K) (n := 2) rfl rfl (pgs_cons (pg_name (i := 4) nd rfl (Or.inl rfl)) (pgs_cons (pg_name (i := 5) nd rfl (Or.inl rfl)) pgs_nil))) (pss_cons 
      (ps_set (i := 6) nd rfl (Or.inl rfl) (pe_cmpR (lt_K (K := K) rfl hr) (pe_bm PySem.F.plainAttrs_list PySem.F.slot_list_index PySem.F.type_list_index (ix_D (K := K) rfl (room_65 hr)) (pv 0) (pa_cons (pv 3) pa_nil)) (pe_callB (call_min2 rfl) (by rfl) T.min (by decide +kernel) (pa_cons (pe_bm PySem.F.plainAttrs_list PySem.F.slot_list_index PySem.F.type_list_index (ix_D (K := K) rfl (room_65 hr)) (pv 0) (pa_cons (pv 2) pa_nil)) (pa_cons (pe_bm PySem.F.plainAttrs_list PySem.F.slot_list_index PySem.F.type_list_index (ix_D (K := K) rfl (room_65 hr)) (pv 0) (pa_cons (pv 5) pa_nil)) pa_nil))) (nomark _))) (pss_one 
      (ps_if (PW.pt (pw_and (pt_cmpR (eq_K (K := K) rfl hr) (pv 3) (pv 4) (nomark _)) (pw_and (pt_cmpR (ne_K (K := K) rfl hr) (pv 2) (pv 5) (nomark _)) (pw_and (pt_val (pv 6)) (pw_and1 (pt_cmpR (notInD_K (K := K) rfl (room_65 hr)) (pe_tup (pa_cons (pv 2) (pa_cons (pv 5) pa_nil))) (pv 1) (by with_unfolding_all rfl))))))) (pss_one 
      (ps_ret pe_bl)) pss_nil)))))) (pss_one 
      (ps_ret pe_bl))), ?_⟩
  have nml : NmT low := fun q m => ⟨nm _ ((ml q).mp m).1, nm _ ((ml q).mp m).2.1⟩
  refine ⟨_, rfl, .inl ⟨L, rfl, ⟨_, SqL.of hL⟩, ?_⟩⟩
  refine for_it (walk_list (xs := ls)) (fun i σ G => Same H G ∧ ∃ y2 y3 y4 y5 y6, σ = [some (.ref O), some (.ref L), y2, y3, y4, y5, y6])
    ⟨Same.refl _, _, _, _, _, _, rfl⟩ (fun i σ G _ ⟨e, _⟩ => SqL.of (e _ _ hL)) ?_ ?_
  · rintro i v σ G1 G2 hi ⟨e, y2, y3, y4, y5, y6, rfl⟩ ⟨rfl, g⟩
    obtain ⟨q, gq, t, rfl, ht⟩ := hls.get g
    have mq := (ml q).mp (List.mem_of_getElem? gq)
    refine ⟨t, _, rfl, SqT.of (e _ _ ht), rfl, _, _, rfl, _, _, rfl, rfl, ?_⟩
    refine ⟨_, rfl, .inl ⟨L, rfl, ⟨_, SqL.of (e _ _ hL)⟩, ?_⟩⟩
    refine for_it (walk_list (xs := ls)) (fun j σ G => Same H G ∧ ∃ y4 y5 y6, σ = [some (.ref O), some (.ref L), some (.str q.1), some (.str q.2), y4, y5, y6])
      ⟨e, _, _, _, rfl⟩ (fun j σ G _ ⟨e, _⟩ => SqL.of (e _ _ hL)) ?_ ?_
    · clear e
      rintro j v σ G3 G4 hj ⟨e, y4, y5, y6, rfl⟩ ⟨rfl, g2⟩
      obtain ⟨r, gr, t2, rfl, ht2⟩ := hls.get g2
      have mr := (ml r).mp (List.mem_of_getElem? gr)
      have hO4 := e _ _ hO
      refine ⟨t2, _, rfl, SqT.of (e _ _ ht2), rfl, _, _, rfl, _, _, rfl, rfl, ?_⟩
      -- lower
      refine ⟨_, rfl, .inl ⟨rfl, _, SqL.of hO4⟩, _, rfl, ?_⟩
      dsimp only [tNil]
      refine ix_st nm (SqL.of hO4) mq.2.1 ?_
      refine ⟨_, rfl, .inl ⟨rfl, _, SqL.of hO4⟩, _, rfl, ?_⟩
      dsimp only [tNil]
      refine ix_st nm (SqL.of hO4) mq.1 ?_
      refine ⟨_, rfl, .inl ⟨rfl, _, SqL.of hO4⟩, _, rfl, ?_⟩
      dsimp only [tNil]
      refine ix_st nm (SqL.of hO4) mr.2.1 ?_
      refine ⟨_, _, rfl, .inl ⟨_, _, rfl, rfl, ?_⟩⟩
      -- if
      refine ⟨_, rfl, _, rfl, .inl ⟨rfl, _, rfl, ite2 (fun c1 => ?_) (fun _ => ⟨e, _, _, _, rfl⟩)⟩⟩
      have c1 : q.2 = r.1 := by simpa using c1
      refine ⟨_, rfl, _, rfl, .inl ⟨rfl, _, rfl, ite2 (fun c2 => ?_) (fun _ => ⟨e, _, _, _, rfl⟩)⟩⟩
      have c2 : q.1 ≠ r.2 := by simpa using c2
      refine ⟨_, rfl, _, rfl, ite2 (fun c3 => ?_) (fun _ => ⟨e, _, _, _, rfl⟩)⟩
      have c3 := of_decide_eq_true c3
      have lj : (q.1, r.2) ∈ low := (ml _).mpr (LowP.join (m := q.2) ndo mq (by rw [c1]; exact mr) c2 (by split at c3 <;> omega) (by split at c3 <;> omega))
      refine ⟨_, rfl, _, rfl, Nat.le_of_ble_eq_true rfl, fun t nt => ?_⟩
      have e5 := e.trans (grow (o := .tup [.str q.1, .str r.2]) nt)
      refine ⟨_, rfl, notIn_pairs (SqL.of (e5 _ _ hL)) (hls.kp (Same.kpt e5)) upd_same nml lj ⟨_, rfl, iteF ⟨e5, _, _, _, rfl⟩⟩⟩
    · rintro σ G3 ⟨e, y4, y5, y6, rfl⟩
      exact ⟨e, _, _, _, _, _, rfl⟩
  · rintro σ G ⟨e, y2, y3, y4, y5, y6, rfl⟩
    exact k _ e

end
end Fb

set_option Elab.async false
set_option linter.all false
set_option maxRecDepth 100000
set_option maxHeartbeats 4000000
namespace Fb
open PySem PySem.Spec L2
open PyProof.Rows hiding St
open C8 (Cal Met Mak Def cal0 met0 mak0 pe_c pe_mk pe_mt pe_mt0 fnScope fnBody fnArgs pss_cut tCut)
local macro_rules | `(tactic| walk_at "hp") => `(tactic| first | exact upd_same | assumption | (refine grow (by assumption) _ _ ?_; walk_at "hp") | (refine (show Same _ _ by assumption) _ _ ?_; walk_at "hp"))
local macro_rules | `(tactic| walk_at "sm") => `(tactic| first | exact Same.refl _ | assumption | (refine Same.trans ?_ (grow (by assumption)); walk_at "sm") | (refine Same.trans ?_ (show Same _ _ by assumption); walk_at "sm"))
section
variable {P : Program} {w : World} {K : PySem.W.Frag} {mg : Str → Option Value} {base : Heap}
variable {C_Shape C_Plan C_Links C_PlanTaken C_PlanRefused A_plan_of : Addr}
/-! ### Plan.__len__ -/
def spPlLen (C : Addr) : Sp := sp1 fun a H Q => ∃ (x : Addr) (order : List Str) (ps : List Tw), a = .ref x ∧ PlanAt C H x order ps ∧ Q (.int (ps.length : Nat)) H
theorem c_Plan___len__ (T : Top K mg C_Shape C_Plan C_Links C_PlanTaken C_PlanRefused A_plan_of) : Met P w K mg base 1 C_Plan "__len__" (spPlLen C_Plan) [] := by
  obtain ⟨f, fd, me, F, df⟩ := T.d_Plan___len__
  refine ⟨f, fd, ["self"], [], T.cl_Plan, me, ?_, F.binds df fun _ _ _ _ _ _ us hl => match us, hl with | [_], _ => rfl, .nil⟩
  refine fm1 F sc_Plan___len__ fun cdv A outer s H a Q E hr h => ?_
  have nd := sc_Plan___len__.nd
  obtain ⟨x, order, ps, rfl, ⟨dx, R, Tt, h1, h2, h3⟩, k⟩ := h
  refine ⟨_, (pss_one 
      (ps_ret (pe_callB call_len_dT (by rfl) T.len (by decide +kernel) (pa_cons (pe_fld (pv 0) rfl) pa_nil)))), ?_⟩
  refine ⟨_, rfl, x, C_Plan, dx, _, _, rfl, h1, T.cl_Plan, T.na_Plan__pairs, plF_p, Tt, _, rfl, h3, ?_⟩
  rw [pairD_len]
  exact k

end
end Fb

set_option Elab.async false
set_option linter.all false
set_option maxRecDepth 100000
set_option maxHeartbeats 4000000
namespace Fb
open PySem PySem.Spec L2
open PyProof.Rows hiding St
open C8 (Cal Met Mak Def cal0 met0 mak0 pe_c pe_mk pe_mt pe_mt0 fnScope fnBody fnArgs pss_cut tCut)
local macro_rules | `(tactic| walk_at "hp") => `(tactic| first | exact upd_same | assumption | (refine grow (by assumption) _ _ ?_; walk_at "hp") | (refine (show Same _ _ by assumption) _ _ ?_; walk_at "hp"))
local macro_rules | `(tactic| walk_at "sm") => `(tactic| first | exact Same.refl _ | assumption | (refine Same.trans ?_ (grow (by assumption)); walk_at "sm") | (refine Same.trans ?_ (show Same _ _ by assumption); walk_at "sm"))
section
variable {P : Program} {w : World} {K : PySem.W.Frag} {mg : Str → Option Value} {base : Heap}
variable {C_Shape C_Plan C_Links C_PlanTaken C_PlanRefused A_plan_of : Addr}
/-! ### Plan.order -/
def spPlOrder (C : Addr) : Sp := sp1 fun a H Q => ∃ (x : Addr) (order : List Str) (ps : List Tw), a = .ref x ∧ PlanAt C H x order ps ∧ ∀ p, H p = none → Q (.ref p) (upd H p (.lst (order.map V.str)))
theorem c_Plan_order (T : Top K mg C_Shape C_Plan C_Links C_PlanTaken C_PlanRefused A_plan_of) : Met P w K mg base 1 C_Plan "order" (spPlOrder C_Plan) [] := by
  obtain ⟨f, fd, me, F, df⟩ := T.d_Plan_order
  refine ⟨f, fd, ["self"], [], T.cl_Plan, me, ?_, F.binds df fun _ _ _ _ _ _ us hl => match us, hl with | [_], _ => rfl, .nil⟩
  refine fm1 F sc_Plan_order fun cdv A outer s H a Q E hr h => ?_
  have nd := sc_Plan_order.nd
  obtain ⟨x, order, ps, rfl, ⟨dx, R, Tt, h1, h2, h3⟩, k⟩ := h
  refine ⟨_, (pss_one 
      (ps_ret (pe_callTy (call_list_dK rfl) (by rfl) T.list (by decide +kernel) (pa_cons (pe_fld (pv 0) rfl) pa_nil)))), ?_⟩
  refine ⟨_, rfl, x, C_Plan, dx, _, _, rfl, h1, T.cl_Plan, T.na_Plan__ranks, plF_r, R, _, rfl, h2, fun q nq => ?_⟩
  rw [keys_nm (rankD_keys order)]
  exact k q nq

end
end Fb

set_option Elab.async false
set_option linter.all false
set_option maxRecDepth 100000
set_option maxHeartbeats 4000000
namespace Fb
open PySem PySem.Spec L2
open PyProof.Rows hiding St
open C8 (Cal Met Mak Def cal0 met0 mak0 pe_c pe_mk pe_mt pe_mt0 fnScope fnBody fnArgs pss_cut tCut)
local macro_rules | `(tactic| walk_at "hp") => `(tactic| first | exact upd_same | assumption | (refine grow (by assumption) _ _ ?_; walk_at "hp") | (refine (show Same _ _ by assumption) _ _ ?_; walk_at "hp"))
local macro_rules | `(tactic| walk_at "sm") => `(tactic| first | exact Same.refl _ | assumption | (refine Same.trans ?_ (grow (by assumption)); walk_at "sm") | (refine Same.trans ?_ (show Same _ _ by assumption); walk_at "sm"))
section
variable {P : Program} {w : World} {K : PySem.W.Frag} {mg : Str → Option Value} {base : Heap}
variable {C_Shape C_Plan C_Links C_PlanTaken C_PlanRefused A_plan_of : Addr}
/-! ### check_roads -/
def spCkRoads (CS C : Addr) : Sp := sp2 fun a b H Q => ∃ (x L : Addr) (ws order : List Str) (ps qs : List Tw), a = .ref x ∧ b = .ref L ∧ ShapeAt CS H x ws ps ∧ PlanAt C H L order qs ∧ order.Nodup ∧ (∀ r, r ∈ order ↔ r ∈ ws) ∧ order.length ≤ 1000 ∧ ws.length ≤ 1000 ∧ Then H Q .non
theorem c_check_roads (T : Top K mg C_Shape C_Plan C_Links C_PlanTaken C_PlanRefused A_plan_of) : Cal P w K mg base 2 "check_roads" (spCkRoads C_Shape C_Plan) [] := by
  obtain ⟨f, fd, F, df⟩ := T.d_check_roads
  refine cal_of F df (fn2 F sc_check_roads fun cdv A outer s H a b Q E hr h => ?_) fun _ _ _ _ _ _ us hl => match us, hl with | [_, _], _ => rfl
  have nd := sc_check_roads.nd
  obtain ⟨x, L, ws, order, ps, qs, rfl, rfl, hx, hL, ndo, mo, lo, lw, k⟩ := h
  refine ⟨_, (pss_cons 
      (ps_set (i := 2) nd rfl (Or.inl rfl) (pe_mt0 (c_Plan_order T) hr (by decide) (pv 1))) (pss_cut 
      (ps_set (i := 3) nd rfl (Or.inr rfl) (pe_dc (own := [("road", 5)]) rfl nd (pi_K (K := K) rfl (pv 2)) (blkOk_by (N := ["shape", "plan", "order", "known", "lone", "road"]) (sc := fnScope s_check_roads) (by decide +kernel)) (fun _ _ _ _ _ => (pg_name (i := 5) nd rfl (Or.inl rfl))) (fun _ _ _ _ _ => pts_nil) (fun _ _ _ _ _ => (pv 5)) (fun _ _ _ _ _ => pe_bl))) (pss_cut 
      (ps_set (i := 4) nd rfl (Or.inl rfl) (pe_op op_addU (pe_lc (own := [("road", 5)]) rfl nd (pi_K (K := K) rfl (pe_mt0 (c_Shape_roads T) hr (by decide) (pv 0))) (blkOk_by (N := ["shape", "plan", "order", "known", "lone", "road"]) (sc := fnScope s_check_roads) (by decide +kernel)) (fun _ _ _ _ _ => (pg_name (i := 5) nd rfl (Or.inl rfl))) (fun _ _ _ _ _ => (pts_one (pt_cmp (pc_dnotin (hu_of hr) (pv 5) (pv 3)) (by with_unfolding_all rfl)))) (fun _ _ _ _ _ => (pv 5))) (pe_lc (own := [("road", 5)]) rfl nd (pi_K (K := K) rfl (pv 2)) (blkOk_by (N := ["shape", "plan", "order", "known", "lone", "road"]) (sc := fnScope s_check_roads) (by decide +kernel)) (fun _ _ _ _ _ => (pg_name (i := 5) nd rfl (Or.inl rfl))) (fun _ _ _ _ _ => (pts_one (pt_cmpR (op_notInOwn (c_Shape___contains__ T) hr (by decide)) (pv 5) (pv 0) (by with_unfolding_all rfl)))) (fun _ _ _ _ _ => (pv 5))))) (pss_one 
      (ps_if (pt_truth (pv 4) (fun _ => rfl)) (pss_one 
      ps_never) pss_nil))))), ?_⟩
  obtain ⟨dxl, Rl, Tl, hL1, _⟩ := id hL
  refine ⟨_, rfl, L, dxl, _, rfl, hL1, plF_no (by decide +kernel) (by decide +kernel), ?_⟩
  refine ⟨_, rfl, L, order, qs, rfl, hL, fun O nO => ?_⟩
  have e1 := grow (o := .lst (order.map V.str)) nO
  have hO : (upd H O (.lst (order.map V.str))) O = _ := upd_same
  generalize upd H O (.lst (order.map V.str)) = H1 at e1 hO ⊢
  -- known
  refine ⟨fun σ G => Same H1 G ∧ ∃ D : Addr, G D = some (.dK (setD order)) ∧ σ = [some (.ref x), some (.ref L), some (.ref O), some (.ref D), none, none], ?_, ?_⟩
  · refine ⟨_, rfl, .inl ⟨O, rfl, ⟨_, SqL.of hO⟩, fun D nD => ?_⟩⟩
    refine dc_it (walk_list (xs := order.map V.str)) (fun i G => Same H1 G ∧ G D = some (.dK (setD (order.take i)))) ⟨grow nD, upd_same⟩ (fun i G _ ⟨e, _⟩ => SqL.of (e _ _ hO)) ?_ ?_
    · rintro i v G1 G2 hi ⟨e, hD⟩ ⟨rfl, g⟩
      obtain ⟨z, gz, rfl⟩ := st_get g
      have nz := nd_take ndo gz
      refine ⟨rfl, _, rfl, _, Sum.inr z, rfl, hD, size5 (by rw [setD_len, List.length_take]; omega), same_mut e nD, ?_⟩
      rw [upd_same, take_snoc gz]
      exact congrArg (fun q => some (HO.dK q)) (setD_put nz)
    · rintro G ⟨e, hD⟩
      rw [List.length_map, List.take_length] at hD
      exact ⟨e, D, hD, rfl⟩
  rintro σ G ⟨e2, D, hD, rfl⟩
  have hx2 := (hx.mono e1).mono e2
  -- lone
  refine ⟨fun σ G' => Same G G' ∧ ∃ E : Addr, G' E = some (.lst []) ∧ σ = [some (.ref x), some (.ref L), some (.ref O), some (.ref D), some (.ref E), none], ?_, ?_⟩
  · obtain ⟨dxs, Fs, Ts, Ls, hXi⟩ := hx2.ins
    refine ⟨_, rfl, x, dxs, _, rfl, hXi, shF_no (by decide +kernel) (by decide +kernel) (by decide +kernel), ?_⟩
    refine ⟨_, rfl, x, ws, ps, rfl, hx2, fun p np => .inl ⟨p, rfl, ⟨_, SqL.of upd_same⟩, fun E1 nE1 => ?_⟩⟩
    have e3 := grow (o := .lst (ws.map V.str)) np
    have hp : (upd G p (.lst (ws.map V.str))) p = _ := upd_same
    generalize upd G p (.lst (ws.map V.str)) = G1 at e3 hp nE1 ⊢
    refine lc_it (walk_list (xs := ws.map V.str)) (fun i G' => Same G1 G' ∧ G' E1 = some (.lst [])) ⟨grow nE1, upd_same⟩ (fun i G' _ ⟨e, _⟩ => SqL.of (e _ _ hp)) ?_ ?_
    · rintro i v G2 G3 hi ⟨e, hE⟩ ⟨rfl, g⟩
      obtain ⟨z, gz, rfl⟩ := st_get g
      refine ⟨rfl, _, rfl, _, rfl, D, _, rfl, DGet.k (k := Sum.inr z) (e _ _ (e3 _ _ hD)), _, rfl, ?_⟩
      rw [show (valV (setD order) (Sum.inr z)).isSome = true from (setD_some _ z).trans (decide_eq_true ((mo z).mpr (List.mem_of_getElem? gz)))]
      exact iteF ⟨e, hE⟩
    · rintro G2 ⟨e4, hE1⟩
      have e24 := e3.trans e4
      have hO2 := e24 _ _ (e2 _ _ hO)
      refine ⟨_, rfl, .inl ⟨O, rfl, ⟨_, SqL.of hO2⟩, fun E2 nE2 => ?_⟩⟩
      refine lc_it (walk_list (xs := order.map V.str)) (fun i G' => Same G2 G' ∧ G' E2 = some (.lst [])) ⟨grow nE2, upd_same⟩ (fun i G' _ ⟨e, _⟩ => SqL.of (e _ _ hO2)) ?_ ?_
      · rintro i v G3 G4 hi ⟨e, hE⟩ ⟨rfl, g⟩
        obtain ⟨z, gz, rfl⟩ := st_get g
        have hx4 := (hx2.mono e24).mono e
        obtain ⟨dxs, Fs, Ts, Ls, hXi⟩ := hx4.ins
        refine ⟨rfl, _, rfl, _, rfl, x, dxs, _, rfl, hXi, ?_⟩
        refine ⟨_, _, rfl, x, ws, ps, z, rfl, rfl, hx4, _, rfl, ?_⟩
        rw [decide_eq_true ((mo z).mp (List.mem_of_getElem? gz))]
        exact ⟨_, rfl, iteF ⟨e, hE⟩⟩
      · rintro G3 ⟨e5, hE2⟩
        refine .inr (.inr ⟨E1, E2, [], [], rfl, rfl, e5 _ _ hE1, hE2, Nat.zero_le _, fun E3 nE3 => ?_⟩)
        exact ⟨e24.trans (e5.trans (grow nE3)), E3, upd_same, rfl⟩
  rintro σ G1 ⟨e3, E1, hE, rfl⟩
  refine ⟨_, rfl, false, .inl ⟨[], SqL.of hE, rfl⟩, iteF ?_⟩
  exact k _ (e1.trans (e2.trans e3))

end
end Fb

set_option Elab.async false
set_option linter.all false
set_option maxRecDepth 100000
set_option maxHeartbeats 4000000
namespace Fb
open PySem PySem.Spec L2
open PyProof.Rows hiding St
open C8 (Cal Met Mak Def cal0 met0 mak0 pe_c pe_mk pe_mt pe_mt0 fnScope fnBody fnArgs pss_cut tCut)
local macro_rules | `(tactic| walk_at "hp") => `(tactic| first | exact upd_same | assumption | (refine grow (by assumption) _ _ ?_; walk_at "hp") | (refine (show Same _ _ by assumption) _ _ ?_; walk_at "hp"))
local macro_rules | `(tactic| walk_at "sm") => `(tactic| first | exact Same.refl _ | assumption | (refine Same.trans ?_ (grow (by assumption)); walk_at "sm") | (refine Same.trans ?_ (show Same _ _ by assumption); walk_at "sm"))
section
variable {P : Program} {w : World} {K : PySem.W.Frag} {mg : Str → Option Value} {base : Heap}
variable {C_Shape C_Plan C_Links C_PlanTaken C_PlanRefused A_plan_of : Addr}
/-! ### PlanRefused.__init__ -/
def spRefI (C : Addr) : Sp := sp4 fun a b c d H Q => ∃ (x dx : Addr) (s t : Str) (W : Addr), a = .ref x ∧ b = .str s ∧ c = .str t ∧ d = .ref W ∧ H x = some (.ins C dx []) ∧ ∀ H', (∀ c o, H c = some o → c ≠ x → H' c = some o) → RefAt C H' x s t W → Q .non H'
theorem c_PlanRefused___init__ (T : Top K mg C_Shape C_Plan C_Links C_PlanTaken C_PlanRefused A_plan_of) : Mak P w K mg base 1 "PlanRefused" C_PlanRefused (spRefI C_PlanRefused) [] := by
  obtain ⟨f, fd, me, F, df⟩ := T.d_PlanRefused___init__
  refine ⟨f, fd, ["self", "source", "target", "way"], [], me, ?_, T.g_PlanRefused, F.binds df fun _ _ _ _ _ _ us hl => match us, hl with | [_, _, _, _], _ => rfl, .nil⟩
  refine fm4 F sc_PlanRefused___init__ fun cdv A outer s H a b c d Q E hr h => ?_
  have nd := sc_PlanRefused___init__.nd
  obtain ⟨x, dx, s1, t, W, rfl, rfl, rfl, rfl, hx, k⟩ := h
  refine ⟨_, (pss_cons 
      (ps_fld (pv 0) pe_bl rfl) (pss_cons 
      (ps_fld (pv 0) (pv 1) rfl) (pss_cons 
      (ps_fld (pv 0) (pv 2) rfl) (pss_one 
      (ps_fld (pv 0) (pv 3) rfl))))), ?_⟩
  refine ⟨_, rfl, x, C_PlanRefused, dx, _, rfl, hx, T.cl_PlanRefused, T.na_PlanRefused_taken, (by show 0 < 1000; decide), ?_⟩
  refine ⟨_, rfl, _, rfl, x, C_PlanRefused, dx, _, rfl, upd_same, T.cl_PlanRefused, T.na_PlanRefused_source, (by show 1 < 1000; decide), ?_⟩
  refine ⟨_, rfl, _, rfl, x, C_PlanRefused, dx, _, rfl, upd_same, T.cl_PlanRefused, T.na_PlanRefused_target, (by show 2 < 1000; decide), ?_⟩
  refine ⟨_, rfl, _, rfl, x, C_PlanRefused, dx, _, rfl, upd_same, T.cl_PlanRefused, T.na_PlanRefused_way, (by show 3 < 1000; decide), ?_⟩
  refine k _ (fun c o h n => by rw [upd_ne n, upd_ne n, upd_ne n, upd_ne n]; exact h) ⟨dx, upd_same⟩

end
end Fb

set_option Elab.async false
set_option linter.all false
set_option maxRecDepth 100000
set_option maxHeartbeats 4000000
namespace Fb
open PySem PySem.Spec L2
open PyProof.Rows hiding St
open C8 (Cal Met Mak Def cal0 met0 mak0 pe_c pe_mk pe_mt pe_mt0 fnScope fnBody fnArgs pss_cut tCut)
local macro_rules | `(tactic| walk_at "hp") => `(tactic| first | exact upd_same | assumption | (refine grow (by assumption) _ _ ?_; walk_at "hp") | (refine (show Same _ _ by assumption) _ _ ?_; walk_at "hp"))
local macro_rules | `(tactic| walk_at "sm") => `(tactic| first | exact Same.refl _ | assumption | (refine Same.trans ?_ (grow (by assumption)); walk_at "sm") | (refine Same.trans ?_ (show Same _ _ by assumption); walk_at "sm"))
section
variable {P : Program} {w : World} {K : PySem.W.Frag} {mg : Str → Option Value} {base : Heap}
variable {C_Shape C_Plan C_Links C_PlanTaken C_PlanRefused A_plan_of : Addr}
/-! ### PlanTaken.__init__ -/
def spTakI (C : Addr) : Sp := sp3 fun a b c H Q => ∃ (x dx : Addr) (n m : Int), a = .ref x ∧ b = .int n ∧ c = .int m ∧ H x = some (.ins C dx []) ∧ ∀ H', (∀ c o, H c = some o → c ≠ x → H' c = some o) → TakAt C H' x n m → Q .non H'
theorem c_PlanTaken___init__ (T : Top K mg C_Shape C_Plan C_Links C_PlanTaken C_PlanRefused A_plan_of) : Mak P w K mg base 1 "PlanTaken" C_PlanTaken (spTakI C_PlanTaken) [] := by
  obtain ⟨f, fd, me, F, df⟩ := T.d_PlanTaken___init__
  refine ⟨f, fd, ["self", "needed", "spare"], [], me, ?_, T.g_PlanTaken, F.binds df fun _ _ _ _ _ _ us hl => match us, hl with | [_, _, _], _ => rfl, .nil⟩
  refine fm3 F sc_PlanTaken___init__ fun cdv A outer s H a b c Q E hr h => ?_
  have nd := sc_PlanTaken___init__.nd
  obtain ⟨x, dx, n, m, rfl, rfl, rfl, hx, k⟩ := h
  refine ⟨_, (pss_cons 
      (ps_fld (pv 0) pe_bl rfl) (pss_cons 
      (ps_fld (pv 0) (pv 1) rfl) (pss_one 
      (ps_fld (pv 0) (pv 2) rfl)))), ?_⟩
  refine ⟨_, rfl, x, C_PlanTaken, dx, _, rfl, hx, T.cl_PlanTaken, T.na_PlanTaken_taken, (by show 0 < 1000; decide), ?_⟩
  refine ⟨_, rfl, _, rfl, x, C_PlanTaken, dx, _, rfl, upd_same, T.cl_PlanTaken, T.na_PlanTaken_needed, (by show 1 < 1000; decide), ?_⟩
  refine ⟨_, rfl, _, rfl, x, C_PlanTaken, dx, _, rfl, upd_same, T.cl_PlanTaken, T.na_PlanTaken_spare, (by show 2 < 1000; decide), ?_⟩
  refine k _ (fun c o h n => by rw [upd_ne n, upd_ne n, upd_ne n]; exact h) ⟨dx, upd_same⟩

end
end Fb

set_option Elab.async false
set_option linter.all false
set_option maxRecDepth 100000
set_option maxHeartbeats 4000000
namespace Fb
open PySem PySem.Spec L2
open PyProof.Rows hiding St
open C8 (Cal Met Mak Def cal0 met0 mak0 pe_c pe_mk pe_mt pe_mt0 fnScope fnBody fnArgs pss_cut tCut)
local macro_rules | `(tactic| walk_at "hp") => `(tactic| first | exact upd_same | assumption | (refine grow (by assumption) _ _ ?_; walk_at "hp") | (refine (show Same _ _ by assumption) _ _ ?_; walk_at "hp"))
local macro_rules | `(tactic| walk_at "sm") => `(tactic| first | exact Same.refl _ | assumption | (refine Same.trans ?_ (grow (by assumption)); walk_at "sm") | (refine Same.trans ?_ (show Same _ _ by assumption); walk_at "sm"))
section
variable {P : Program} {w : World} {K : PySem.W.Frag} {mg : Str → Option Value} {base : Heap}
variable {C_Shape C_Plan C_Links C_PlanTaken C_PlanRefused A_plan_of : Addr}
/-! ### Shape.following -/
def spShFol (C : Addr) : Sp := sp2 fun a b H Q => ∃ (x : Addr) (ws : List Str) (ps : List Tw) (z : Str), a = .ref x ∧ b = .str z ∧ ShapeAt C H x ws ps ∧ z ∈ ws ∧ ∀ p, H p = none → Q (.ref p) (upd H p (.lst ((folT ps z).map V.str)))
theorem c_Shape_following (T : Top K mg C_Shape C_Plan C_Links C_PlanTaken C_PlanRefused A_plan_of) : Met P w K mg base 1 C_Shape "following" (spShFol C_Shape) [] := by
  obtain ⟨f, fd, me, F, df⟩ := T.d_Shape_following
  refine ⟨f, fd, ["self", "road"], [], T.cl_Shape, me, ?_, F.binds df fun _ _ _ _ _ _ us hl => match us, hl with | [_, _], _ => rfl, .nil⟩
  refine fm2 F sc_Shape_following fun cdv A outer s H a b Q E hr h => ?_
  have nd := sc_Shape_following.nd
  obtain ⟨x, ws, ps, z, rfl, rfl, ⟨dx, F, Tt, L, fvs, tvs, h1, h2, h3, h4, h5, f1, f2, ls⟩, mz, k⟩ := h
  refine ⟨_, (pss_one 
      (ps_ret (pe_callTy (listOf_K (K := K) rfl) (by rfl) T.list (by decide +kernel) (pa_cons (pe_dget (hu_of hr) (pe_fld (pv 0) rfl) (pv 1) (fun _ _ => rfl)) pa_nil)))), ?_⟩
  have efv := ls.fv
  subst efv
  refine ⟨_, rfl, x, C_Shape, dx, _, _, rfl, h1, T.cl_Shape, T.na_Shape__following, shF_f, _, rfl, F, _, rfl, dget_ref (.inl h2) mz, ?_⟩
  exact ⟨_, _, rfl, .inl (SqL.of (ls.h1 z mz)), fun p np => k p np⟩

end
end Fb

set_option Elab.async false
set_option linter.all false
set_option maxRecDepth 100000
set_option maxHeartbeats 4000000
namespace Fb
open PySem PySem.Spec L2
open PyProof.Rows hiding St
open C8 (Cal Met Mak Def cal0 met0 mak0 pe_c pe_mk pe_mt pe_mt0 fnScope fnBody fnArgs pss_cut tCut)
local macro_rules | `(tactic| walk_at "hp") => `(tactic| first | exact upd_same | assumption | (refine grow (by assumption) _ _ ?_; walk_at "hp") | (refine (show Same _ _ by assumption) _ _ ?_; walk_at "hp"))
local macro_rules | `(tactic| walk_at "sm") => `(tactic| first | exact Same.refl _ | assumption | (refine Same.trans ?_ (grow (by assumption)); walk_at "sm") | (refine Same.trans ?_ (show Same _ _ by assumption); walk_at "sm"))
section
variable {P : Program} {w : World} {K : PySem.W.Frag} {mg : Str → Option Value} {base : Heap}
variable {C_Shape C_Plan C_Links C_PlanTaken C_PlanRefused A_plan_of : Addr}
/-! ### stepped -/
def spStepped (K : PySem.W.Frag) (CS : Addr) : Sp := sp4 fun a b c d H Q => ∃ (x R Dc Da : Addr) (H0 : Hp) (ws : List Str) (ps : List Tw) (rs als : List Str) (cl : Cm) (src : Str), a = .ref x ∧ b = .ref R ∧ c = .ref Dc ∧ d = .ref Da ∧
  Same H0 H ∧ H0 Dc = none ∧ ShapeAt CS H0 x ws ps ∧ H0 Da = some (.dK (setD als)) ∧ H R = some (.lst (rs.map V.str)) ∧ H Dc = some (.dK (cmD cl)) ∧ CmI ps (fun z => z ∈ als) src cl ∧ (∀ z ∈ rs, z ∈ ws ∧ z ∈ cl.map Prod.fst) ∧ (∀ z ∈ cl.map Prod.fst, z ∈ ws) ∧ ws.length ≤ 1000 ∧ (∀ q ∈ ps, q.1 ∈ ws ∧ q.2 ∈ ws) ∧
  ∀ (H' : Hp) (D : Addr) (nw : Cm), Same H0 H' → H' D = some (.lst ((nw.map Prod.fst).map V.str)) → H' Dc = some (.dK (cmD (cl ++ nw))) → StI ps als src cl rs (fun p _ => p ∈ rs) nw → Q (.ref D) H'
theorem c_stepped (T : Top K mg C_Shape C_Plan C_Links C_PlanTaken C_PlanRefused A_plan_of) : Cal P w K mg base 2 "stepped" (spStepped K C_Shape) [] := by
  obtain ⟨f, fd, F, df⟩ := T.d_stepped
  refine cal_of F df (fn4 F sc_stepped fun cdv A outer s H a b c d Q E hr h => ?_) fun _ _ _ _ _ _ us hl => match us, hl with | [_, _, _, _], _ => rfl
  have nd := sc_stepped.nd
  obtain ⟨x, R, Dc, Da, H0, ws, ps, rs, als, cl, src, rfl, rfl, rfl, rfl, e0, nDc, hx, hDa, hR, hDc, I, hrs, hcl, lw, hE, k⟩ := h
  refine ⟨_, (pss_cons 
      (ps_set (i := 4) nd rfl (Or.inl rfl) (pe_lst pa_nil)) (pss_cons 
      (ps_for PassesOwn.never rfl (pi_K (K := K) rfl (pv 1)) (pg_name (i := 5) nd rfl (Or.inl rfl)) (pss_one 
      (ps_for PassesOwn.never rfl (pi_K (K := K) rfl (pe_mt (c_Shape_following T) hr (by decide) (pv 0) (pa_cons (pv 5) pa_nil))) (pg_name (i := 6) nd rfl (Or.inl rfl)) (pss_one 
      (ps_if (PW.pt (pw_and (pt_cmp (pc_dnotin (hu_of hr) (pv 6) (pv 2)) (by with_unfolding_all rfl)) (pw_and1 (pt_cmp (pc_din (hu_of hr) (pv 6) (pv 3)) (by with_unfolding_all rfl))))) (pss_cons 
      (ps_dput (hu_of hr) (pv 2) (pv 6) (pv 5) rfl) (pss_one 
      (ps_expr (pe_bm PySem.F.plainAttrs_list PySem.F.slot_list_append PySem.F.type_list_append mt_append (pv 4) (pa_cons (pv 6) pa_nil))))) pss_nil))))) (pss_one 
      (ps_ret (pv 4))))), ?_⟩
  have nRDc : R ≠ Dc := ne_of hR hDc fun z => nomatch z
  refine ⟨Nat.zero_le _, fun D nD => ?_⟩
  have nD0 : H0 D = none := e0.free nD
  have nDDc : Dc ≠ D := ne_of_none hDc nD
  have nRD : R ≠ D := ne_of_none hR nD
  have e1 : Same H0 (upd H D (.lst (([] : List Str).map V.str))) := e0.trans (grow nD)
  have hD1 : (upd H D (.lst (([] : List Str).map V.str))) D = _ := upd_same
  have hR1 : (upd H D (.lst (([] : List Str).map V.str))) R = _ := (upd_ne nRD).trans hR
  have hDc1 : (upd H D (.lst (([] : List Str).map V.str))) Dc = _ := (upd_ne nDDc).trans hDc
  have eH : (upd H D (.lst [])) = (upd H D (.lst (([] : List Str).map V.str))) := rfl
  rw [eH]
  generalize upd H D (.lst (([] : List Str).map V.str)) = H1 at e1 hD1 hR1 hDc1 ⊢
  have lcm : ∀ {nw : Cm}, CmI ps (fun z => z ∈ als) src (cl ++ nw) → (∀ z ∈ (cl ++ nw).map Prod.fst, z ∈ ws) → (cl ++ nw).length ≤ 1000 := fun I sub => by
    have := nd_le I.nd sub
    rw [List.length_map] at this
    omega
  have sub : ∀ {nw : Cm}, CmI ps (fun z => z ∈ als) src (cl ++ nw) → ∀ z ∈ (cl ++ nw).map Prod.fst, z ∈ ws := fun J z mz => by
    obtain ⟨q, mq, rfl⟩ := List.mem_map.mp mz
    rcases J.at (o := q.2) mq with ⟨_, h2, _⟩ | ⟨p, _, _, _, e, _⟩
    · rw [h2]
      exact hcl _ (List.mem_map.mpr ⟨_, List.mem_of_getElem? I.hd, rfl⟩)
    · exact (hE _ e).2
  refine ⟨_, rfl, .inl ⟨R, rfl, ⟨_, SqL.of hR1⟩, ?_⟩⟩
  refine for_it (walk_list (xs := rs.map V.str)) (fun i σ G => Same H0 G ∧ G R = some (.lst (rs.map V.str)) ∧ (∃ nw : Cm, G D = some (.lst ((nw.map Prod.fst).map V.str)) ∧ G Dc = some (.dK (cmD (cl ++ nw))) ∧ StI ps als src cl rs (fun p _ => p ∈ rs.take i) nw) ∧ ∃ y5 y6, σ = [some (.ref x), some (.ref R), some (.ref Dc), some (.ref Da), some (.ref D), y5, y6])
    ⟨e1, hR1, ⟨[], hD1, by rw [List.append_nil]; exact hDc1, ⟨by rw [List.append_nil]; exact I, fun p y m => (nomatch m)⟩⟩, _, _, rfl⟩ (fun i σ G _ ⟨_, h, _⟩ => SqL.of h) ?_ ?_
  · rintro i v σ G1 G2 hi ⟨e, hR2, ⟨nw, hD, hDc, S⟩, y5, y6, rfl⟩ ⟨rfl, g⟩
    obtain ⟨r, gr, rfl⟩ := st_get g
    obtain ⟨mrw, mrk⟩ := hrs r (List.mem_of_getElem? gr)
    have hx2 := hx.mono e
    obtain ⟨dxs, Fs, Ts, Ls, hXi⟩ := hx2.ins
    refine ⟨_, rfl, x, dxs, _, rfl, hXi, shF_no (by decide +kernel) (by decide +kernel) (by decide +kernel), ?_⟩
    refine ⟨_, rfl, _, _, rfl, x, ws, ps, r, rfl, rfl, hx2, mrw, fun F nF => .inl ⟨F, rfl, ⟨_, SqL.of upd_same⟩, ?_⟩⟩
    have e3 := e.trans (grow (o := .lst ((folT ps r).map V.str)) nF)
    have hF : (upd G2 F (.lst ((folT ps r).map V.str))) F = _ := upd_same
    have hR3 := (grow (o := .lst ((folT ps r).map V.str)) nF) _ _ hR2
    have hD3 := (grow (o := .lst ((folT ps r).map V.str)) nF) _ _ hD
    have hDc3 := (grow (o := .lst ((folT ps r).map V.str)) nF) _ _ hDc
    have nFD : F ≠ D := (ne_of_none hD nF).symm
    have nFDc : F ≠ Dc := (ne_of_none hDc nF).symm
    generalize upd G2 F (.lst ((folT ps r).map V.str)) = G3 at e3 hF hR3 hD3 hDc3 ⊢
    refine for_it (walk_list (xs := (folT ps r).map V.str)) (fun j σ G => Same H0 G ∧ G R = some (.lst (rs.map V.str)) ∧ G F = some (.lst ((folT ps r).map V.str)) ∧ (∃ nw : Cm, G D = some (.lst ((nw.map Prod.fst).map V.str)) ∧ G Dc = some (.dK (cmD (cl ++ nw))) ∧ StI ps als src cl rs (fun p y => p ∈ rs.take i ∨ (p = r ∧ y ∈ (folT ps r).take j)) nw) ∧ ∃ y6, σ = [some (.ref x), some (.ref R), some (.ref Dc), some (.ref Da), some (.ref D), some (.str r), y6])
      ⟨e3, hR3, hF, ⟨nw, hD3, hDc3, ⟨S.cm, fun p y h => h.elim (S.clo p y) fun h => (nomatch h.2)⟩⟩, _, rfl⟩ (fun i σ G _ ⟨_, _, h, _⟩ => SqL.of h) ?_ ?_
    · clear hD hDc S hD3 hDc3 hF hR3 e3 nw
      rintro j v σ G4 G5 hj ⟨e, hR, hF, ⟨nw, hD, hDc, S⟩, y6, rfl⟩ ⟨rfl, g2⟩
      obtain ⟨z, gz, rfl⟩ := st_get g2
      have mz : (r, z) ∈ ps := mem_folT.mp (List.mem_of_getElem? gz)
      have ts := take_snoc gz
      have hDa5 := e _ _ hDa
      have skip : ((z ∈ (cl ++ nw).map Prod.fst) ∨ z ∉ als) → StI ps als src cl rs (fun p y => p ∈ rs.take i ∨ (p = r ∧ y ∈ (folT ps r).take (j + 1))) nw := fun h => ⟨S.cm, fun p y c me ma => by
        rcases c with c | ⟨c1, c2⟩
        · exact S.clo p y (.inl c) me ma
        · rw [ts] at c2
          rcases List.mem_append.mp c2 with c2 | c2
          · exact S.clo p y (.inr ⟨c1, c2⟩) me ma
          · rw [List.mem_singleton.mp c2] at ma ⊢
            exact h.elim id fun n => absurd ma n⟩
      refine ⟨_, rfl, _, rfl, Dc, _, rfl, DGet.k (k := Sum.inr z) hDc, _, rfl, ?_⟩
      rw [cmD_some]
      by_cases c1 : z ∈ (cl ++ nw).map Prod.fst
      · rw [decide_eq_true c1]
        exact iteF ⟨e, hR, hF, ⟨nw, hD, hDc, skip (.inl c1)⟩, _, rfl⟩
      rw [decide_eq_false c1]
      refine iteT ⟨_, rfl, _, rfl, Da, _, rfl, DGet.k (k := Sum.inr z) hDa5, _, rfl, ?_⟩
      rw [show (valV (setD als) (Sum.inr z)).isSome = decide (z ∈ als) from setD_some _ z]
      by_cases c2 : z ∈ als
      · rw [decide_eq_true c2]
        have lc := lcm S.cm (sub S.cm)
        refine iteT ⟨_, rfl, _, rfl, _, rfl, Dc, _, rfl, DPut.k (k := Sum.inr z) hDc (size5 (by rw [cmD_len]; omega)), ?_⟩
        rw [show putK (cmD (cl ++ nw)) (Sum.inr z) (.str r) = cmD (cl ++ nw ++ [(z, some r)]) from cmD_put c1]
        have hD6 : (upd G5 Dc (.dK (cmD (cl ++ nw ++ [(z, some r)])))) D = some (.lst ((nw.map Prod.fst).map V.str)) := (upd_ne nDDc.symm).trans hD
        have lnw : nw.length ≤ 1000 := by
          rw [List.length_append] at lc
          omega
        refine ⟨_, rfl, .inl ⟨rfl, _, SqL.of hD6⟩, _, rfl, D, _, _, rfl, rfl, hD6, size5 (by rw [List.length_map, List.length_map]; omega), ?_⟩
        refine ⟨same_mut (same_mut e nDc) nD0, ?_, ?_, ⟨nw ++ [(z, some r)], ?_, ?_, ⟨?_, fun p y c me ma => ?_⟩⟩, _, rfl⟩
        · rw [upd_ne nRD, upd_ne nRDc]
          exact hR
        · rw [upd_ne nFD, upd_ne nFDc]
          exact hF
        · rw [upd_same, List.map_append, List.map_append]
          rfl
        · rw [upd_ne nDDc, upd_same, List.append_assoc]
        · rw [← List.append_assoc]
          exact S.cm.more c1 (by rw [List.map_append]; exact List.mem_append_left _ mrk) mz c2
        · rw [← List.append_assoc, List.map_append, List.mem_append]
          rcases c with c | ⟨d1, d2⟩
          · exact .inl (S.clo p y (.inl c) me ma)
          · rw [ts] at d2
            rcases List.mem_append.mp d2 with d2 | d2
            · exact .inl (S.clo p y (.inr ⟨d1, d2⟩) me ma)
            · exact .inr d2
      · rw [decide_eq_false c2]
        exact iteF ⟨e, hR, hF, ⟨nw, hD, hDc, skip (.inr c2)⟩, _, rfl⟩
    · clear hD hDc S hD3 hDc3 hF hR3 e3 nw
      rintro σ G4 ⟨e, hR, hF, ⟨nw, hD, hDc, S⟩, y6, rfl⟩
      rw [List.length_map, List.take_length] at S
      refine ⟨e, hR, ⟨nw, hD, hDc, ⟨S.cm, fun p y c me ma => ?_⟩⟩, _, _, rfl⟩
      rw [take_snoc gr] at c
      rcases List.mem_append.mp c with c | c
      · exact S.clo p y (.inl c) me ma
      · have ep := List.mem_singleton.mp c
        exact S.clo p y (.inr ⟨ep, mem_folT.mpr (ep ▸ me)⟩) me ma
  · rintro σ G ⟨e, hR2, ⟨nw, hD, hDc, S⟩, y5, y6, rfl⟩
    rw [List.length_map, List.take_length] at S
    exact ⟨_, rfl, k G D nw e hD hDc S⟩

end
end Fb

set_option Elab.async false
set_option linter.all false
set_option maxRecDepth 100000
set_option maxHeartbeats 4000000
namespace Fb
open PySem PySem.Spec L2
open PyProof.Rows hiding St
open C8 (Cal Met Mak Def cal0 met0 mak0 pe_c pe_mk pe_mt pe_mt0 fnScope fnBody fnArgs pss_cut tCut)
local macro_rules | `(tactic| walk_at "hp") => `(tactic| first | exact upd_same | assumption | (refine grow (by assumption) _ _ ?_; walk_at "hp") | (refine (show Same _ _ by assumption) _ _ ?_; walk_at "hp"))
local macro_rules | `(tactic| walk_at "sm") => `(tactic| first | exact Same.refl _ | assumption | (refine Same.trans ?_ (grow (by assumption)); walk_at "sm") | (refine Same.trans ?_ (show Same _ _ by assumption); walk_at "sm"))
section
variable {P : Program} {w : World} {K : PySem.W.Frag} {mg : Str → Option Value} {base : Heap}
variable {C_Shape C_Plan C_Links C_PlanTaken C_PlanRefused A_plan_of : Addr}
/-! ### traced -/
def muO (cl : Cm) : Option Str → Nat
  | none => 0
  | some p => cmI cl p + 1
def spTraced (K : PySem.W.Frag) : Sp := sp2 fun a b H Q => ∃ (Dc : Addr) (t src : Str) (Es : List Tw) (al : Str → Prop) (cl : Cm), a = .ref Dc ∧ b = .str t ∧ H Dc = some (.dK (cmD cl)) ∧ CmI Es al src cl ∧ t ∈ cl.map Prod.fst ∧ cl.length ≤ 10000 ∧
  ∀ (H' : Hp) (T : Addr) (z : Str) (w : List Str), Same H H' → SqT K H' T ((z :: w).map V.str) → TrI Es al cl t z none w → Q (.ref T) H'
theorem c_traced (T : Top K mg C_Shape C_Plan C_Links C_PlanTaken C_PlanRefused A_plan_of) : Cal P w K mg base 1 "traced" (spTraced K) [] := by
  obtain ⟨f, fd, F, df⟩ := T.d_traced
  refine cal_of F df (fn2 F sc_traced fun cdv A outer s H a b Q E hr h => ?_) fun _ _ _ _ _ _ us hl => match us, hl with | [_, _], _ => rfl
  have nd := sc_traced.nd
  obtain ⟨Dc, t, src, Es, al, cl, rfl, rfl, hD, I, mt, lc, k⟩ := h
  refine ⟨_, (pss_cons 
      (ps_set (i := 2) nd rfl (Or.inl rfl) (pe_lst pa_nil)) (pss_cons 
      (ps_while PassesOwn.never (pt_cmpR op_notN (pv 1) pe_non (nomark _)) (pss_cons 
      (ps_expr (pe_bm PySem.F.plainAttrs_list PySem.F.slot_list_append PySem.F.type_list_append mt_append (pv 2) (pa_cons (pv 1) pa_nil))) (pss_one 
      (ps_set (i := 1) nd rfl (Or.inl rfl) (pe_dget (hu_of hr) (pv 0) (pv 1) (fun _ _ => rfl)))))) (pss_one 
      (ps_ret (pe_callTy (tupleOf_K (K := K) rfl) (by rfl) T.tuple (by decide +kernel) (pa_cons (pe_revL (pv 2)) pa_nil)))))), ?_⟩
  have key : ∀ {p : Str}, p ∈ cl.map Prod.fst → ∃ o, (p, o) ∈ cl := fun m => by
    obtain ⟨q, mq, rfl⟩ := List.mem_map.mp m
    exact ⟨q.2, mq⟩
  have ilt : ∀ {p : Str}, p ∈ cl.map Prod.fst → cmI cl p < cl.length := fun m => by
    have := List.idxOf_lt_length_of_mem m
    rw [List.length_map] at this
    exact this
  refine ⟨Nat.zero_le _, fun L nL => ?_⟩
  refine ⟨fun m σ G => Same H G ∧ ∃ (w : List Str) (o : Option Str), G L = some (.lst (w.reverse.map V.str)) ∧ σ = [some (.ref Dc), some (cmV o), some (.ref L)] ∧ m = muO cl o ∧ w.length + m ≤ cl.length + 1 ∧ ((w = [] ∧ o = some t) ∨ ∃ z w', w = z :: w' ∧ TrI Es al cl t z o w'), ⟨_, grow nL, [], some t, upd_same, rfl, rfl, ?_, .inl ⟨rfl, rfl⟩⟩, ?_⟩
  · have := ilt mt
    show 0 + (cmI cl t + 1) ≤ _
    omega
  rintro m σ G ⟨e, w, o, hL, rfl, rfl, lw, st⟩
  cases o with
  | none =>
    refine ⟨_, rfl, rfl, _, rfl, iteF ?_⟩
    rcases st with ⟨_, q⟩ | ⟨z, w', rfl, tr⟩
    · cases q
    refine ⟨_, rfl, L, _, rfl, SqL.of hL, fun p np => ?_⟩
    have ew : ((z :: w').reverse.map V.str).reverse = (z :: w').map V.str := by rw [List.map_reverse, List.reverse_reverse]
    rw [ew]
    have e2 := e.trans (grow (o := .lst ((z :: w').map V.str)) np)
    refine ⟨p, _, rfl, .inl ⟨SqL.of upd_same, fun q nq => ?_⟩⟩
    exact k _ q z w' (e2.trans (grow nq)) (SqT.of upd_same) tr
  | some p =>
    refine ⟨_, rfl, rfl, _, rfl, iteT ?_⟩
    have mp : p ∈ cl.map Prod.fst := by
      rcases st with ⟨_, q⟩ | ⟨z, w', _, tr⟩
      · cases q
        exact mt
      · rcases I.at tr.at_ with ⟨q, _⟩ | ⟨p', q, a, _⟩
        · cases q
        · cases q
          exact a
    obtain ⟨o', mo⟩ := key mp
    have lt : muO cl o' < muO cl (some p) := by
      rcases I.at mo with ⟨rfl, _⟩ | ⟨q, rfl, _, a, _⟩
      · exact Nat.succ_pos _
      · exact Nat.succ_lt_succ a
    refine ⟨fun σ' G' => ∃ m', m' < muO cl (some p) ∧ Same H G' ∧ ∃ (w : List Str) (o : Option Str), G' L = some (.lst (w.reverse.map V.str)) ∧ σ' = [some (.ref Dc), some (cmV o), some (.ref L)] ∧ m' = muO cl o ∧ w.length + m' ≤ cl.length + 1 ∧ ((w = [] ∧ o = some t) ∨ ∃ z w', w = z :: w' ∧ TrI Es al cl t z o w'), fun _ _ h => h, ?_⟩
    refine ⟨_, rfl, .inl ⟨rfl, _, SqL.of hL⟩, _, rfl, L, _, _, rfl, rfl, hL, size5 ?_, ?_⟩
    · rw [List.length_map, List.length_reverse]
      omega
    have hD2 : (upd G L (.lst (w.reverse.map V.str ++ [V.str p]))) Dc = some (.dK (cmD cl)) := by
      rw [upd_ne (ne_of_none hD nL)]
      exact e _ _ hD
    refine ⟨_, rfl, _, rfl, Dc, _, rfl, .inl ⟨_, Sum.inr p, .inl hD2, rfl, (cmD_val I.nd mo).symm⟩, ?_⟩
    refine ⟨_, lt, same_mut e nL, p :: w, o', ?_, rfl, rfl, ?_, .inr ⟨p, w, rfl, ?_⟩⟩
    · rw [upd_same, List.reverse_cons, List.map_append]
      rfl
    · rw [List.length_cons]
      omega
    · rcases st with ⟨rfl, q⟩ | ⟨z, w', rfl, tr⟩
      · cases q
        exact TrI.start mo
      · exact tr.step I mo

end
end Fb

set_option Elab.async false
set_option linter.all false
set_option maxRecDepth 100000
set_option maxHeartbeats 4000000
namespace Fb
open PySem PySem.Spec L2
open PyProof.Rows hiding St
open C8 (Cal Met Mak Def cal0 met0 mak0 pe_c pe_mk pe_mt pe_mt0 fnScope fnBody fnArgs pss_cut tCut)
local macro_rules | `(tactic| walk_at "hp") => `(tactic| first | exact upd_same | assumption | (refine grow (by assumption) _ _ ?_; walk_at "hp") | (refine (show Same _ _ by assumption) _ _ ?_; walk_at "hp"))
local macro_rules | `(tactic| walk_at "sm") => `(tactic| first | exact Same.refl _ | assumption | (refine Same.trans ?_ (grow (by assumption)); walk_at "sm") | (refine Same.trans ?_ (show Same _ _ by assumption); walk_at "sm"))
section
variable {P : Program} {w : World} {K : PySem.W.Frag} {mg : Str → Option Value} {base : Heap}
variable {C_Shape C_Plan C_Links C_PlanTaken C_PlanRefused A_plan_of : Addr}
/-! ### way_by -/
def spWayBy (K : PySem.W.Frag) (CS : Addr) : Sp := sp4 fun a b c d H Q => ∃ (x Di : Addr) (s t : Str) (ws il : List Str) (ps : List Tw), a = .ref x ∧ b = .str s ∧ c = .str t ∧ d = .ref Di ∧ ShapeAt CS H x ws ps ∧ H Di = some (.dK (setD il)) ∧ il.Nodup ∧ t ∉ il ∧ il.length ≤ 1000 ∧ s ∈ ws ∧ t ∈ ws ∧ ws.length ≤ 1000 ∧ (∀ q ∈ ps, q.1 ∈ ws ∧ q.2 ∈ ws) ∧ Rch ps (fun z => z ∈ il) s t ∧
  ∀ (H' : Hp) (T : Addr) (w : List Str), Same H H' → SqT K H' T (w.map V.str) → LowWay ps (fun z => z ∈ il) s t w → Q (.ref T) H'
theorem c_way_by (T : Top K mg C_Shape C_Plan C_Links C_PlanTaken C_PlanRefused A_plan_of) : Cal P w K mg base 3 "way_by" (spWayBy K C_Shape) [] := by
  obtain ⟨f, fd, F, df⟩ := T.d_way_by
  refine cal_of F df (fn4 F sc_way_by fun cdv A outer s H a b c d Q E hr h => ?_) fun _ _ _ _ _ _ us hl => match us, hl with | [_, _, _, _], _ => rfl
  have nd := sc_way_by.nd
  obtain ⟨x, Di, s0, t, ws, il, ps, rfl, rfl, rfl, rfl, hx, hDi, ndi, nti, li, ms, mt, lw, hE, rch, k⟩ := h
  refine ⟨_, (pss_cut 
      (ps_setDc (i := 4) (own := [("road", 7)]) rfl nd rfl rfl (sw_trueD rfl rfl rfl (by decide +kernel)) (pi_K (K := K) rfl (pe_op op_addU (pe_callTy (call_list_dK rfl) (by rfl) T.list (by decide +kernel) (pa_cons (pv 3) pa_nil)) (pe_lst (pa_cons (pv 2) pa_nil)))) (blkOk_by (N := ["shape", "source", "target", "inner", "allowed", "came", "present", "road"]) (sc := fnScope s_way_by) (by decide +kernel)) (fun _ _ _ _ _ => (pg_name (i := 7) nd rfl (Or.inl rfl))) (fun _ _ _ _ _ => pts_nil) (fun _ _ _ _ _ => (pv 7)) (fun _ _ _ _ _ => pe_bl)) (pss_cons 
      (ps_set (i := 5) nd rfl (Or.inl rfl) (pe_disp (pps_cons (pv 1) pe_non pps_nil) (by rfl) (by rfl) (fun z => by cases z) (by decide))) (pss_cons 
      (ps_set (i := 6) nd rfl (Or.inl rfl) (pe_lst (pa_cons (pv 1) pa_nil))) (pss_cut 
      (ps_while PassesOwn.never (PW.pt (pw_and (pt_truth (pv 6) (fun _ => rfl)) (pw_and1 (pt_cmp (pc_dnotin (hu_of hr) (pv 2) (pv 5)) (by with_unfolding_all rfl))))) (pss_one 
      (ps_set (i := 6) nd rfl (Or.inl rfl) (pe_c (c_stepped T) hr (by decide) (by rfl) (pa_cons (pv 0) (pa_cons (pv 6) (pa_cons (pv 5) (pa_cons (pv 4) pa_nil)))))))) (pss_one 
      (ps_ret (pe_ifExp (pt_cmp (pc_din (hu_of hr) (pv 2) (pv 5)) (by with_unfolding_all rfl)) (pe_c (c_traced T) hr (by decide) (by rfl) (pa_cons (pv 5) (pa_cons (pv 2) pa_nil))) pe_non))))))), ?_⟩
  have nda : (il ++ [t]).Nodup := List.nodup_append.mpr ⟨ndi, nd1, fun a ma b mb e => by rw [List.mem_singleton.mp mb] at e; rw [e] at ma; exact nti ma⟩
  -- allowed
  refine ⟨fun σ G => Same H G ∧ ∃ Da : Addr, G Da = some (.dK (setD (il ++ [t]))) ∧ σ = [some (.ref x), some (.str s0), some (.str t), some (.ref Di), some (.ref Da), none, none, none], ?_, ?_⟩
  · refine ⟨_, rfl, Di, _, rfl, hDi, fun q nq => ?_⟩
    rw [keys_nm (setD_keys il)]
    refine ⟨_, rfl, Nat.le_of_ble_eq_true rfl, fun L nL => ?_⟩
    refine .inr (.inr ⟨q, L, il.map V.str, [.str t], rfl, rfl, (grow nL) _ _ upd_same, upd_same, size5' (by rw [List.length_map]; exact Nat.le_trans (Nat.add_le_add_right li 1) (by decide)), fun A nA => ?_⟩)
    have e1 := ((grow (o := .lst (il.map V.str)) nq).trans (grow (o := .lst [.str t]) nL)).trans (grow (o := .lst (il.map V.str ++ [.str t])) nA)
    have hA : (upd (upd (upd H q (.lst (il.map V.str))) L (.lst [.str t])) A (.lst (il.map V.str ++ [.str t]))) A = some (.lst ((il ++ [t]).map V.str)) := by rw [upd_same, List.map_append]; rfl
    generalize upd (upd (upd H q (.lst (il.map V.str))) L (.lst [.str t])) A (.lst (il.map V.str ++ [.str t])) = H1 at e1 hA ⊢
    refine .inl ⟨A, rfl, ⟨_, SqL.of hA⟩, fun D nD => ?_⟩
    refine dc_it (walk_list (xs := (il ++ [t]).map V.str)) (fun i G => Same H1 G ∧ G D = some (.dK (setD ((il ++ [t]).take i)))) ⟨grow nD, upd_same⟩ (fun i G _ ⟨e, _⟩ => SqL.of (e _ _ hA)) ?_ ?_
    · rintro i v G1 G2 hi ⟨e, hD⟩ ⟨rfl, g⟩
      obtain ⟨z, gz, rfl⟩ := st_get g
      have nz := nd_take nda gz
      refine ⟨rfl, _, rfl, _, Sum.inr z, rfl, hD, size5 (by rw [setD_len, List.length_take, List.length_append, List.length_singleton]; omega), same_mut e nD, ?_⟩
      rw [upd_same, take_snoc gz]
      exact congrArg (fun q => some (HO.dK q)) (setD_put nz)
    · rintro G ⟨e, hD⟩
      rw [List.length_map, List.take_length] at hD
      exact ⟨e1.trans e, D, hD, rfl⟩
  rintro σ H1 ⟨e1, Da, hDa, rfl⟩
  have hx1 := hx.mono e1
  have hal : ∀ y, y ∈ il ++ [t] → y = t ∨ y ∈ il := fun y m => by
    rcases List.mem_append.mp m with m | m
    · exact .inr m
    · exact .inl (List.mem_singleton.mp m)
  -- came
  refine fun Dc nDc => ⟨_, rfl, upd_same, [(nmK s0, .non)], rfl, Nat.le_of_ble_eq_true rfl, ?_⟩
  have e2 : Same H1 (upd (upd H1 Dc (.dK [])) Dc (.dK (mergeK [] [(nmK s0, .non)]))) := same_mut (grow nDc) nDc
  have hDc : (upd (upd H1 Dc (.dK [])) Dc (.dK (mergeK [] [(nmK s0, .non)]))) Dc = some (.dK (cmD [(s0, none)])) := upd_same
  generalize upd (upd H1 Dc (.dK [])) Dc (.dK (mergeK [] [(nmK s0, .non)])) = H2 at e2 hDc ⊢
  -- present
  refine ⟨_, rfl, Nat.le_of_ble_eq_true rfl, fun R0 nR0 => ?_⟩
  have e3 := e2.trans (grow (o := .lst [.str s0]) nR0)
  have hR0 : (upd H2 R0 (.lst [.str s0])) R0 = some (.lst ([s0].map V.str)) := upd_same
  have hDc3 := (grow (o := .lst [.str s0]) nR0) _ _ hDc
  generalize upd H2 R0 (.lst [.str s0]) = H3 at e3 hR0 hDc3 ⊢
  refine ⟨fun σ G => Same H1 G ∧ ∃ (R : Addr) (cl : Cm), G Dc = some (.dK (cmD cl)) ∧ CmI ps (fun z => z ∈ il ++ [t]) s0 cl ∧ (∀ z ∈ cl.map Prod.fst, z ∈ ws) ∧ t ∈ cl.map Prod.fst ∧ σ = [some (.ref x), some (.str s0), some (.str t), some (.ref Di), some (.ref Da), some (.ref Dc), some (.ref R), none], ?_, ?_⟩
  · refine ⟨fun m σ G => Same H1 G ∧ ∃ (R : Addr) (rs : List Str) (cl : Cm), G R = some (.lst (rs.map V.str)) ∧ G Dc = some (.dK (cmD cl)) ∧ σ = [some (.ref x), some (.str s0), some (.str t), some (.ref Di), some (.ref Da), some (.ref Dc), some (.ref R), none] ∧ CmI ps (fun z => z ∈ il ++ [t]) s0 cl ∧ (∀ z ∈ cl.map Prod.fst, z ∈ ws) ∧ (∀ z ∈ rs, z ∈ cl.map Prod.fst) ∧ (∀ z ∈ cl.map Prod.fst, z ∈ rs ∨ ∀ y, (z, y) ∈ ps → y ∈ il ++ [t] → y ∈ cl.map Prod.fst) ∧ m = (ws.length + 1 - cl.length) + (if rs = [] then 0 else 1), ⟨_, e3, R0, [s0], [(s0, none)], hR0, hDc3, rfl, CmI.start, fun z m => by rw [List.mem_singleton.mp m]; exact ms, fun z m => m, fun z m => .inl m, rfl⟩, ?_⟩
    rintro m σ G ⟨e, R, rs, cl, hR, hDc, rfl, I, sub, rsub, clo, rfl⟩
    have lcl : cl.length ≤ ws.length := by
      have := nd_le I.nd sub
      rw [List.length_map] at this
      exact this
    refine ⟨_, rfl, _, .inl ⟨_, SqL.of hR, rfl⟩, ite2 (fun c => ?_) (fun c => ?_)⟩
    · refine ⟨_, rfl, _, rfl, Dc, _, rfl, DGet.k (k := Sum.inr t) hDc, _, rfl, ?_⟩
      rw [cmD_some]
      by_cases c1 : t ∈ cl.map Prod.fst
      · rw [decide_eq_true c1]
        exact iteF ⟨e, R, cl, hDc, I, sub, c1, rfl⟩
      rw [decide_eq_false c1]
      refine iteT ⟨fun σ' G' => ∃ m', m' < (ws.length + 1 - cl.length) + (if rs = [] then 0 else 1) ∧ Same H1 G' ∧ ∃ (R : Addr) (rs : List Str) (cl : Cm), G' R = some (.lst (rs.map V.str)) ∧ G' Dc = some (.dK (cmD cl)) ∧ σ' = [some (.ref x), some (.str s0), some (.str t), some (.ref Di), some (.ref Da), some (.ref Dc), some (.ref R), none] ∧ CmI ps (fun z => z ∈ il ++ [t]) s0 cl ∧ (∀ z ∈ cl.map Prod.fst, z ∈ ws) ∧ (∀ z ∈ rs, z ∈ cl.map Prod.fst) ∧ (∀ z ∈ cl.map Prod.fst, z ∈ rs ∨ ∀ y, (z, y) ∈ ps → y ∈ il ++ [t] → y ∈ cl.map Prod.fst) ∧ m' = (ws.length + 1 - cl.length) + (if rs = [] then 0 else 1), fun _ _ h => h, ?_⟩
      refine ⟨_, rfl, _, rfl, _, rfl, _, rfl, _, _, _, _, rfl, x, R, Dc, Da, H1, ws, ps, rs, il ++ [t], cl, s0, rfl, rfl, rfl, rfl, e, nDc, hx1, hDa, hR, hDc, I, fun z mz => ⟨sub z (rsub z mz), rsub z mz⟩, sub, lw, hE, fun G' D nw e' hD hDc' S => ?_⟩
      have sub' : ∀ z ∈ (cl ++ nw).map Prod.fst, z ∈ ws := fun z mz => by
        obtain ⟨q, mq, rfl⟩ := List.mem_map.mp mz
        rcases S.cm.at (o := q.2) mq with ⟨_, h2, _⟩ | ⟨p, _, _, _, e, _⟩
        · rw [h2]
          exact ms
        · exact (hE _ e).2
      have lcl' : (cl ++ nw).length ≤ ws.length := by
        have := nd_le S.cm.nd sub'
        rw [List.length_map] at this
        exact this
      have rne : rs ≠ [] := fun q => by
        rw [q] at c
        cases c
      refine ⟨_, ?_, e', D, nw.map Prod.fst, cl ++ nw, hD, hDc', rfl, S.cm, sub', fun z mz => by rw [List.map_append]; exact List.mem_append_right _ mz, fun z mz => ?_, rfl⟩
      · rw [if_neg rne]
        cases nw with
        | nil =>
          rw [List.append_nil, if_pos (show List.map Prod.fst ([] : Cm) = [] from rfl)]
          exact Nat.lt_succ_self _
        | cons n0 nr =>
          rw [List.length_append, List.length_cons] at lcl' ⊢
          rw [if_neg (show List.map Prod.fst (n0 :: nr) ≠ [] from fun q => nomatch q)]
          omega
      · rw [List.map_append] at mz
        rcases List.mem_append.mp mz with mz | mz
        · right
          intro y me my
          rcases clo z mz with h | h
          · exact S.clo z y h me my
          · rw [List.map_append]
            exact List.mem_append_left _ (h y me my)
        · exact .inl mz
    · refine ⟨e, R, cl, hDc, I, sub, ?_, rfl⟩
      have rnil : rs = [] := by
        cases rs with
        | nil => rfl
        | cons _ _ => exact absurd rfl c
      refine clo_rch (P := fun z => z ∈ il) (List.mem_map.mpr ⟨_, List.mem_of_getElem? I.hd, rfl⟩) (fun z mz y me hy => ?_) rch
      rcases clo z mz with h | h
      · rw [rnil] at h
        cases h
      · exact h y me (by
          rcases hy with hy | hy
          · exact List.mem_append_left _ hy
          · exact List.mem_append_right _ (List.mem_singleton.mpr hy))
  · rintro σ G ⟨e, R, cl, hDc, I, sub, mt, rfl⟩
    have lcl : cl.length ≤ ws.length := by
      have := nd_le I.nd sub
      rw [List.length_map] at this
      exact this
    refine ⟨_, rfl, _, rfl, Dc, _, rfl, DGet.k (k := Sum.inr t) hDc, _, rfl, ?_⟩
    rw [cmD_some, decide_eq_true mt]
    refine iteT ⟨_, rfl, _, rfl, _, _, rfl, Dc, t, s0, ps, (fun z => z ∈ il ++ [t]), cl, rfl, rfl, hDc, I, mt, by omega, fun H' T z w e' hT tr => ?_⟩
    exact k H' T (z :: w) (e1.trans (e.trans e')) hT (tr.whole I hal)

end
end Fb

set_option Elab.async false
set_option linter.all false
set_option maxRecDepth 100000
set_option maxHeartbeats 4000000
namespace Fb
open PySem PySem.Spec L2
open PyProof.Rows hiding St
open C8 (Cal Met Mak Def cal0 met0 mak0 pe_c pe_mk pe_mt pe_mt0 fnScope fnBody fnArgs pss_cut tCut)
local macro_rules | `(tactic| walk_at "hp") => `(tactic| first | exact upd_same | assumption | (refine grow (by assumption) _ _ ?_; walk_at "hp") | (refine (show Same _ _ by assumption) _ _ ?_; walk_at "hp"))
local macro_rules | `(tactic| walk_at "sm") => `(tactic| first | exact Same.refl _ | assumption | (refine Same.trans ?_ (grow (by assumption)); walk_at "sm") | (refine Same.trans ?_ (show Same _ _ by assumption); walk_at "sm"))
section
variable {P : Program} {w : World} {K : PySem.W.Frag} {mg : Str → Option Value} {base : Heap}
variable {C_Shape C_Plan C_Links C_PlanTaken C_PlanRefused A_plan_of : Addr}
/-! ### Plan.is_lower -/
def spPlLower (C : Addr) : Sp := sp3 fun a b c H Q => ∃ (x : Addr) (z u : Str) (order : List Str) (ps : List Tw), a = .ref x ∧ b = .str z ∧ c = .str u ∧ PlanAt C H x order ps ∧ order.Nodup ∧ z ∈ order ∧ u ∈ order ∧ Q (.bl (decide (order.idxOf z < order.idxOf u))) H
theorem c_Plan_is_lower (T : Top K mg C_Shape C_Plan C_Links C_PlanTaken C_PlanRefused A_plan_of) : Met P w K mg base 1 C_Plan "is_lower" (spPlLower C_Plan) [] := by
  obtain ⟨f, fd, me, F, df⟩ := T.d_Plan_is_lower
  refine ⟨f, fd, ["self", "one", "other"], [], T.cl_Plan, me, ?_, F.binds df fun _ _ _ _ _ _ us hl => match us, hl with | [_, _, _], _ => rfl, .nil⟩
  refine fm3 F sc_Plan_is_lower fun cdv A outer s H a b c Q E hr h => ?_
  have nd := sc_Plan_is_lower.nd
  obtain ⟨x, z, u, order, ps, rfl, rfl, rfl, ⟨dx, R, Tt, h1, h2, h3⟩, ndo, mz, mu, k⟩ := h
  refine ⟨_, (pss_one 
      (ps_ret (pe_cmpR (lt_K (K := K) rfl hr) (pe_dget (hu_of hr) (pe_fld (pv 0) rfl) (pv 1) (fun _ _ => rfl)) (pe_dget (hu_of hr) (pe_fld (pv 0) rfl) (pv 2) (fun _ _ => rfl)) (nomark _)))), ?_⟩
  refine ⟨_, rfl, x, C_Plan, dx, _, _, rfl, h1, T.cl_Plan, T.na_Plan__ranks, plF_r, _, rfl, R, _, rfl, .inl ⟨_, Sum.inr z, .inl h2, rfl, (rankD_at ndo mz).symm⟩, ?_⟩
  refine ⟨_, rfl, x, C_Plan, dx, _, _, rfl, h1, T.cl_Plan, T.na_Plan__ranks, plF_r, _, rfl, R, _, rfl, .inl ⟨_, Sum.inr u, .inl h2, rfl, (rankD_at ndo mu).symm⟩, ?_⟩
  refine .inl ⟨_, _, rfl, rfl, ?_⟩
  have e : decide ((order.idxOf z : Int) < (order.idxOf u : Int)) = decide (order.idxOf z < order.idxOf u) := decide_eq_decide.mpr (by omega)
  show Q (V.bl (decide ((order.idxOf z : Int) < (order.idxOf u : Int)))) H
  rw [e]
  exact k

end
end Fb

set_option Elab.async false
set_option linter.all false
set_option maxRecDepth 100000
set_option maxHeartbeats 4000000
namespace Fb
open PySem PySem.Spec L2
open PyProof.Rows hiding St
open C8 (Cal Met Mak Def cal0 met0 mak0 pe_c pe_mk pe_mt pe_mt0 fnScope fnBody fnArgs pss_cut tCut)
local macro_rules | `(tactic| walk_at "hp") => `(tactic| first | exact upd_same | assumption | (refine grow (by assumption) _ _ ?_; walk_at "hp") | (refine (show Same _ _ by assumption) _ _ ?_; walk_at "hp"))
local macro_rules | `(tactic| walk_at "sm") => `(tactic| first | exact Same.refl _ | assumption | (refine Same.trans ?_ (grow (by assumption)); walk_at "sm") | (refine Same.trans ?_ (show Same _ _ by assumption); walk_at "sm"))
section
variable {P : Program} {w : World} {K : PySem.W.Frag} {mg : Str → Option Value} {base : Heap}
variable {C_Shape C_Plan C_Links C_PlanTaken C_PlanRefused A_plan_of : Addr}
/-! ### low_way -/
def spLowWay (K : PySem.W.Frag) (CS C : Addr) : Sp := sp4 fun a b c d H Q => ∃ (x L : Addr) (s t : Str) (ws order : List Str) (ps qs : List Tw), a = .ref x ∧ b = .ref L ∧ c = .str s ∧ d = .str t ∧ ShapeAt CS H x ws ps ∧ PlanAt C H L order qs ∧ order.Nodup ∧ (∀ r, r ∈ order ↔ r ∈ ws) ∧ order.length ≤ 1000 ∧ ws.length ≤ 1000 ∧ (∀ q ∈ ps, q.1 ∈ ws ∧ q.2 ∈ ws) ∧ LowP ps order (s, t) ∧
  ∀ (H' : Hp) (T : Addr) (w : List Str), Same H H' → SqT K H' T (w.map V.str) → LowWay ps (fun z => z ∈ order.take (min (order.idxOf s) (order.idxOf t))) s t w → Q (.ref T) H'
theorem c_low_way (T : Top K mg C_Shape C_Plan C_Links C_PlanTaken C_PlanRefused A_plan_of) : Cal P w K mg base 4 "low_way" (spLowWay K C_Shape C_Plan) [] := by
  obtain ⟨f, fd, F, df⟩ := T.d_low_way
  refine cal_of F df (fn4 F sc_low_way fun cdv A outer s H a b c d Q E hr h => ?_) fun _ _ _ _ _ _ us hl => match us, hl with | [_, _, _, _], _ => rfl
  have nd := sc_low_way.nd
  obtain ⟨x, L, s0, t, ws, order, ps, qs, rfl, rfl, rfl, rfl, hx, hL, ndo, mo, lo, lw, hE, ⟨ms, mt, ne, rch⟩, k⟩ := h
  refine ⟨_, (pss_cons 
      (ps_setLc (i := 4) (own := [("road", 5)]) rfl nd rfl rfl (sw_true rfl rfl rfl (by decide +kernel)) (pi_K (K := K) rfl (pe_mt0 (c_Plan_order T) hr (by decide) (pv 1))) (blkOk_by (N := ["shape", "plan", "source", "target", "inner", "road"]) (sc := fnScope s_low_way) (by decide +kernel)) (fun _ _ _ _ _ => (pg_name (i := 5) nd rfl (Or.inl rfl))) (fun _ _ _ _ _ => (pts_one (PW.pt (pw_and (pt_val (pe_mt (c_Plan_is_lower T) hr (by decide) (pv 1) (pa_cons (pv 5) (pa_cons (pv 2) pa_nil)))) (pw_and1 (pt_val (pe_mt (c_Plan_is_lower T) hr (by decide) (pv 1) (pa_cons (pv 5) (pa_cons (pv 3) pa_nil))))))))) (fun _ _ _ _ _ => (pv 5))) (pss_one 
      (ps_ret (pe_c (c_way_by T) hr (by decide) (by rfl) (pa_cons (pv 0) (pa_cons (pv 2) (pa_cons (pv 3) (pa_cons (pe_dc (own := [("road", 5)]) rfl nd (pi_K (K := K) rfl (pv 4)) (blkOk_by (N := ["shape", "plan", "source", "target", "inner", "road"]) (sc := fnScope s_low_way) (by decide +kernel)) (fun _ _ _ _ _ => (pg_name (i := 5) nd rfl (Or.inl rfl))) (fun _ _ _ _ _ => pts_nil) (fun _ _ _ _ _ => (pv 5)) (fun _ _ _ _ _ => pe_bl)) pa_nil)))))))), ?_⟩
  have ms : s0 ∈ order := ms
  have mt : t ∈ order := mt
  have rch : Rch ps (fun x => x ∈ order.take (min (order.idxOf s0) (order.idxOf t))) s0 t := rch
  obtain ⟨dxl, Rl, Tl, hL1, _⟩ := id hL
  refine ⟨_, rfl, L, dxl, _, rfl, hL1, plF_no (by decide +kernel) (by decide +kernel), ?_⟩
  refine ⟨_, rfl, L, order, qs, rfl, hL, fun O nO => .inl ⟨O, rfl, ⟨_, SqL.of upd_same⟩, fun D nD => ?_⟩⟩
  have e1 := grow (o := .lst (order.map V.str)) nO
  have hO : (upd H O (.lst (order.map V.str))) O = _ := upd_same
  generalize upd H O (.lst (order.map V.str)) = H1 at e1 hO nD ⊢
  refine lc_it (walk_list (xs := order.map V.str)) (fun j G => Same H1 G ∧ G D = some (.lst (((order.take j).filter fun z => decide (order.idxOf z < order.idxOf s0) && decide (order.idxOf z < order.idxOf t)).map V.str))) ⟨grow nD, upd_same⟩ (fun j G _ ⟨e, _⟩ => SqL.of (e _ _ hO)) ?_ ?_
  · rintro j v G1 G2 hj ⟨e, hD⟩ ⟨rfl, g⟩
    obtain ⟨z, gz, rfl⟩ := st_get g
    have mz := List.mem_of_getElem? gz
    have e2 := e1.trans e
    have hL2 := hL.mono e2
    have hL3 := e2 _ _ hL1
    have lf := List.length_filter_le (fun z => decide (order.idxOf z < order.idxOf s0) && decide (order.idxOf z < order.idxOf t)) (order.take j)
    rw [List.length_take] at lf
    rw [filter_snoc _ gz]
    refine ⟨rfl, _, rfl, L, dxl, _, rfl, hL3, plF_no (by decide +kernel) (by decide +kernel), ?_⟩
    refine ⟨_, rfl, _, rfl, _, _, _, rfl, L, z, s0, order, qs, rfl, rfl, rfl, hL2, ndo, mz, ms, _, rfl, ?_⟩
    by_cases c1 : order.idxOf z < order.idxOf s0
    · rw [decide_eq_true c1]
      refine iteT ⟨_, rfl, L, dxl, _, rfl, hL3, plF_no (by decide +kernel) (by decide +kernel), ?_⟩
      refine ⟨_, rfl, _, rfl, _, _, _, rfl, L, z, t, order, qs, rfl, rfl, rfl, hL2, ndo, mz, mt, _, rfl, ?_⟩
      by_cases c2 : order.idxOf z < order.idxOf t
      · rw [decide_eq_true c2]
        refine iteT ⟨_, rfl, _, hD, size5 (by rw [List.length_map]; omega), same_mut e nD, ?_⟩
        rw [upd_same, if_pos (show (true && true) = true from rfl), List.map_append]
        rfl
      · rw [decide_eq_false c2]
        refine iteF ⟨e, ?_⟩
        rw [if_neg (show (true && false) ≠ true from fun q => nomatch q), List.append_nil]
        exact hD
    · rw [decide_eq_false c1]
      refine iteF (iteF ⟨e, ?_⟩)
      rw [if_neg (show ¬ (false && decide (order.idxOf z < order.idxOf t)) = true from fun q => nomatch q), List.append_nil]
      exact hD
  · rintro G ⟨e, hD⟩
    rw [List.length_map, List.take_length] at hD
    have mi : ∀ z, z ∈ order.filter (fun z => decide (order.idxOf z < order.idxOf s0) && decide (order.idxOf z < order.idxOf t)) ↔ z ∈ order.take (min (order.idxOf s0) (order.idxOf t)) := fun z => by
      rw [List.mem_filter, Bool.and_eq_true, decide_eq_true_eq, decide_eq_true_eq]
      constructor
      · rintro ⟨m, a, b⟩
        exact (idx_take m _).mp (by omega)
      · intro m
        have m2 := List.mem_of_mem_take m
        have := (idx_take m2 _).mpr m
        exact ⟨m2, by omega, by omega⟩
    have ndi : (order.filter (fun z => decide (order.idxOf z < order.idxOf s0) && decide (order.idxOf z < order.idxOf t))).Nodup := ndo.sublist (List.filter_sublist)
    have li := List.length_filter_le (fun z => decide (order.idxOf z < order.idxOf s0) && decide (order.idxOf z < order.idxOf t)) order
    generalize order.filter (fun z => decide (order.idxOf z < order.idxOf s0) && decide (order.idxOf z < order.idxOf t)) = il at hD mi ndi li
    refine ⟨_, rfl, _, rfl, _, rfl, _, rfl, .inl ⟨D, rfl, ⟨_, SqL.of hD⟩, fun Di nDi => ?_⟩⟩
    refine dc_it (walk_list (xs := il.map V.str)) (fun i G' => Same G G' ∧ G' Di = some (.dK (setD (il.take i)))) ⟨grow nDi, upd_same⟩ (fun i G _ ⟨e, _⟩ => SqL.of (e _ _ hD)) ?_ ?_
    · rintro i v G1 G2 hi ⟨e, hDi⟩ ⟨rfl, g⟩
      obtain ⟨z, gz, rfl⟩ := st_get g
      have nz := nd_take ndi gz
      refine ⟨rfl, _, rfl, _, Sum.inr z, rfl, hDi, size5 (by rw [setD_len, List.length_take]; omega), same_mut e nDi, ?_⟩
      rw [upd_same, take_snoc gz]
      exact congrArg (fun q => some (HO.dK q)) (setD_put nz)
    · rintro G1 ⟨e', hDi⟩
      rw [List.length_map, List.take_length] at hDi
      have e3 := (e1.trans e).trans e'
      refine ⟨_, _, _, _, rfl, x, Di, s0, t, ws, il, ps, rfl, rfl, rfl, rfl, hx.mono e3, hDi, ndi, fun m => ?_, by omega, (mo _).mp ms, (mo _).mp mt, lw, hE, rch.mono fun z m => (mi z).mpr m, fun H' T w e4 hT lw' => ?_⟩
      · have := (idx_take mt _).mpr ((mi t).mp m)
        omega
      · exact k H' T w (e3.trans e4) hT (lw'.imp fun z m => (mi z).mp m)

end
end Fb

set_option Elab.async false
set_option linter.all false
set_option maxRecDepth 100000
set_option maxHeartbeats 4000000
namespace Fb
open PySem PySem.Spec L2
open PyProof.Rows hiding St
open C8 (Cal Met Mak Def cal0 met0 mak0 pe_c pe_mk pe_mt pe_mt0 fnScope fnBody fnArgs pss_cut tCut)
local macro_rules | `(tactic| walk_at "hp") => `(tactic| first | exact upd_same | assumption | (refine grow (by assumption) _ _ ?_; walk_at "hp") | (refine (show Same _ _ by assumption) _ _ ?_; walk_at "hp"))
local macro_rules | `(tactic| walk_at "sm") => `(tactic| first | exact Same.refl _ | assumption | (refine Same.trans ?_ (grow (by assumption)); walk_at "sm") | (refine Same.trans ?_ (show Same _ _ by assumption); walk_at "sm"))
section
variable {P : Program} {w : World} {K : PySem.W.Frag} {mg : Str → Option Value} {base : Heap}
variable {C_Shape C_Plan C_Links C_PlanTaken C_PlanRefused A_plan_of : Addr}
/-! ### Plan.rank -/
def spPlRank (C : Addr) : Sp := sp2 fun a b H Q => ∃ (x : Addr) (z : Str) (order : List Str) (ps : List Tw), a = .ref x ∧ b = .str z ∧ PlanAt C H x order ps ∧ order.Nodup ∧ z ∈ order ∧ Q (.int (order.idxOf z : Nat)) H
theorem c_Plan_rank (T : Top K mg C_Shape C_Plan C_Links C_PlanTaken C_PlanRefused A_plan_of) : Met P w K mg base 1 C_Plan "rank" (spPlRank C_Plan) [] := by
  obtain ⟨f, fd, me, F, df⟩ := T.d_Plan_rank
  refine ⟨f, fd, ["self", "road"], [], T.cl_Plan, me, ?_, F.binds df fun _ _ _ _ _ _ us hl => match us, hl with | [_, _], _ => rfl, .nil⟩
  refine fm2 F sc_Plan_rank fun cdv A outer s H a b Q E hr h => ?_
  have nd := sc_Plan_rank.nd
  obtain ⟨x, z, order, ps, rfl, rfl, ⟨dx, R, Tt, h1, h2, h3⟩, ndo, mz, k⟩ := h
  refine ⟨_, (pss_cons 
      (ps_if (PW.pt (pw_or (pt_not (pt_val (pe_callB (isi_K (K := K) rfl) (by rfl) T.isinstance (by decide +kernel) (pa_cons (pv 1) (pa_cons (pe_bltn (v := .ty "str") (by rfl) T.str (by decide +kernel) rfl) pa_nil))))) (pw_or1 (pt_cmp (pc_dnotin (hu_of hr) (pv 1) (pe_fld (pv 0) rfl)) (by with_unfolding_all rfl))))) (pss_one 
      ps_never) pss_nil) (pss_one 
      (ps_ret (pe_dget (hu_of hr) (pe_fld (pv 0) rfl) (pv 1) (fun _ _ => rfl))))), ?_⟩
  refine ⟨_, rfl, .inl ⟨_, _, _, true, rfl, .base (.str z), by decide +kernel, _, rfl, iteF ?_⟩⟩
  refine ⟨_, rfl, _, rfl, x, C_Plan, dx, _, _, rfl, h1, T.cl_Plan, T.na_Plan__ranks, plF_r, R, _, rfl, DGet.k (k := Sum.inr z) h2, ?_⟩
  rw [val_in (rankD_keys order), decide_eq_true mz]
  refine ⟨_, rfl, iteF ?_⟩
  exact ⟨_, rfl, x, C_Plan, dx, _, _, rfl, h1, T.cl_Plan, T.na_Plan__ranks, plF_r, _, rfl, R, _, rfl, .inl ⟨_, Sum.inr z, .inl h2, rfl, (rankD_at ndo mz).symm⟩, k⟩

end
end Fb

set_option Elab.async false
set_option linter.all false
set_option maxRecDepth 100000
set_option maxHeartbeats 4000000
namespace Fb
open PySem PySem.Spec L2
open PyProof.Rows hiding St
open C8 (Cal Met Mak Def cal0 met0 mak0 pe_c pe_mk pe_mt pe_mt0 fnScope fnBody fnArgs pss_cut tCut)
local macro_rules | `(tactic| walk_at "hp") => `(tactic| first | exact upd_same | assumption | (refine grow (by assumption) _ _ ?_; walk_at "hp") | (refine (show Same _ _ by assumption) _ _ ?_; walk_at "hp"))
local macro_rules | `(tactic| walk_at "sm") => `(tactic| first | exact Same.refl _ | assumption | (refine Same.trans ?_ (grow (by assumption)); walk_at "sm") | (refine Same.trans ?_ (show Same _ _ by assumption); walk_at "sm"))
section
variable {P : Program} {w : World} {K : PySem.W.Frag} {mg : Str → Option Value} {base : Heap}
variable {C_Shape C_Plan C_Links C_PlanTaken C_PlanRefused A_plan_of : Addr}
/-! ### Plan.__contains__ -/
def spPlIn (C : Addr) : Sp := sp2 fun a b H Q => ∃ (x : Addr) (p : Tw) (order : List Str) (ps : List Tw), a = .ref x ∧ TwV H b p ∧ PlanAt C H x order ps ∧ p.1 ∈ order ∧ p.2 ∈ order ∧ p.1 ≠ p.2 ∧ Q (.bl (decide (p ∈ ps))) H
theorem c_Plan___contains__ (T : Top K mg C_Shape C_Plan C_Links C_PlanTaken C_PlanRefused A_plan_of) : Met P w K mg base 2 C_Plan "__contains__" (spPlIn C_Plan) [] := by
  obtain ⟨f, fd, me, F, df⟩ := T.d_Plan___contains__
  refine ⟨f, fd, ["self", "pair"], [], T.cl_Plan, me, ?_, F.binds df fun _ _ _ _ _ _ us hl => match us, hl with | [_, _], _ => rfl, .nil⟩
  refine fm2 F sc_Plan___contains__ fun cdv A outer s H a b Q E hr h => ?_
  have nd := sc_Plan___contains__.nd
  obtain ⟨x, p, order, ps, rfl, hp, ⟨dx, R, Tt, h1, h2, h3⟩, m1, m2, ne, k⟩ := h
  obtain ⟨t, rfl, ht⟩ := id hp
  refine ⟨_, (pss_one 
      (ps_ret (pe_and (pe_c (c_is_pair T) hr (by decide) (by rfl) (pa_cons (pv 1) (pa_cons (pe_fld (pv 0) rfl) pa_nil))) (pe_one (pe_cmp (pc_din (hu_of hr) (pv 1) (pe_fld (pv 0) rfl)) (by with_unfolding_all rfl)))))), ?_⟩
  refine ⟨_, rfl, _, rfl, x, C_Plan, dx, _, _, rfl, h1, T.cl_Plan, T.na_Plan__ranks, plF_r, ?_⟩
  refine ⟨_, _, rfl, p, R, _, order, hp, rfl, h2, rankD_keys order, m1, m2, ne, ?_⟩
  refine ⟨_, rfl, ⟨_, rfl, _, rfl, x, C_Plan, dx, _, _, rfl, h1, T.cl_Plan, T.na_Plan__pairs, plF_p, Tt, _, rfl, DGet.t (k := twK p) h3 ht, ?_⟩⟩
  rw [pairD_in]
  exact k

end
end Fb

set_option Elab.async false
set_option linter.all false
set_option maxRecDepth 100000
set_option maxHeartbeats 4000000
namespace Fb
open PySem PySem.Spec L2
open PyProof.Rows hiding St
open C8 (Cal Met Mak Def cal0 met0 mak0 pe_c pe_mk pe_mt pe_mt0 fnScope fnBody fnArgs pss_cut tCut)
local macro_rules | `(tactic| walk_at "hp") => `(tactic| first | exact upd_same | assumption | (refine grow (by assumption) _ _ ?_; walk_at "hp") | (refine (show Same _ _ by assumption) _ _ ?_; walk_at "hp"))
local macro_rules | `(tactic| walk_at "sm") => `(tactic| first | exact Same.refl _ | assumption | (refine Same.trans ?_ (grow (by assumption)); walk_at "sm") | (refine Same.trans ?_ (show Same _ _ by assumption); walk_at "sm"))
section
variable {P : Program} {w : World} {K : PySem.W.Frag} {mg : Str → Option Value} {base : Heap}
variable {C_Shape C_Plan C_Links C_PlanTaken C_PlanRefused A_plan_of : Addr}
/-! ### judge_plan -/
def spJudge (K : PySem.W.Frag) (CS C CT CR : Addr) : Sp := sp2 fun a b H Q => ∃ (x L : Addr) (ws order : List Str) (ps qs low : List Tw), a = .ref x ∧ b = .ref L ∧ ShapeAt CS H x ws ps ∧ PlanAt C H L order qs ∧ ws.Nodup ∧ order.Nodup ∧ (∀ r, r ∈ order ↔ r ∈ ws) ∧ ws.length ≤ 100 ∧ ps.length ≤ 100000 ∧ qs.length ≤ 90000 ∧ (∀ q ∈ ps, q.1 ∈ ws ∧ q.2 ∈ ws ∧ q.1 ≠ q.2) ∧ Prs (fun q => LowP ps order q) low ∧
  ((∀ q, LowP ps order q → q ∈ qs) → ∀ (H' : Hp) (y : Addr), Same H H' → TakAt CT H' y low.length ((qs.length : Int) - low.length) → Q (.ref y) H') ∧
  ∀ q, IsFirst order (fun q => LowP ps order q ∧ q ∉ qs) q → ∀ (H' : Hp) (y W : Addr) (w : List Str), Same H H' → RefAt CR H' y q.1 q.2 W → SqT K H' W (w.map V.str) → LowWay ps (fun z => z ∈ order.take (min (order.idxOf q.1) (order.idxOf q.2))) q.1 q.2 w → Q (.ref y) H'
theorem c_judge_plan (T : Top K mg C_Shape C_Plan C_Links C_PlanTaken C_PlanRefused A_plan_of) : Cal P w K mg base 5 "judge_plan" (spJudge K C_Shape C_Plan C_PlanTaken C_PlanRefused) [] := by
  obtain ⟨f, fd, F, df⟩ := T.d_judge_plan
  refine cal_of F df (fn2 F sc_judge_plan fun cdv A outer s H a b Q E hr h => ?_) fun _ _ _ _ _ _ us hl => match us, hl with | [_, _], _ => rfl
  have nd := sc_judge_plan.nd
  obtain ⟨x, L, ws, order, ps, qs, low, rfl, rfl, hx, hL, ndw, ndo, mo, lw, lp, lq, hE, prl, kT, kR⟩ := h
  refine ⟨_, (pss_cons 
      (ps_expr (pe_c (c_check_roads T) hr (by decide) (by rfl) (pa_cons (pv 0) (pa_cons (pv 1) pa_nil)))) (pss_cons 
      (ps_set (i := 2) nd rfl (Or.inr rfl) (pe_mt0 (c_Plan_order T) hr (by decide) (pv 1))) (pss_cons 
      (ps_set (i := 3) nd rfl (Or.inl rfl) (pe_c (c_low_pairs T) hr (by decide) (by rfl) (pa_cons (pv 0) (pa_cons (pv 2) pa_nil)))) (pss_cut 
      (ps_setLc (i := 4) (own := [("source", 5), ("target", 6)]) rfl nd rfl rfl (sw_true rfl rfl rfl (by decide +kernel)) (pi_K (K := K) rfl (pv 3)) (blkOk_by (N := ["shape", "plan", "order", "needed", "lacking", "source", "target", "rank"]) (sc := fnScope s_judge_plan) (by decide +kernel)) (fun _ _ _ _ _ => (tup_K (K := K) (n := 2) rfl rfl (pgs_cons (pg_name (i := 5) nd rfl (Or.inl rfl)) (pgs_cons (pg_name (i := 6) nd rfl (Or.inl rfl)) pgs_nil)))) (fun _ _ _ _ _ => (pts_one (pt_cmpR (op_notInOwn (c_Plan___contains__ T) hr (by decide)) (pe_tup (pa_cons (pv 5) (pa_cons (pv 6) pa_nil))) (pv 1) (by with_unfolding_all rfl)))) (fun _ _ _ _ _ => (pe_tup (pa_cons (pe_mt (c_Plan_rank T) hr (by decide) (pv 1) (pa_cons (pv 5) pa_nil)) (pa_cons (pe_mt (c_Plan_rank T) hr (by decide) (pv 1) (pa_cons (pv 6) pa_nil)) pa_nil))))) (pss_cons 
      (ps_if (pt_not (pt_truth (pv 4) (fun _ => rfl))) (pss_one 
      (ps_ret (pe_mk (c_PlanTaken___init__ T) hr (by decide) (by rfl) (pa_cons (pe_callB (len_K (K := K) rfl) (by rfl) T.len (by decide +kernel) (pa_cons (pv 3) pa_nil)) (pa_cons (pe_op op_sub (pe_callB (call_lenOwn (c_Plan___len__ T) (hr.mono (by decide))) (by rfl) T.len (by decide +kernel) (pa_cons (pv 1) pa_nil)) (pe_callB (len_K (K := K) rfl) (by rfl) T.len (by decide +kernel) (pa_cons (pv 3) pa_nil))) pa_nil))))) pss_nil) (pss_cut 
      (ps_asg (pe_lc (own := [("rank", 7)]) rfl nd (pi_K (K := K) rfl (pe_callB (minD_K (K := K) rfl hr rfl) (by rfl) T.min (by decide +kernel) (pa_cons (pv 4) pa_nil))) (blkOk_by (N := ["shape", "plan", "order", "needed", "lacking", "source", "target", "rank"]) (sc := fnScope s_judge_plan) (by decide +kernel)) (fun _ _ _ _ _ => (pg_name (i := 7) nd rfl (Or.inl rfl))) (fun _ _ _ _ _ => pts_nil) (fun _ _ _ _ _ => (pe_ix (ix_K (K := K) rfl) (pv 2) (pv 7) (fun _ _ => rfl)))) (pg_lst (n := 2) rfl (pgs_cons (pg_name (i := 5) nd rfl (Or.inl rfl)) (pgs_cons (pg_name (i := 6) nd rfl (Or.inl rfl)) pgs_nil)))) (pss_one 
      (ps_ret (pe_mk (c_PlanRefused___init__ T) hr (by decide) (by rfl) (pa_cons (pv 5) (pa_cons (pv 6) (pa_cons (pe_c (c_low_way T) hr (by decide) (by rfl) (pa_cons (pv 0) (pa_cons (pv 1) (pa_cons (pv 5) (pa_cons (pv 6) pa_nil))))) pa_nil)))))))))))), ?_⟩
  have lo : order.length ≤ 100 := Nat.le_trans (nd_le ndo fun r m => (mo r).mp m) lw
  refine ⟨_, rfl, _, rfl, _, _, rfl, x, L, ws, order, ps, qs, rfl, rfl, hx, hL, ndo, mo, by omega, by omega, fun H1 e1 => ?_⟩
  have hL1 := hL.mono e1
  obtain ⟨dxl, Rl, Tl, hLi, _⟩ := id hL1
  refine ⟨_, rfl, L, dxl, _, rfl, hLi, plF_no (by decide +kernel) (by decide +kernel), ?_⟩
  refine ⟨_, rfl, L, order, qs, rfl, hL1, fun O nO => ?_⟩
  have e2 := e1.trans (grow (o := .lst (order.map V.str)) nO)
  have hO : (upd H1 O (.lst (order.map V.str))) O = _ := upd_same
  have hLi := (grow (o := .lst (order.map V.str)) nO) _ _ hLi
  generalize upd H1 O (.lst (order.map V.str)) = H2 at e2 hO hLi ⊢
  refine ⟨_, rfl, _, rfl, _, _, rfl, x, O, ws, order, ps, rfl, rfl, hx.mono e2, SqL.of hO, ndw, by omega, ndo, mo, by omega, hE, fun H3 D ys fs e3 _ hD hys islow => ?_⟩
  have prf : Prs (fun q => LowP ps order q) (fs.mergeSort twLe) := by
    refine ⟨(List.mergeSort_perm fs twLe).nodup_iff.mpr islow.1, lin_tw.sorted fs, fun q => ?_⟩
    rw [List.mem_mergeSort]
    exact islow.lowP mo q
  rw [prf.uniq prl] at hys
  have llow : low.length ≤ 10000 := by
    rw [← prf.uniq prl, List.length_mergeSort]
    exact islow.len lw
  have hO3 := e3 _ _ hO
  have e03 := e2.trans e3
  have hL3 := hL.mono e03
  have hLi := e3 _ _ hLi
  have lys := hys.len
  clear hL1 hO e1 e2 e3
  -- lacking
  refine ⟨fun σ G => Same H3 G ∧ ∃ (Z : Addr) (zs : List V), G Z = some (.lst zs) ∧ IpsV G zs ((low.filter fun q => !decide (q ∈ qs)).map (rkP order)) ∧ σ = [some (.ref x), some (.ref L), some (.ref O), some (.ref D), some (.ref Z), none, none, none], ?_, ?_⟩
  · refine ⟨_, rfl, .inl ⟨D, rfl, ⟨_, SqL.of hD⟩, fun Z nZ => ?_⟩⟩
    refine lc_it (walk_list (xs := ys)) (fun j G => Same H3 G ∧ ∃ zs, G Z = some (.lst zs) ∧ IpsV G zs (((low.take j).filter fun q => !decide (q ∈ qs)).map (rkP order))) ⟨grow nZ, [], upd_same, .nil⟩ (fun j G _ ⟨e, _⟩ => SqL.of (e _ _ hD)) ?_ ?_
    · rintro j v G1 G2 hj ⟨e, zs, hZ, hzs⟩ ⟨rfl, g⟩
      obtain ⟨q, gq, t, rfl, ht⟩ := hys.get g
      obtain ⟨m1, m2, ne, _⟩ := (prl.mem q).mp (List.mem_of_getElem? gq)
      have hLi2 := e _ _ hLi
      have hL2 := hL3.mono e
      have lf := List.length_filter_le (fun q => !decide (q ∈ qs)) (low.take j)
      rw [List.length_take] at lf
      rw [filter_snoc _ gq]
      refine ⟨t, _, rfl, SqT.of (e _ _ ht), rfl, _, _, rfl, _, _, rfl, rfl, rfl, ?_⟩
      refine ⟨_, rfl, _, rfl, Nat.le_of_ble_eq_true rfl, fun t2 nt2 => ?_⟩
      have e2 := grow (o := .tup [.str q.1, .str q.2]) nt2
      refine ⟨_, rfl, L, dxl, _, rfl, e2 _ _ hLi2, _, _, rfl, L, q, order, qs, rfl, ⟨t2, rfl, upd_same⟩, hL2.mono e2, m1, m2, ne, _, rfl, ?_⟩
      by_cases c : q ∈ qs
      · rw [decide_eq_true c]
        refine ⟨_, rfl, iteF ⟨e.trans e2, zs, e2 _ _ hZ, ?_⟩⟩
        rw [if_neg (show (!true) ≠ true from fun q => nomatch q), List.append_nil]
        exact hzs.kp (Same.kpt e2)
      · rw [decide_eq_false c]
        refine ⟨_, rfl, iteT ?_⟩
        refine ⟨_, rfl, L, dxl, _, rfl, e2 _ _ hLi2, plF_no (by decide +kernel) (by decide +kernel), _, rfl, _, _, rfl, L, q.1, order, qs, rfl, rfl, hL2.mono e2, ndo, m1, ?_⟩
        refine ⟨_, rfl, L, dxl, _, rfl, e2 _ _ hLi2, plF_no (by decide +kernel) (by decide +kernel), _, rfl, _, _, rfl, L, q.2, order, qs, rfl, rfl, hL2.mono e2, ndo, m2, ?_⟩
        refine ⟨Nat.le_of_ble_eq_true rfl, fun t3 nt3 => ?_⟩
        have e3 := e2.trans (grow (o := .tup [.int (order.idxOf q.1 : Nat), .int (order.idxOf q.2 : Nat)]) nt3)
        have lz : zs.length ≤ 10000 := by
          have := Paired.length hzs
          rw [List.length_map] at this
          omega
        refine ⟨zs, e3 _ _ hZ, size5 (by omega), ?_⟩
        have ht3 : (upd (upd G2 t2 (.tup [.str q.1, .str q.2])) t3 (.tup [.int (order.idxOf q.1 : Nat), .int (order.idxOf q.2 : Nat)])) t3 = some (.tup [.int (order.idxOf q.1 : Nat), .int (order.idxOf q.2 : Nat)]) := upd_same
        have hZ3 := e3 _ _ hZ
        have hzs3 := hzs.kp (Same.kpt e3)
        have e3 := e.trans e3
        generalize upd (upd G2 t2 (.tup [.str q.1, .str q.2])) t3 (.tup [.int (order.idxOf q.1 : Nat), .int (order.idxOf q.2 : Nat)]) = G3 at ht3 hZ3 hzs3 e3 ⊢
        have kp : Kpt G3 (upd G3 Z (.lst (zs ++ [.ref t3]))) := kpt_lst hZ3
        refine ⟨same_mut e3 nZ, zs ++ [.ref t3], upd_same, ?_⟩
        rw [if_pos (show (!false) = true from rfl), List.map_append]
        exact (hzs3.kp kp).app (.cons ⟨t3, rfl, kp _ _ ht3⟩ .nil)
    · rintro G ⟨e, zs, hZ, hzs⟩
      rw [lys, List.take_length] at hzs
      exact ⟨e, Z, zs, hZ, hzs, rfl⟩
  rintro σ G ⟨e, Z, zs, hZ, hzs, rfl⟩
  have mlk : ∀ q, q ∈ low.filter (fun q => !decide (q ∈ qs)) ↔ LowP ps order q ∧ q ∉ qs := fun q => by
    rw [List.mem_filter, prl.mem]
    simp
  have lfl := List.length_filter_le (fun q => !decide (q ∈ qs)) low
  generalize low.filter (fun q => !decide (q ∈ qs)) = lk at hzs mlk lfl
  have e04 := e03.trans e
  have hLi := e _ _ hLi
  have hL4 := hL.mono e04
  have hO4 := e _ _ hO3
  have hD4 := e _ _ hD
  refine ⟨_, rfl, _, .inl ⟨_, SqL.of hZ, rfl⟩, ?_⟩
  cases lk with
  | nil =>
    cases hzs
    refine iteT ?_
    refine ⟨_, rfl, .inl ⟨D, _, rfl, .inl (SqL.of hD4), ?_⟩⟩
    refine ⟨_, rfl, L, dxl, _, rfl, hLi, ⟨_, rfl, L, order, qs, rfl, hL4, qs.length, rfl, by omega, ?_⟩⟩
    refine ⟨_, rfl, .inl ⟨D, _, rfl, .inl (SqL.of hD4), _, _, rfl, rfl, ?_⟩⟩
    intro y dy ny ndy ne
    have e4 : Same G (upd (upd G dy (.own y)) y (.ins C_PlanTaken dy [])) := (grow ndy).trans (grow (by rw [upd_ne ne.symm]; exact ny))
    refine ⟨_, _, _, rfl, y, dy, _, _, rfl, rfl, rfl, upd_same, fun H' kp tk => ⟨rfl, ?_⟩⟩
    rw [lys] at tk
    exact kT (fun q hq => Classical.byContradiction fun n => by have := (mlk q).mpr ⟨hq, n⟩; exact nomatch this) H' y (fun b o h => kp _ _ (e4 _ _ (e04 _ _ h)) (ne_of_none (e04 _ _ h) ny)) tk
  | cons l0 lr =>
    have zne : zs.isEmpty = false := by
      cases hzs
      rfl
    rw [zne]
    refine iteF ?_
    obtain ⟨m, mm, em, mk⟩ := ip_min (lr.map (rkP order)) (rkP order l0)
    have mm : m ∈ (l0 :: lr).map (rkP order) := mm
    obtain ⟨q, mq, rfl⟩ := List.mem_map.mp mm
    have fst : IsFirst order (fun q => LowP ps order q ∧ q ∉ qs) q := ⟨(mlk q).mp mq, fun r hr => mk _ (List.mem_map.mpr ⟨r, (mlk r).mpr hr, rfl⟩)⟩
    have lowq := fst.1.1
    obtain ⟨mq1, mq2, neq, _⟩ := id lowq
    -- source, target
    refine ⟨fun σ G' => Same G G' ∧ σ = [some (.ref x), some (.ref L), some (.ref O), some (.ref D), some (.ref Z), some (.str q.1), some (.str q.2), none], ?_, ?_⟩
    · refine ⟨_, rfl, ?_⟩
      dsimp only [tNil]
      refine ⟨Z, zs, ipD (rkP order l0), (lr.map (rkP order)).map ipD, rfl, SqL.of hZ, hzs.dp, alike_ips ((l0 :: lr).map (rkP order)), Nat.le_trans (depth_ips ((l0 :: lr).map (rkP order))) (by decide), fun i v gv gi => ?_⟩
      rw [em] at gi
      have gi : (((l0 :: lr).map (rkP order)).map ipD)[i]? = some (ipD (rkP order q)) := gi
      obtain ⟨t, rfl, ht⟩ : IpV G v (rkP order q) := by
        rw [List.getElem?_map] at gi
        cases gp : ((l0 :: lr).map (rkP order))[i]? with
        | none => rw [gp] at gi; cases gi
        | some p =>
          rw [gp] at gi
          have ep : p = rkP order q := by
            have h := Option.some.inj gi
            unfold ipD at h
            injection h with h
            injection h with h1 h
            injection h with h2
            injection h1 with h1
            injection h2 with h2
            exact Prod.ext h1 h2
          rw [← ep]
          exact prd_get hzs gv gp
      have itm : ∀ {r : Str}, r ∈ order → atI (order.map V.str) (order.idxOf r : Nat) = some (.str r) := fun {r} m => atI_nat (by
        have l := List.idxOf_lt_length_of_mem m
        rw [List.getElem?_map, List.getElem?_eq_getElem l, List.getElem_idxOf l]
        rfl)
      refine .inr (.inl ⟨t, rfl, ⟨_, SqT.of ht⟩, fun U nU => ?_⟩)
      refine lc_map (walk_tup (xs := [V.int (order.idxOf q.1 : Nat), .int (order.idxOf q.2 : Nat)])) (fun i => if i = 0 then .str q.1 else .str q.2) grow_at (Nat.le_of_ble_eq_true rfl) nU (fun G2 e => SqT.of (e _ _ ht)) ?_ ?_
      · rintro i v G1 G2 hi e2 ⟨rfl, g⟩ R kk
        have hO5 := e2 _ _ hO4
        rcases i with _ | _ | i
        · cases g
          exact ⟨rfl, _, rfl, _, rfl, .inl ⟨O, _, _, _, rfl, rfl, SqL.of hO5, itm mq1, kk _ (Same.refl _)⟩⟩
        · cases g
          exact ⟨rfl, _, rfl, _, rfl, .inl ⟨O, _, _, _, rfl, rfl, SqL.of hO5, itm mq2, kk _ (Same.refl _)⟩⟩
        · cases g
      · intro G1 e2 hU
        exact ⟨U, [.str q.1, .str q.2], rfl, SqL.of hU, rfl, _, _, rfl, _, _, rfl, rfl, e2, rfl⟩
    rintro σ G1 ⟨e2, rfl⟩
    have e05 := e04.trans e2
    refine ⟨_, rfl, _, rfl, _, rfl, _, rfl, _, rfl, _, rfl, _, _, _, _, rfl, x, L, q.1, q.2, ws, order, ps, qs, rfl, rfl, rfl, rfl, hx.mono e05, hL.mono e05, ndo, mo, by omega, by omega, fun r m => ⟨(hE r m).1, (hE r m).2.1⟩, lowq, fun H' W wy e6 hW lwy => ?_⟩
    intro y dy ny ndy ne
    have e4 : Same H' (upd (upd H' dy (.own y)) y (.ins C_PlanRefused dy [])) := (grow ndy).trans (grow (by rw [upd_ne ne.symm]; exact ny))
    refine ⟨_, _, _, _, rfl, y, dy, _, _, W, rfl, rfl, rfl, rfl, upd_same, fun H7 kp rf => ⟨rfl, ?_⟩⟩
    have e06 := e05.trans e6
    refine kR q fst H7 y W wy (fun b o h => kp _ _ (e4 _ _ (e06 _ _ h)) (ne_of_none (e06 _ _ h) ny)) rf ?_ lwy
    have k6 : ∀ c o, H' c = some o → H7 c = some o := fun c o h => kp _ _ (e4 _ _ h) (ne_of_none h ny)
    exact same_tup k6 hW

end
end Fb

set_option Elab.async false
set_option linter.all false
set_option maxRecDepth 100000
set_option maxHeartbeats 4000000
namespace Fb
open PySem PySem.Spec L2
open PyProof.Rows hiding St
open C8 (Cal Met Mak Def cal0 met0 mak0 pe_c pe_mk pe_mt pe_mt0 fnScope fnBody fnArgs pss_cut tCut)
local macro_rules | `(tactic| walk_at "hp") => `(tactic| first | exact upd_same | assumption | (refine grow (by assumption) _ _ ?_; walk_at "hp") | (refine (show Same _ _ by assumption) _ _ ?_; walk_at "hp"))
local macro_rules | `(tactic| walk_at "sm") => `(tactic| first | exact Same.refl _ | assumption | (refine Same.trans ?_ (grow (by assumption)); walk_at "sm") | (refine Same.trans ?_ (show Same _ _ by assumption); walk_at "sm"))
section
variable {P : Program} {w : World} {K : PySem.W.Frag} {mg : Str → Option Value} {base : Heap}
variable {C_Shape C_Plan C_Links C_PlanTaken C_PlanRefused A_plan_of : Addr}
/-! ### _law_refused_at -/
def spRefAt (K : PySem.W.Frag) (CS : Addr) : Sp := sp4 fun a b c d H Q => ∃ (x O S t : Addr) (ws order : List Str) (xs : List V) (ps qs low : List Tw) (q : Tw), a = .ref x ∧ b = .ref O ∧ c = .ref S ∧ d = .ref t ∧ ShapeAt CS H x ws ps ∧ H O = some (.lst (order.map V.str)) ∧ H S = some (.lst xs) ∧ TwsV H xs qs ∧ H t = some (.tup [.str q.1, .str q.2]) ∧ ws.Nodup ∧ Nms order ∧ order.Nodup ∧ (∀ r, r ∈ order ↔ r ∈ ws) ∧ ws.length ≤ 100 ∧ ps.length ≤ 100000 ∧ qs.length ≤ 80000 ∧ (∀ q ∈ ps, q.1 ∈ ws ∧ q.2 ∈ ws ∧ q.1 ≠ q.2) ∧ (∀ q ∈ qs, q.1 ∈ order ∧ q.2 ∈ order ∧ q.1 ≠ q.2) ∧ Prs (fun q => LowP ps order q) low ∧
  IsFirst order (fun q => LowP ps order q ∧ q ∉ qs) q ∧ Then H Q (.bl true)
theorem c__law_refused_at (T : Top K mg C_Shape C_Plan C_Links C_PlanTaken C_PlanRefused A_plan_of) : Cal P w K mg base 9 "_law_refused_at" (spRefAt K C_Shape) [] := by
  obtain ⟨f, fd, F, df⟩ := T.d__law_refused_at
  refine cal_of F df (fn4 F sc__law_refused_at fun cdv A outer s H a b c d Q E hr h => ?_) fun _ _ _ _ _ _ us hl => match us, hl with | [_, _, _, _], _ => rfl
  have nd := sc__law_refused_at.nd
  obtain ⟨x, O, S, t, ws, order, xs, ps, qs, low, q, rfl, rfl, rfl, rfl, hx, hO, hS, hxs, ht, ndw, nm, ndo, mo, lw, lp, lq, hE, hQ, prl, fst, k⟩ := h
  refine ⟨_, (pss_cons 
      (ps_set (i := 4) nd rfl (Or.inl rfl) (pe_c (c_judge_plan T) hr (by decide) (by rfl) (pa_cons (pv 0) (pa_cons (pe_mk (c_Plan___init__ T) hr (by decide) (by rfl) (pa_cons (pe_callTy (listOf_K (K := K) rfl) (by rfl) T.list (by decide +kernel) (pa_cons (pv 1) pa_nil)) (pa_cons (pe_callTy (listOf_K (K := K) rfl) (by rfl) T.list (by decide +kernel) (pa_cons (pv 2) pa_nil)) pa_nil))) pa_nil)))) (pss_one 
      (ps_ret (pe_and (pe_callB (C8.call_isC T.ins_PlanRefused) (by rfl) T.isinstance (by decide +kernel) (pa_cons (pv 4) (pa_cons (C8.pe_gc (v := .ref C_PlanRefused) (by rfl) ⟨_, T.g_PlanRefused, rfl⟩) pa_nil))) (pe_one (pe_c (c__law_same T) hr (by decide) (by rfl) (pa_cons (pe_tup (pa_cons (pe_fld (pv 4) rfl) (pa_cons (pe_fld (pv 4) rfl) pa_nil))) (pa_cons (pv 3) pa_nil)))))))), ?_⟩
  have lo : order.length ≤ 100 := Nat.le_trans (nd_le ndo fun r m => (mo r).mp m) lw
  refine ⟨_, rfl, _, rfl, O, _, rfl, .inl (SqL.of hO), fun O2 nO2 => ?_⟩
  have e1 := grow (o := .lst (order.map V.str)) nO2
  refine ⟨_, rfl, S, _, rfl, .inl (SqL.of (e1 _ _ hS)), fun S2 nS2 => ?_⟩
  have e2 := e1.trans (grow (o := .lst xs) nS2)
  have hO2 : (upd (upd H O2 (.lst (order.map V.str))) S2 (.lst xs)) O2 = some (.lst (order.map V.str)) := (grow nS2) _ _ upd_same
  have hS2 : (upd (upd H O2 (.lst (order.map V.str))) S2 (.lst xs)) S2 = some (.lst xs) := upd_same
  generalize upd (upd H O2 (.lst (order.map V.str))) S2 (.lst xs) = H2 at e2 hO2 hS2 ⊢
  have hxs2 := hxs.kp (Same.kpt e2)
  intro y dy ny ndy ne
  have e4 : Same H2 (upd (upd H2 dy (.own y)) y (.ins C_Plan dy [])) := (grow ndy).trans (grow (by rw [upd_ne ne.symm]; exact ny))
  refine ⟨_, _, _, rfl, y, dy, O2, S2, order, xs, qs, rfl, rfl, rfl, upd_same, e4 _ _ hO2, e4 _ _ hS2, hxs2.kp (Same.kpt e4), nm, ndo, by omega, by omega, hQ, fun H3 kp hp => ⟨rfl, ?_⟩⟩
  have e3 : Same H H3 := fun b o h => kp _ _ (e4 _ _ (e2 _ _ h)) (ne_of_none (e2 _ _ h) ny)
  have lu : (uq (qs.mergeSort twLe)).length ≤ 80000 := by
    refine Nat.le_trans (uq_sub _).length_le ?_
    rw [List.length_mergeSort]
    exact lq
  have mu : ∀ r, r ∈ uq (qs.mergeSort twLe) ↔ r ∈ qs := fun r => by rw [uq_mem, List.mem_mergeSort]
  refine ⟨_, _, rfl, x, y, ws, order, ps, uq (qs.mergeSort twLe), low, rfl, rfl, hx.mono e3, hp, ndw, ndo, mo, lw, lp, by omega, hE, prl, fun all => ?_, fun r hr H4 v W wy e5 hv hW lwy => ?_⟩
  · exact absurd ((mu q).mp (all q fst.1.1)) fst.1.2
  have er : r = q := by
    have a := hr.2 q ⟨fst.1.1, fun m => fst.1.2 ((mu q).mp m)⟩
    have b := fst.2 r ⟨hr.1.1, fun m => hr.1.2 ((mu r).mpr m)⟩
    obtain ⟨m1, m2, _, _⟩ := hr.1.1
    obtain ⟨n1, n2, _, _⟩ := fst.1.1
    unfold ipLe rkP at a b
    have i1 : order.idxOf r.1 = order.idxOf q.1 := by omega
    have i2 : order.idxOf r.2 = order.idxOf q.2 := by omega
    exact Prod.ext (idx_inj m1 n1 i1) (idx_inj m2 n2 i2)
  subst er
  obtain ⟨dv, hv1⟩ := hv
  refine ⟨_, rfl, ⟨v, dv, _, rfl, hv1, ?_⟩⟩
  refine ⟨_, rfl, ?_⟩
  refine ⟨_, rfl, v, C_PlanRefused, dv, _, _, rfl, hv1, T.cl_PlanRefused, T.na_PlanRefused_source, rfF_s, ?_⟩
  refine ⟨_, rfl, v, C_PlanRefused, dv, _, _, rfl, hv1, T.cl_PlanRefused, T.na_PlanRefused_target, rfF_g, ?_⟩
  refine ⟨Nat.le_of_ble_eq_true rfl, fun u nu => ?_⟩
  have e6 := (e3.trans e5).trans (grow (o := .tup [.str r.1, .str r.2]) nu)
  refine ⟨_, rfl, _, _, rfl, twD r, ⟨Nat.le_of_ble_eq_true rfl, fun d md => ?_⟩, TwV.dp ⟨u, rfl, upd_same⟩, TwV.dp ⟨t, rfl, e6 _ _ ht⟩, fun H5 e7 => k _ (e6.trans e7)⟩
  rcases List.mem_cons.mp md with rfl | md
  · trivial
  · rw [List.mem_singleton.mp md]
    trivial

end
end Fb

set_option Elab.async false
set_option linter.all false
set_option maxRecDepth 100000
set_option maxHeartbeats 4000000
namespace Fb
open PySem PySem.Spec L2
open PyProof.Rows hiding St
open C8 (Cal Met Mak Def cal0 met0 mak0 pe_c pe_mk pe_mt pe_mt0 fnScope fnBody fnArgs pss_cut tCut)
local macro_rules | `(tactic| walk_at "hp") => `(tactic| first | exact upd_same | assumption | (refine grow (by assumption) _ _ ?_; walk_at "hp") | (refine (show Same _ _ by assumption) _ _ ?_; walk_at "hp"))
local macro_rules | `(tactic| walk_at "sm") => `(tactic| first | exact Same.refl _ | assumption | (refine Same.trans ?_ (grow (by assumption)); walk_at "sm") | (refine Same.trans ?_ (show Same _ _ by assumption); walk_at "sm"))
section
variable {P : Program} {w : World} {K : PySem.W.Frag} {mg : Str → Option Value} {base : Heap}
variable {C_Shape C_Plan C_Links C_PlanTaken C_PlanRefused A_plan_of : Addr}
/-! ### Plan.pairs -/
def spPlPairs (C : Addr) : Sp := sp1 fun a H Q => ∃ (x : Addr) (order : List Str) (ps : List Tw), a = .ref x ∧ PlanAt C H x order ps ∧ ∀ p xs, H p = none → TwsV H xs ps → Q (.ref p) (upd H p (.lst xs))
theorem c_Plan_pairs (T : Top K mg C_Shape C_Plan C_Links C_PlanTaken C_PlanRefused A_plan_of) : Met P w K mg base 1 C_Plan "pairs" (spPlPairs C_Plan) [] := by
  obtain ⟨f, fd, me, F, df⟩ := T.d_Plan_pairs
  refine ⟨f, fd, ["self"], [], T.cl_Plan, me, ?_, F.binds df fun _ _ _ _ _ _ us hl => match us, hl with | [_], _ => rfl, .nil⟩
  refine fm1 F sc_Plan_pairs fun cdv A outer s H a Q E hr h => ?_
  have nd := sc_Plan_pairs.nd
  obtain ⟨x, order, ps, rfl, ⟨dx, R, Tt, h1, h2, h3⟩, k⟩ := h
  refine ⟨_, (pss_one 
      (ps_ret (pe_callTy (call_list_dT rfl) (by rfl) T.list (by decide +kernel) (pa_cons (pe_fld (pv 0) rfl) pa_nil)))), ?_⟩
  exact ⟨_, rfl, x, C_Plan, dx, _, _, rfl, h1, T.cl_Plan, T.na_Plan__pairs, plF_p, Tt, _, rfl, .inl h3, fun q bs nq ik => k q _ nq (keys_tw (pairD_keys ps) ik)⟩

end
end Fb

set_option Elab.async false
set_option linter.all false
set_option maxRecDepth 100000
set_option maxHeartbeats 4000000
namespace Fb
open PySem PySem.Spec L2
open PyProof.Rows hiding St
open C8 (Cal Met Mak Def cal0 met0 mak0 pe_c pe_mk pe_mt pe_mt0 fnScope fnBody fnArgs pss_cut tCut)
local macro_rules | `(tactic| walk_at "hp") => `(tactic| first | exact upd_same | assumption | (refine grow (by assumption) _ _ ?_; walk_at "hp") | (refine (show Same _ _ by assumption) _ _ ?_; walk_at "hp"))
local macro_rules | `(tactic| walk_at "sm") => `(tactic| first | exact Same.refl _ | assumption | (refine Same.trans ?_ (grow (by assumption)); walk_at "sm") | (refine Same.trans ?_ (show Same _ _ by assumption); walk_at "sm"))
section
variable {P : Program} {w : World} {K : PySem.W.Frag} {mg : Str → Option Value} {base : Heap}
variable {C_Shape C_Plan C_Links C_PlanTaken C_PlanRefused A_plan_of : Addr}
/-! ### law -/
def qL : Str := (("law" : Str) ++ ".<locals>.") ++ "<lambda>"
def spLaw36 (K : PySem.W.Frag) (PL : Addr) : Sp := sp1 fun a H Q => ∃ (l : Addr) (ns : List Int), a = .ref l ∧ SqL K H l (ns.map V.int) ∧ LamX.Tabs [(PL, qL)] H ∧ ∀ H', Q (.bl true) H'
/-- the def that makes a lambda: its code object at cL, the table of it at PL -/
structure TopL (K : PySem.W.Frag) (mg : Str → Option Value) (base : Heap) (cL PL : Addr) : Prop where
  dl : ∃ (f : Addr) (fd : FuncData), Def K mg "law" s_law f fd ∧ fd.defaults = .none ∧ fd.code = .ref cL
  tb : LamX.TabB base mg cL PL
theorem fn1c {x : Str} {st : Stmt} {f : Addr} {fd : FuncData} {N : List Str} {k : Nat} {p1 : Str} {cd : Value} {g : V → Hp → VK → Prop} (F : Def K mg x st f fd) (hcd : fd.code = cd) (S : FnScope N [p1] (fnScope st))
    (body : ∀ (A : Around) (outer : List Env) (s : Shared) (H : Hp) (a : V) (Q : VK) (E : XK), Room k (A.deeper (envOfC x (fnScope st) s.heap.objs.size f cd)) → g a H Q →
      ∃ t, PSs (cxOf C8.CX0 P w K mg base N x (fnScope st) f cd A outer s H E).nox (fnBody st) t ∧ t { nx := fun _ H' => Q .non H', rt := Q } (start N [a]) H) : FnOk P w K mg base C8.CX0 (k + 1) f fd [p1] (sp1 g) := by
  obtain ⟨oc, od, dV, kV, doc, pm, an, cdv, ct, osl, rfl, lk, hcd2⟩ := F.fn.ex
  have e : cdv = cd := hcd
  subst e
  refine fn_of lk hcd2 S ?_ fun A outer s H vs Q E hr hsp => ?_
  · rintro vs H Q E ⟨a, rfl, _⟩
    rfl
  · obtain ⟨a, rfl, h⟩ := hsp
    obtain ⟨t, h, q⟩ := body A outer s H a Q E hr h
    exact ⟨t, h.nox, q⟩
theorem lowP_congr {E E' : List Tw} (h : ∀ p, p ∈ E ↔ p ∈ E') {order : List Str} {q : Tw} : LowP E order q ↔ LowP E' order q := by
  unfold LowP
  exact and_congr_right fun _ => and_congr_right fun _ => and_congr_right fun _ => Rch.congr h fun _ => Iff.rfl
theorem eqv_self : ∀ l : List Tw, PyData.eqv (.list (l.map twD)) (.list (l.map twD)) = true
  | [] => rfl
  | q :: l => by
    have ih := eqv_self l
    have e : PyData.eqv (twD q) (twD q) = true := by rw [eqv_tw]; exact decide_eq_true rfl
    simp only [PyData.eqv, List.map_cons, PyData.eqvAll] at ih ⊢
    rw [e, ih]
    rfl
theorem noT_kpt (H : Hp) : Kpt H (noT H) := fun b xs h => noT_at h fun _ z => nomatch z
theorem noT_shape {C : Addr} {H : Hp} {x : Addr} {ws : List Str} {ps : List Tw} (h : ShapeAt C H x ws ps) : ShapeAt C (noT H) x ws ps := by
  obtain ⟨dx, F, T, L, fvs, tvs, h1, h2, h3, h4, h5, f1, f2, ls⟩ := h
  exact ⟨dx, F, T, L, fvs, tvs, noT_at h1 (fun _ z => nomatch z), noT_at h2 (fun _ z => nomatch z), h3, noT_at h4 (fun _ z => nomatch z), h5, f1, f2,
    ⟨ls.fv, noT_at ls.hL (fun _ z => nomatch z), fun r m => noT_at (ls.h1 r m) (fun _ z => nomatch z), fun r m => noT_at (ls.h2 r m) (fun _ z => nomatch z)⟩⟩
theorem ok_law {cL PL : Addr} (T : Top K mg C_Shape C_Plan C_Links C_PlanTaken C_PlanRefused A_plan_of) (L : TopL K mg base cL PL) {f : Addr} {fd : FuncData} (F : Def K mg "law" s_law f fd) : FnOk P w K mg base C8.CX0 10 f fd ["script"] (spLaw36 K PL) := by
  obtain ⟨f', fd', F', _, hcode⟩ := L.dl
  have ef : f' = f := by
    have := F'.mgf.symm.trans F.mgf
    injection this with this
    injection this
  subst ef
  have efd : fd' = fd := by
    obtain ⟨oc, od, dV, kV, doc, pm, an, cdv, ct, osl, _, lk, _⟩ := F.fn.ex
    obtain ⟨oc', od', dV', kV', doc', pm', an', cdv', ct', osl', _, lk', _⟩ := F'.fn.ex
    have := lk'.symm.trans lk
    injection this with this
    injection this with _ _ this
    injection this
  subst efd
  refine fn1c F hcode sc_law fun A outer s H a Q E hr h => ?_
  have nd := sc_law.nd
  obtain ⟨l, sc0, rfl, hs, tabs0, k⟩ := h
  refine ⟨_, (pss_cons 
      (ps_set (i := 1) nd rfl (Or.inl rfl) (pe_c (c__law_bag T) hr (by decide) (by rfl) (pa_cons (pv 0) pa_nil))) (pss_cons 
      (ps_set (i := 2) nd rfl (Or.inl rfl) (pe_c (c__law_web T) hr (by decide) (by rfl) (pa_cons (pv 1) (pa_cons pe_int pa_nil)))) (pss_cut 
      (ps_asg (pe_tup (pa_cons (pe_c (c__law_figure T) hr (by decide) (by rfl) (pa_cons (pv 1) (pa_cons (pv 2) pa_nil))) (pa_cons (pe_c (c__law_order T) hr (by decide) (by rfl) (pa_cons (pv 1) (pa_cons (pe_ix (ix_K (K := K) rfl) (pv 2) pe_int (fun _ _ => rfl)) pa_nil))) pa_nil))) (tup_K (K := K) (n := 2) rfl rfl (pgs_cons (pg_name (i := 8) nd rfl (Or.inl rfl)) (pgs_cons (pg_name (i := 9) nd rfl (Or.inr rfl)) pgs_nil)))) (pss_cons 
      (ps_set (i := 3) nd rfl (Or.inr rfl) (pe_c (c__law_low T) hr (by decide) (by rfl) (pa_cons (pv 9) (pa_cons (pe_ix (ix_K (K := K) rfl) (pv 2) pe_int (fun _ _ => rfl)) pa_nil)))) (pss_cut 
      (ps_set (i := 4) nd rfl (Or.inl rfl) (pe_c (c__law_spare T) hr (by decide) (by rfl) (pa_cons (pv 1) (pa_cons (pv 9) (pa_cons (pv 3) pa_nil))))) (pss_cut 
      (ps_set (i := 5) nd rfl (Or.inl rfl) (pe_c (c_low_pairs T) hr (by decide) (by rfl) (pa_cons (pv 8) (pa_cons (pe_callTy (listOf_K (K := K) rfl) (by rfl) T.list (by decide +kernel) (pa_cons (pv 9) pa_nil)) pa_nil)))) (pss_cut 
      (ps_if (PW.pt (pw_or (pt_not (pt_val (pe_c (c__law_same T) hr (by decide) (by rfl) (pa_cons (pv 5) (pa_cons (pv 3) pa_nil))))) (pw_or (pt_not (pt_val (pe_callB (all_K (K := K) rfl rfl) (by rfl) T.all (by decide +kernel) (pa_cons (pe_lc (own := [("pair", 7)]) rfl nd (pi_K (K := K) rfl (pe_ix (ix_K (K := K) rfl) (pv 2) pe_int (fun _ _ => rfl))) (blkOk_by (N := ["script", "bag", "web", "low", "idle", "found", "handed", "pair", "figure", "order", "first", "wide", "left", "ranked", "at", "later", "other"]) (sc := fnScope s_law) (by decide +kernel)) (fun _ _ _ _ _ => (pg_name (i := 7) nd rfl (Or.inl rfl))) (fun _ _ _ _ _ => pts_nil) (fun _ _ _ _ _ => (pe_cmpR (inD_K (K := K) rfl (room_65 hr)) (pv 7) (pv 3) (by with_unfolding_all rfl)))) pa_nil)))) (pw_or1 (pt_not (pt_val (pe_c (c__law_closed T) hr (by decide) (by rfl) (pa_cons (pv 9) (pa_cons (pv 3) pa_nil))))))))) (pss_one 
      (ps_ret pe_bl)) pss_nil) (pss_cut 
      (ps_expr (pe_bm PySem.F.plainAttrs_list PySem.F.slot_list_append PySem.F.type_list_append mt_append (pv 5) (pa_cons (pe_tup (pa_cons pe_str (pa_cons pe_str pa_nil))) pa_nil))) (pss_cut 
      (ps_set (i := 6) nd rfl (Or.inl rfl) (pe_c (c__law_mixed T) hr (by decide) (by rfl) (pa_cons (pv 1) (pa_cons (pe_op op_addU (pv 4) (pe_slice (sl_K (K := K) rfl) (pv 3) po_none (po_some pe_int))) pa_nil)))) (pss_cut 
      (ps_par (i := 10) (j := 11) rfl nd rfl rfl (by decide) rfl rfl (pa_cons (pe_c (c_plan_of T) hr (by decide) (by rfl) (pa_cons (pv 8) (pa_cons (pe_callTy (listOf_K (K := K) rfl) (by rfl) T.list (by decide +kernel) (pa_cons (pv 9) pa_nil)) pa_nil))) (pa_cons (pe_kw (k_plan_of_2_spare T) hr (by decide) (by rfl) (pa_cons (pv 8) (pa_cons (pe_callTy (listOf_K (K := K) rfl) (by rfl) T.list (by decide +kernel) (pa_cons (pv 9) pa_nil)) pa_nil)) (pk_cons (pv 6) pk_nil)) pa_nil)) (by rfl)) (pss_cut 
      (ps_if (PW.pt (pw_or (pt_not (pt_val (pe_c (c__law_same T) hr (by decide) (by rfl) (pa_cons (pe_mt0 (c_Plan_pairs T) hr (by decide) (pv 10)) (pa_cons (pv 3) pa_nil))))) (pw_or1 (pt_not (pt_val (pe_c (c__law_same T) hr (by decide) (by rfl) (pa_cons (pe_mt0 (c_Plan_pairs T) hr (by decide) (pv 11)) (pa_cons (pe_callB (srt_K (K := K) rfl hr) (by rfl) T.sorted (by decide +kernel) (pa_cons (pe_op op_addU (pv 3) (pv 4)) pa_nil)) pa_nil)))))))) (pss_one 
      (ps_ret pe_bl)) pss_nil) (pss_cut 
      (ps_if (PW.pt (pw_or (pt_not (pt_val (pe_c (c__law_same T) hr (by decide) (by rfl) (pa_cons (pe_lst (pa_cons (pe_mt0 (c_Plan_order T) hr (by decide) (pv 10)) (pa_cons (pe_mt0 (c_Plan_order T) hr (by decide) (pv 11)) pa_nil))) (pa_cons (pe_lst (pa_cons (pv 9) (pa_cons (pv 9) pa_nil))) pa_nil))))) (pw_or1 (pt_cmpR (ne_K (K := K) rfl hr) (pe_callB (srt_K (K := K) rfl hr) (by rfl) T.sorted (by decide +kernel) (pa_cons (pv 6) pa_nil)) (pe_callB (srt_K (K := K) rfl hr) (by rfl) T.sorted (by decide +kernel) (pa_cons (pe_op op_addU (pv 4) (pe_slice (sl_K (K := K) rfl) (pv 3) po_none (po_some pe_int))) pa_nil)) (nomark _))))) (pss_one 
      (ps_ret pe_bl)) pss_nil) (pss_cut 
      (ps_if (PW.pt (pw_or (pt_cmpR (op_neOwn (c_PlanTaken___eq__ T) (hr.mono (by decide)) T.ne_PlanTaken T.ins_PlanTaken.hm) (pe_c (c_judge_plan T) hr (by decide) (by rfl) (pa_cons (pv 8) (pa_cons (pv 10) pa_nil))) (pe_mk (c_PlanTaken___init__ T) hr (by decide) (by rfl) (pa_cons (pe_callB (len_K (K := K) rfl) (by rfl) T.len (by decide +kernel) (pa_cons (pv 3) pa_nil)) (pa_cons pe_int pa_nil))) (nomark _)) (pw_or1 (pt_cmpR (op_neOwn (c_PlanTaken___eq__ T) (hr.mono (by decide)) T.ne_PlanTaken T.ins_PlanTaken.hm) (pe_c (c_judge_plan T) hr (by decide) (by rfl) (pa_cons (pv 8) (pa_cons (pv 11) pa_nil))) (pe_mk (c_PlanTaken___init__ T) hr (by decide) (by rfl) (pa_cons (pe_callB (len_K (K := K) rfl) (by rfl) T.len (by decide +kernel) (pa_cons (pv 3) pa_nil)) (pa_cons (pe_callB (len_K (K := K) rfl) (by rfl) T.len (by decide +kernel) (pa_cons (pv 4) pa_nil)) pa_nil))) (nomark _))))) (pss_one 
      (ps_ret pe_bl)) pss_nil) (pss_cut 
      (ps_for PassesOwn.never rfl (pi_K (K := K) rfl (pe_slice (sl_K (K := K) rfl) (pe_c (c__law_mixed T) hr (by decide) (by rfl) (pa_cons (pv 1) (pa_cons (pv 3) pa_nil))) po_none (po_some pe_int))) (pg_name (i := 7) nd rfl (Or.inr rfl)) (pss_cut 
      (ps_set (i := 12) nd rfl (Or.inl rfl) (pe_op op_addU (pe_lc (own := [("other", 16)]) rfl nd (pi_K (K := K) rfl (pv 3)) (blkOk_by (N := ["script", "bag", "web", "low", "idle", "found", "handed", "pair", "figure", "order", "first", "wide", "left", "ranked", "at", "later", "other"]) (sc := fnScope s_law) (by decide +kernel)) (fun _ _ _ _ _ => (pg_name (i := 16) nd rfl (Or.inl rfl))) (fun _ _ _ _ _ => (pts_one (pt_cmpR (ne_K (K := K) rfl hr) (pv 16) (pv 7) (nomark _)))) (fun _ _ _ _ _ => (pv 16))) (pe_ifExp (pt_cmpR (eq_K (K := K) rfl hr) (pe_c (c__law_draw T) hr (by decide) (by rfl) (pa_cons (pv 1) (pa_cons pe_int pa_nil))) pe_int (nomark _)) (pv 4) (pe_lst pa_nil)))) (pss_one 
      (ps_if (pt_not (pt_val (pe_c (c__law_refused_at T) hr (by decide) (by rfl) (pa_cons (pv 8) (pa_cons (pv 9) (pa_cons (pv 12) (pa_cons (pv 7) pa_nil))))))) (pss_one 
      (ps_ret pe_bl)) pss_nil)))) (pss_cut 
      (ps_if (pt_cmpR op_gtU (pe_callB (len_K (K := K) rfl) (by rfl) T.len (by decide +kernel) (pa_cons (pv 3) pa_nil)) pe_int (nomark _)) (pss_cons 
      (ps_set (i := 13) nd rfl (Or.inr rfl) (pe_sortIx (K := K) (io := 9) (oN := "order") (x := "pair") (T := [(PL, qL)]) (q := qL) rfl hr (by rfl) T.sorted (pv 3) L.tb rfl rfl (List.mem_cons_self ..) (fun p hp _ => by rw [List.mem_singleton.mp hp]) ⟨⟨_, _, _, _, _, _, _, _, _, _, _, _, _, _, _, _, rfl, rfl, rfl⟩, rfl, rfl, rfl, by decide, rfl, rfl, by decide, rfl, rfl, rfl, fun _ _ _ _ _ _ => rfl⟩ rfl rfl)) (pss_cons 
      (ps_set (i := 14) nd rfl (Or.inr rfl) (pe_c (c__law_draw T) hr (by decide) (by rfl) (pa_cons (pv 1) (pa_cons (pe_op op_sub (pe_callB (len_K (K := K) rfl) (by rfl) T.len (by decide +kernel) (pa_cons (pv 13) pa_nil)) pe_int) pa_nil)))) (pss_cons 
      (ps_set (i := 15) nd rfl (Or.inr rfl) (pe_op op_addU (pe_op op_addU (pv 14) pe_int) (pe_c (c__law_draw T) hr (by decide) (by rfl) (pa_cons (pv 1) (pa_cons (pe_op op_sub (pe_op op_sub (pe_callB (len_K (K := K) rfl) (by rfl) T.len (by decide +kernel) (pa_cons (pv 13) pa_nil)) (pv 14)) pe_int) pa_nil))))) (pss_cut 
      (ps_setLc (i := 12) (own := [("other", 16)]) rfl nd rfl rfl (sw_true rfl rfl rfl (by decide +kernel)) (pi_K (K := K) rfl (pv 13)) (blkOk_by (N := ["script", "bag", "web", "low", "idle", "found", "handed", "pair", "figure", "order", "first", "wide", "left", "ranked", "at", "later", "other"]) (sc := fnScope s_law) (by decide +kernel)) (fun _ _ _ _ _ => (pg_name (i := 16) nd rfl (Or.inl rfl))) (fun _ _ _ _ _ => (pts_one (PW.pt (pw_and (pt_cmpR (ne_K (K := K) rfl hr) (pv 16) (pe_ix (ix_K (K := K) rfl) (pv 13) (pv 14) (fun _ _ => rfl)) (nomark _)) (pw_and1 (pt_cmpR (ne_K (K := K) rfl hr) (pv 16) (pe_ix (ix_K (K := K) rfl) (pv 13) (pv 15) (fun _ _ => rfl)) (nomark _))))))) (fun _ _ _ _ _ => (pv 16))) (pss_one 
      (ps_if (pt_not (pt_val (pe_c (c__law_refused_at T) hr (by decide) (by rfl) (pa_cons (pv 8) (pa_cons (pv 9) (pa_cons (pe_c (c__law_mixed T) hr (by decide) (by rfl) (pa_cons (pv 1) (pa_cons (pe_op op_addU (pv 12) (pv 4)) pa_nil))) (pa_cons (pe_ix (ix_K (K := K) rfl) (pv 13) (pv 14) (fun _ _ => rfl)) pa_nil))))))) (pss_one 
      (ps_ret pe_bl)) pss_nil)))))) pss_nil) (pss_one 
      (ps_ret (pe_and (pe_c (c__law_same T) hr (by decide) (by rfl) (pa_cons (pe_c (c_low_pairs T) hr (by decide) (by rfl) (pa_cons (pv 8) (pa_cons (pe_callTy (listOf_K (K := K) rfl) (by rfl) T.list (by decide +kernel) (pa_cons (pv 9) pa_nil)) pa_nil))) (pa_cons (pv 3) pa_nil))) (pe_one (pe_c (c__law_same T) hr (by decide) (by rfl) (pa_cons (pe_mt0 (c_Plan_pairs T) hr (by decide) (pe_c (c_plan_of T) hr (by decide) (by rfl) (pa_cons (pv 8) (pa_cons (pe_callTy (listOf_K (K := K) rfl) (by rfl) T.list (by decide +kernel) (pa_cons (pv 9) pa_nil)) pa_nil)))) (pa_cons (pv 3) pa_nil)))))))))))))))))))))), ?_⟩
  refine ⟨_, rfl, _, rfl, l, sc0, rfl, hs, fun p H0 e0 hb => ?_⟩
  have tabs := tabs_same tabs0 e0
  clear tabs0 e0 hs
  refine ⟨_, rfl, _, _, rfl, p, 9, rfl, rfl, hb, by decide, by decide, fun H1 W ns ps e1 hW ok => ?_⟩
  have hb := hb.mono e1
  have tabs := tabs_same tabs e1
  clear e1
  obtain ⟨Dn, Fn, xs, hWt, hDn, hFn, hxs⟩ := id hW
  have at0 : atI [V.ref Dn, .ref Fn] 0 = some (.ref Dn) := rfl
  have at1 : atI [V.ref Dn, .ref Fn] 1 = some (.ref Fn) := rfl
  have lns := ok.ln
  have lps := ok.lp
  have lxs := hxs.len
  -- figure, order
  refine ⟨fun σ G => Same H1 G ∧ ∃ (X O : Addr) (order : List Str), ShapeAt C_Shape G X (ns.mergeSort stLe) (ps.mergeSort twLe) ∧ G O = some (.lst (order.map V.str)) ∧ order.Perm ns ∧ σ = [some (.ref l), some (.ref p), some (.ref W), none, none, none, none, none, some (.ref X), some (.ref O), none, none, none, none, none, none, none], ?_, ?_⟩
  · refine ⟨_, rfl, _, rfl, _, _, rfl, p, W, ns, ps, 9, rfl, rfl, hb, hW, ok, by decide, fun G X e hX => ?_⟩
    refine ⟨_, rfl, _, rfl, .inr (.inl ⟨W, _, _, _, rfl, rfl, SqT.of (e _ _ hWt), at0, ?_⟩)⟩
    refine ⟨_, _, rfl, p, Dn, ns, rfl, hb.mono e, rfl, e _ _ hDn, by omega, fun G2 O order e2 nO hO pm => ?_⟩
    refine ⟨Nat.le_of_ble_eq_true rfl, fun t nt => ⟨t, [.ref X, .ref O], rfl, SqT.of upd_same, rfl, .ref X, [.ref O], rfl, .ref O, [], rfl, rfl, ?_⟩⟩
    have e3 := grow (o := .tup [.ref X, .ref O]) nt
    exact ⟨e.trans (e2.trans e3), X, O, order, hX.mono (e2.trans e3), e3 _ _ hO, pm, rfl⟩
  rintro σ H2 ⟨e2, X, O, order, hX, hO, po, rfl⟩
  have hb := hb.mono e2
  have tabs := tabs_same tabs e2
  have hWt := e2 _ _ hWt
  have hFn := e2 _ _ hFn
  have hxs := hxs.kp (Same.kpt e2)
  clear hDn hW at0 e2
  have ndo : order.Nodup := po.nodup_iff.mpr ok.nd
  have mo : ∀ r, r ∈ order ↔ r ∈ ns := fun r => po.mem_iff
  have lo : order.length ≤ 9 := by rw [po.length_eq]; exact lns
  have nmo : Nms order := fun r m => ok.nm r ((mo r).mp m)
  have neo : order ≠ [] := fun q => ok.ne (by
    have := po.length_eq
    rw [q] at this
    exact List.eq_nil_of_length_eq_zero this.symm)
  have pw := List.mergeSort_perm ns stLe
  have ndw : (ns.mergeSort stLe).Nodup := pw.nodup_iff.mpr ok.nd
  have mow : ∀ r, r ∈ order ↔ r ∈ ns.mergeSort stLe := fun r => (mo r).trans pw.mem_iff.symm
  have lw : (ns.mergeSort stLe).length ≤ 9 := by rw [pw.length_eq]; exact lns
  have nmw : Nms (ns.mergeSort stLe) := fun r m => ok.nm r (pw.mem_iff.mp m)
  have pq := List.mergeSort_perm ps twLe
  have lq : (ps.mergeSort twLe).length ≤ 100 := by rw [pq.length_eq]; exact lps
  have hEq : ∀ q ∈ ps.mergeSort twLe, q.1 ∈ ns.mergeSort stLe ∧ q.2 ∈ ns.mergeSort stLe ∧ q.1 ≠ q.2 := fun q m => by
    obtain ⟨a, b, c⟩ := ok.ok.2 q (pq.mem_iff.mp m)
    exact ⟨pw.mem_iff.mpr a, pw.mem_iff.mpr b, c⟩
  have hEo : ∀ q ∈ ps, q.1 ∈ order ∧ q.2 ∈ order ∧ q.1 ≠ q.2 := fun q m => by
    obtain ⟨a, b, c⟩ := ok.ok.2 q m
    exact ⟨(mo _).mpr a, (mo _).mpr b, c⟩
  have mq : ∀ q, q ∈ ps ↔ q ∈ ps.mergeSort twLe := fun q => pq.mem_iff.symm
  generalize ns.mergeSort stLe = ws at ndw mow lw nmw hEq hX pw
  generalize ps.mergeSort twLe = qs at lq hEq mq hX pq
  -- low
  refine ⟨_, rfl, _, rfl, .inr (.inl ⟨W, _, _, _, rfl, rfl, SqT.of hWt, at1, ?_⟩)⟩
  refine ⟨_, _, rfl, O, Fn, xs, ps, order, rfl, rfl, hFn, hxs, lps, hO, nmo, ndo, by omega, hEo, fun H3 Lo ls low e3 nLo hLo hls prl ll => ?_⟩
  have prl : Prs (fun q => LowP qs order q) low := prl.iff fun q => lowP_congr mq
  have hb := hb.mono e3
  have tabs := tabs_same tabs e3
  have hX := hX.mono e3
  have hO := e3 _ _ hO
  have hWt := e3 _ _ hWt
  have hFn := e3 _ _ hFn
  have hxs := hxs.kp (Same.kpt e3)
  clear e3 nLo
  have lowo : ∀ q ∈ low, q.1 ∈ order ∧ q.2 ∈ order ∧ q.1 ≠ q.2 := fun q m => by
    obtain ⟨a, b, c, _⟩ := (prl.mem q).mp m
    exact ⟨a, b, c⟩
  have ll81 : low.length ≤ 9 * 9 := tws_len prl.nd (fun q m => ⟨(lowo q m).1, (lowo q m).2.1⟩) lo
  have nml : NmT low := fun q m => ⟨nmo _ (lowo q m).1, nmo _ (lowo q m).2.1⟩
  have lls := hls.len
  -- idle
  refine ⟨fun σ G => Same H3 G ∧ ∃ (I : Addr) (is : List V) (idle : List Tw), G I = some (.lst is) ∧ TwsV G is idle ∧ idle.length ≤ 10 ∧ PsOk order idle ∧ (∀ q ∈ idle, q ∉ low) ∧ σ = [some (.ref l), some (.ref p), some (.ref W), some (.ref Lo), some (.ref I), none, none, none, some (.ref X), some (.ref O), none, none, none, none, none, none, none], ?_, ?_⟩
  · exact ⟨_, rfl, _, rfl, _, rfl, _, _, _, rfl, p, O, Lo, order, ls, low, rfl, rfl, rfl, hb, hO, hLo, hls, ll, nml, nmo, neo, by omega, fun G I is idle e nI hI his li oki ni => ⟨e, I, is, idle, hI, his, li, oki, ni, rfl⟩⟩
  rintro σ H4 ⟨e4, I, is, idle, hI, his, li, oki, ni, rfl⟩
  have hb := hb.mono e4
  have tabs := tabs_same tabs e4
  have hX := hX.mono e4
  have hO := e4 _ _ hO
  have hWt := e4 _ _ hWt
  have hFn := e4 _ _ hFn
  have hxs := hxs.kp (Same.kpt e4)
  have hLo := e4 _ _ hLo
  have hls := hls.kp (Same.kpt e4)
  clear e4
  have lis := his.len
  have okx : ∀ q ∈ idle, q.1 ∈ order ∧ q.2 ∈ order ∧ q.1 ≠ q.2 := oki.2
  -- found
  refine ⟨fun σ G => Same H4 G ∧ ∃ (D : Addr) (ys : List V), H4 D = none ∧ G D = some (.lst ys) ∧ TwsV G ys low ∧ σ = [some (.ref l), some (.ref p), some (.ref W), some (.ref Lo), some (.ref I), some (.ref D), none, none, some (.ref X), some (.ref O), none, none, none, none, none, none, none], ?_, ?_⟩
  · refine ⟨_, rfl, _, rfl, O, _, rfl, .inl (SqL.of hO), fun O2 nO2 => ?_⟩
    have e := grow (o := .lst (order.map V.str)) nO2
    refine ⟨_, _, rfl, X, O2, ws, order, qs, rfl, rfl, hX.mono e, SqL.of upd_same, ndw, by omega, ndo, mow, by omega, hEq, fun G D ys fs e2 nD hD hys islow => ?_⟩
    have prf : Prs (fun q => LowP qs order q) (fs.mergeSort twLe) := by
      refine ⟨(List.mergeSort_perm fs twLe).nodup_iff.mpr islow.1, lin_tw.sorted fs, fun q => ?_⟩
      rw [List.mem_mergeSort]
      exact islow.lowP mow q
    rw [prf.uniq prl] at hys
    exact ⟨e.trans e2, D, ys, e.free nD, hD, hys, rfl⟩
  rintro σ H5 ⟨e5, D, ys, nD, hD, hys, rfl⟩
  have lys := hys.len
  -- if not _law_same(found, low) ..
  refine ⟨fun σ G => Same H4 G ∧ G D = some (.lst ys) ∧ σ = [some (.ref l), some (.ref p), some (.ref W), some (.ref Lo), some (.ref I), some (.ref D), none, none, some (.ref X), some (.ref O), none, none, none, none, none, none, none], ?_, ?_⟩
  · refine ⟨_, rfl, _, rfl, _, _, rfl, .list (low.map twD), lk_tws ll, dp_tws hD hys, dp_tws (e5 _ _ hLo) (hls.kp (Same.kpt e5)), fun G2 e2 => ⟨_, rfl, iteF ?_⟩⟩
    have e6 := e5.trans e2
    refine ⟨_, rfl, .inr (.inl ⟨W, _, _, _, rfl, rfl, SqT.of (e6 _ _ hWt), at1, .inl ⟨Fn, rfl, ⟨_, SqL.of (e6 _ _ hFn)⟩, fun Z nZ => ?_⟩⟩)⟩
    refine lc_map (walk_list (xs := xs)) (fun _ => .bl true) grow_at (by omega) nZ (fun G3 e3 => SqL.of (e3 _ _ (e6 _ _ hFn))) ?_ ?_
    · rintro j v G3 G4 hj e3 ⟨rfl, gv⟩ R kk
      obtain ⟨q, gq, hq⟩ := hxs.get gv
      have mqx := List.mem_of_getElem? gq
      have tv := (hq.kp (Same.kpt e6)).kp (Same.kpt e3)
      have e7 := e6.trans e3
      have ml : q ∈ low := (prl.mem q).mpr ⟨(hEo q mqx).1, (hEo q mqx).2.1, (hEo q mqx).2.2, .edge ((mq q).mp mqx)⟩
      refine ⟨rfl, _, rfl, _, rfl, twD q, low.map twD, tv.dp, .lst (SqL.of (e7 _ _ hLo)) (hls.kp (Same.kpt e7)).dp, shaped_tw ⟨nmo _ (hEo q mqx).1, nmo _ (hEo q mqx).2.1⟩, shaped_tws nml, ?_⟩
      rw [any_tw, decide_eq_true ml]
      exact kk _ (Same.refl _)
    · intro G3 e3 hZ
      refine ⟨Z, (List.range xs.length).map fun _ => true, rfl, SqL.of (by rw [hZ, List.map_map]; rfl), ?_⟩
      rw [all_true]
      refine ⟨_, rfl, iteF ?_⟩
      have e7 := e6.trans e3
      refine ⟨_, rfl, _, rfl, _, _, rfl, O, Lo, order, ls, low, qs, rfl, rfl, e7 _ _ hO, e7 _ _ hLo, hls.kp (Same.kpt e7), nmo, ndo, by omega, prl.mem, fun G4 e4 => ?_⟩
      exact ⟨_, rfl, iteF ⟨e7.trans e4, (e2.trans (e3.trans e4)) _ _ hD, rfl⟩⟩
  rintro σ H6 ⟨e6, hD6, rfl⟩
  -- found.append
  refine ⟨fun σ G => Same H4 G ∧ σ = [some (.ref l), some (.ref p), some (.ref W), some (.ref Lo), some (.ref I), some (.ref D), none, none, some (.ref X), some (.ref O), none, none, none, none, none, none, none], ?_, ?_⟩
  · refine ⟨_, rfl, .inl ⟨rfl, _, SqL.of hD6⟩, Nat.le_of_ble_eq_true rfl, fun t nt => ?_⟩
    exact ⟨D, ys, _, rfl, rfl, (grow nt) _ _ hD6, size5 (by omega), same_mut (e6.trans (grow nt)) nD, rfl⟩
  clear hD hys e5 hD6 e6 nD lys ys
  rintro σ H7 ⟨e7, rfl⟩
  have hb := hb.mono e7
  have tabs := tabs_same tabs e7
  have hX := hX.mono e7
  have hO := e7 _ _ hO
  have hLo := e7 _ _ hLo
  have hls := hls.kp (Same.kpt e7)
  have hI := e7 _ _ hI
  have his := his.kp (Same.kpt e7)
  clear e7 hWt hFn hxs
  -- handed
  refine ⟨fun σ G => Same H7 G ∧ ∃ (Hd : Addr) (hs : List V) (hd : List Tw), G Hd = some (.lst hs) ∧ TwsV G hs hd ∧ hd.Perm (idle ++ low.take 1) ∧ σ = [some (.ref l), some (.ref p), some (.ref W), some (.ref Lo), some (.ref I), some (.ref D), some (.ref Hd), none, some (.ref X), some (.ref O), none, none, none, none, none, none, none], ?_, ?_⟩
  · refine ⟨_, rfl, _, rfl, _, rfl, 1, rfl, .inl ⟨Lo, _, rfl, SqL.of hLo, fun q nq => ?_⟩⟩
    rw [show cutV ls none (some (1 : Int)) = ls.take 1 from cutV_pre ls 1]
    have e1 := grow (o := .lst (ls.take 1)) nq
    have lt := List.length_take_le 1 ls
    refine .inr (.inr ⟨I, q, is, ls.take 1, rfl, rfl, e1 _ _ hI, upd_same, size5' (by omega), fun A nA => ?_⟩)
    have e2 := e1.trans (grow (o := .lst (is ++ ls.take 1)) nA)
    have hA : (upd (upd H7 q (.lst (ls.take 1))) A (.lst (is ++ ls.take 1))) A = some (.lst (is ++ ls.take 1)) := upd_same
    generalize upd (upd H7 q (.lst (ls.take 1))) A (.lst (is ++ ls.take 1)) = G1 at e2 hA ⊢
    refine ⟨_, _, rfl, p, A, _, rfl, hb.mono e2, rfl, SqL.of hA, by rw [List.length_append]; omega, fun G Hd cs e3 nHd hHd pm => ?_⟩
    have e4 := e2.trans e3
    have hall : TwsV G (is ++ ls.take 1) (idle ++ low.take 1) := (his.kp (Same.kpt e4)).app ((hls.kp (Same.kpt e4)).take 1)
    obtain ⟨hd, hhd, ph⟩ := hall.perm pm
    exact ⟨e4, Hd, cs, hd, hHd, hhd, ph, rfl⟩
  rintro σ H8 ⟨e8, Hd, hs, hd, hHd, hhd, ph, rfl⟩
  have hb := hb.mono e8
  have tabs := tabs_same tabs e8
  have hX := hX.mono e8
  have hO := e8 _ _ hO
  have hLo := e8 _ _ hLo
  have hls := hls.kp (Same.kpt e8)
  have hI := e8 _ _ hI
  have his := his.kp (Same.kpt e8)
  clear e8
  have mhd : ∀ q ∈ hd, q ∈ idle ∨ q ∈ low := fun q m => (List.mem_append.mp (ph.mem_iff.mp m)).imp id List.mem_of_mem_take
  have hdo : ∀ q ∈ hd, q.1 ∈ ws ∧ q.2 ∈ ws ∧ q.1 ≠ q.2 := fun q m => by
    rcases mhd q m with h | h
    · obtain ⟨a, b, c⟩ := okx q h
      exact ⟨(mow _).mp a, (mow _).mp b, c⟩
    · obtain ⟨a, b, c⟩ := lowo q h
      exact ⟨(mow _).mp a, (mow _).mp b, c⟩
  have lhd : hd.length ≤ 11 := by
    rw [ph.length_eq, List.length_append]
    have := List.length_take_le 1 low
    omega
  have pri : Prs (fun q => LowP qs order q ∨ q ∈ hd) ((low ++ idle).mergeSort twLe) := by
    refine ⟨(List.mergeSort_perm _ twLe).nodup_iff.mpr (List.nodup_append.mpr ⟨prl.nd, oki.1, fun a ma b mb e => ni b mb (e ▸ ma)⟩), lin_tw.sorted _, fun q => ?_⟩
    rw [List.mem_mergeSort, List.mem_append, prl.mem]
    constructor
    · rintro (h | h)
      · exact .inl h
      · exact .inr (ph.mem_iff.mpr (List.mem_append_left _ h))
    · rintro (h | h)
      · exact .inl h
      · rcases mhd q h with h | h
        · exact .inr h
        · exact .inl ((prl.mem q).mp h)
  have lwd : (low ++ idle).length ≤ 10010 := by
    rw [List.length_append]
    omega
  -- first, wide
  refine ⟨fun σ G => Same H8 G ∧ ∃ (P1 P2 : Addr), PlanAt C_Plan G P1 order low ∧ PlanAt C_Plan G P2 order ((low ++ idle).mergeSort twLe) ∧ σ = [some (.ref l), some (.ref p), some (.ref W), some (.ref Lo), some (.ref I), some (.ref D), some (.ref Hd), none, some (.ref X), some (.ref O), some (.ref P1), some (.ref P2), none, none, none, none, none], ?_, ?_⟩
  · refine ⟨_, rfl, _, rfl, O, _, rfl, .inl (SqL.of hO), fun O2 nO2 => ?_⟩
    have e1 := grow (o := .lst (order.map V.str)) nO2
    refine ⟨_, _, _, rfl, X, O2, A_plan_of, ws, order, qs, [], [], rfl, rfl, rfl, hX.mono e1, upd_same, .inr (T.e_plan_of _), .nil, nmw, ndw, by omega, ndo, mow, by omega, hEq, Nat.zero_le _, fun q m => (nomatch m), fun G P1 rs e2 hP1 prs => ?_⟩
    have e12 := e1.trans e2
    have prs : Prs (fun q => LowP qs order q) rs := prs.iff fun q => ⟨fun h => h.elim id fun m => (nomatch m), .inl⟩
    rw [prs.uniq prl] at hP1
    refine ⟨_, rfl, _, rfl, O, _, rfl, .inl (SqL.of (e12 _ _ hO)), fun O3 nO3 => ?_⟩
    have e3 := e12.trans (grow (o := .lst (order.map V.str)) nO3)
    have hP1 := hP1.mono (grow (o := .lst (order.map V.str)) nO3)
    refine ⟨_, rfl, rfl, rfl, _, _, _, rfl, X, O3, Hd, ws, order, qs, hd, hs, rfl, rfl, rfl, hX.mono e3, upd_same, .inl (SqL.of (e3 _ _ hHd)), hhd.kp (Same.kpt e3), nmw, ndw, by omega, ndo, mow, by omega, hEq, by omega, hdo, fun G2 P2 rs2 e4 hP2 prs2 => ?_⟩
    rw [prs2.uniq pri] at hP2
    exact ⟨_, _, rfl, e3.trans e4, P1, P2, hP1.mono e4, hP2, rfl⟩
  rintro σ H9 ⟨e9, P1, P2, hP1, hP2, rfl⟩
  have hb := hb.mono e9
  have tabs := tabs_same tabs e9
  have hX := hX.mono e9
  have hO := e9 _ _ hO
  have hLo := e9 _ _ hLo
  have hls := hls.kp (Same.kpt e9)
  have hI := e9 _ _ hI
  have his := his.kp (Same.kpt e9)
  have hHd := e9 _ _ hHd
  have hhd := hhd.kp (Same.kpt e9)
  clear e9
  have lpw : ((low ++ idle).mergeSort twLe).length = low.length + idle.length := by rw [List.length_mergeSort, List.length_append]
  -- if not _law_same(first.pairs(), low) ..
  refine ⟨fun σ G => Same H9 G ∧ σ = [some (.ref l), some (.ref p), some (.ref W), some (.ref Lo), some (.ref I), some (.ref D), some (.ref Hd), none, some (.ref X), some (.ref O), some (.ref P1), some (.ref P2), none, none, none, none, none], ?_, ?_⟩
  · obtain ⟨dx1, R1, T1, h1, _⟩ := id hP1
    obtain ⟨dx2, R2, T2, h2, _⟩ := id hP2
    refine ⟨_, rfl, P1, dx1, _, rfl, h1, plF_no (by decide +kernel) (by decide +kernel), ?_⟩
    refine ⟨_, rfl, P1, order, low, rfl, hP1, fun q vs nq hvs => ?_⟩
    have e1 := grow (o := .lst vs) nq
    refine ⟨_, rfl, _, _, rfl, .list (low.map twD), lk_tws ll, dp_tws upd_same (hvs.kp (Same.kpt e1)), dp_tws (e1 _ _ hLo) (hls.kp (Same.kpt e1)), fun G2 e2 => ⟨_, rfl, iteF ?_⟩⟩
    have e12 := e1.trans e2
    refine ⟨_, rfl, P2, dx2, _, rfl, e12 _ _ h2, plF_no (by decide +kernel) (by decide +kernel), ?_⟩
    refine ⟨_, rfl, P2, order, _, rfl, hP2.mono e12, fun q2 vs2 nq2 hvs2 => ?_⟩
    have e3 := grow (o := .lst vs2) nq2
    have e13 := e12.trans e3
    have hq2 : (upd G2 q2 (.lst vs2)) q2 = some (.lst vs2) := upd_same
    have hvs2 := hvs2.kp (Same.kpt e3)
    generalize upd G2 q2 (.lst vs2) = G3 at e3 e13 hq2 hvs2 ⊢
    refine ⟨_, rfl, _, rfl, .inr (.inr ⟨Lo, I, ls, is, rfl, rfl, e13 _ _ hLo, e13 _ _ hI, size5' (by omega), fun A nA => ?_⟩)⟩
    have e4 := grow (o := .lst (ls ++ is)) nA
    have e14 := e13.trans e4
    have hA : (upd G3 A (.lst (ls ++ is))) A = some (.lst (ls ++ is)) := upd_same
    have hq3 := e4 _ _ hq2
    have hvs3 := hvs2.kp (Same.kpt e4)
    generalize upd G3 A (.lst (ls ++ is)) = G4 at e4 e14 hA hq3 hvs3 ⊢
    dsimp only [tNil]
    refine srt_tw (.inl (SqL.of hA)) ((hls.kp (Same.kpt e14)).app (his.kp (Same.kpt e14))) fun B zs nB hzs => ?_
    have e5 := grow (o := .lst zs) nB
    refine ⟨_, _, rfl, .list (((low ++ idle).mergeSort twLe).map twD), lk_tws (by rw [lpw]; omega), dp_tws (e5 _ _ hq3) (hvs3.kp (Same.kpt e5)), dp_tws upd_same hzs, fun G5 e6 => ⟨_, rfl, iteF ⟨e14.trans (e5.trans e6), rfl⟩⟩⟩
  rintro σ H10 ⟨e10, rfl⟩
  have hb := hb.mono e10
  have tabs := tabs_same tabs e10
  have hX := hX.mono e10
  have hO := e10 _ _ hO
  have hLo := e10 _ _ hLo
  have hls := hls.kp (Same.kpt e10)
  have hI := e10 _ _ hI
  have his := his.kp (Same.kpt e10)
  have hHd := e10 _ _ hHd
  have hhd := hhd.kp (Same.kpt e10)
  have hP1 := hP1.mono e10
  have hP2 := hP2.mono e10
  clear e10
  -- if not _law_same([first.order(), ..
  refine ⟨fun σ G => Same H10 G ∧ σ = [some (.ref l), some (.ref p), some (.ref W), some (.ref Lo), some (.ref I), some (.ref D), some (.ref Hd), none, some (.ref X), some (.ref O), some (.ref P1), some (.ref P2), none, none, none, none, none], ?_, ?_⟩
  · obtain ⟨dx1, R1, T1, h1, _⟩ := id hP1
    obtain ⟨dx2, R2, T2, h2, _⟩ := id hP2
    refine ⟨_, rfl, P1, dx1, _, rfl, h1, plF_no (by decide +kernel) (by decide +kernel), ?_⟩
    refine ⟨_, rfl, P1, order, low, rfl, hP1, fun A nA => ?_⟩
    have e1 := grow (o := .lst (order.map V.str)) nA
    have hA : (upd H10 A (.lst (order.map V.str))) A = some (.lst (order.map V.str)) := upd_same
    generalize upd H10 A (.lst (order.map V.str)) = G1 at e1 hA ⊢
    refine ⟨_, rfl, P2, dx2, _, rfl, e1 _ _ h2, plF_no (by decide +kernel) (by decide +kernel), ?_⟩
    refine ⟨_, rfl, P2, order, _, rfl, hP2.mono e1, fun B nB => ?_⟩
    have e2 := e1.trans (grow (o := .lst (order.map V.str)) nB)
    have hB : (upd G1 B (.lst (order.map V.str))) B = some (.lst (order.map V.str)) := upd_same
    have hA := (grow (o := .lst (order.map V.str)) nB) _ _ hA
    generalize upd G1 B (.lst (order.map V.str)) = G2 at e2 hB hA ⊢
    refine ⟨Nat.le_of_ble_eq_true rfl, fun Z nZ => ?_⟩
    have e3 := e2.trans (grow (o := .lst [.ref A, .ref B]) nZ)
    have hZ : (upd G2 Z (.lst [.ref A, .ref B])) Z = some (.lst [.ref A, .ref B]) := upd_same
    have hA := (grow (o := .lst [.ref A, .ref B]) nZ) _ _ hA
    have hB := (grow (o := .lst [.ref A, .ref B]) nZ) _ _ hB
    generalize upd G2 Z (.lst [.ref A, .ref B]) = G3 at e3 hZ hA hB ⊢
    refine ⟨_, rfl, _, rfl, Nat.le_of_ble_eq_true rfl, fun Y nY => ?_⟩
    have g4 := grow (o := .lst [.ref O, .ref O]) nY
    have e4 := e3.trans g4
    have hO4 := e4 _ _ hO
    refine ⟨_, _, rfl, .list [.list (order.map .str), .list (order.map .str)], ⟨Nat.le_of_ble_eq_true rfl, fun d md => ?_⟩, .lst (SqL.of (g4 _ _ hZ)) (.cons (dp_sts (g4 _ _ hA)) (.cons (dp_sts (g4 _ _ hB)) .nil)), .lst (SqL.of upd_same) (.cons (dp_sts hO4) (.cons (dp_sts hO4) .nil)), fun G5 e5 => ⟨_, rfl, iteF ?_⟩⟩
    · have lk : Lk 6 (.list (order.map .str)) := lk_sts (by omega)
      rcases List.mem_cons.mp md with rfl | md
      · exact lk
      · rw [List.mem_singleton.mp md]
        exact lk
    have e6 := e4.trans e5
    refine ⟨_, rfl, ?_⟩
    dsimp only [tNil]
    refine srt_tw (.inl (SqL.of (e6 _ _ hHd))) (hhd.kp (Same.kpt e6)) fun q1 z1 n1 hz1 => ?_
    rw [lin_tw.perm ph] at hz1
    have e7 := e6.trans (grow (o := .lst z1) n1)
    have hq1 : (upd G5 q1 (.lst z1)) q1 = some (.lst z1) := upd_same
    generalize upd G5 q1 (.lst z1) = G6 at e7 hq1 hz1 ⊢
    refine ⟨_, rfl, _, rfl, 1, rfl, .inl ⟨Lo, _, rfl, SqL.of (e7 _ _ hLo), fun q2 n2 => ?_⟩⟩
    rw [show cutV ls none (some (1 : Int)) = ls.take 1 from cutV_pre ls 1]
    have g8 := grow (o := .lst (ls.take 1)) n2
    have e8 := e7.trans g8
    have lt := List.length_take_le 1 ls
    refine .inr (.inr ⟨I, q2, is, ls.take 1, rfl, rfl, e8 _ _ hI, upd_same, size5' (by omega), fun A2 nA2 => ?_⟩)
    have g9 := grow (o := .lst (is ++ ls.take 1)) nA2
    have e9 := e8.trans g9
    have hA2 : (upd (upd G6 q2 (.lst (ls.take 1))) A2 (.lst (is ++ ls.take 1))) A2 = some (.lst (is ++ ls.take 1)) := upd_same
    have hq1 := (g8.trans g9) _ _ hq1
    have hz1 := hz1.kp (Same.kpt (g8.trans g9))
    generalize upd (upd G6 q2 (.lst (ls.take 1))) A2 (.lst (is ++ ls.take 1)) = G7 at g9 e9 hA2 hq1 hz1 ⊢
    dsimp only [tNil]
    refine srt_tw (.inl (SqL.of hA2)) ((his.kp (Same.kpt e9)).app ((hls.kp (Same.kpt e9)).take 1)) fun q3 z3 n3 hz3 => ?_
    have g10 := grow (o := .lst z3) n3
    refine .inr ⟨.list (((idle ++ low.take 1).mergeSort twLe).map twD), .list (((idle ++ low.take 1).mergeSort twLe).map twD), dp_tws (g10 _ _ hq1) (hz1.kp (Same.kpt g10)), dp_tws upd_same hz3, ?_, _, rfl, ?_⟩
    · have := depth_tws ((idle ++ low.take 1).mergeSort twLe)
      rw [Nat.min_self]
      show PyData.depthAll _ + 1 ≤ 60
      omega
    rw [eqv_self]
    exact iteF ⟨e9.trans g10, rfl⟩
  rintro σ H11 ⟨e11, rfl⟩
  have hb := hb.mono e11
  have tabs := tabs_same tabs e11
  have hX := hX.mono e11
  have hO := e11 _ _ hO
  have hLo := e11 _ _ hLo
  have hls := hls.kp (Same.kpt e11)
  have hI := e11 _ _ hI
  have his := his.kp (Same.kpt e11)
  have hP1 := hP1.mono e11
  have hP2 := hP2.mono e11
  clear e11 hHd hhd
  -- if judge_plan(..) != ..
  refine ⟨fun σ G => Same H11 G ∧ σ = [some (.ref l), some (.ref p), some (.ref W), some (.ref Lo), some (.ref I), some (.ref D), some (.ref Hd), none, some (.ref X), some (.ref O), some (.ref P1), some (.ref P2), none, none, none, none, none], ?_, ?_⟩
  · refine ⟨_, rfl, _, rfl, _, _, rfl, X, P1, ws, order, qs, low, low, rfl, rfl, hX, hP1, ndw, ndo, mow, by omega, by omega, by omega, hEq, prl, fun _ G1 y1 e1 tk1 => ?_, fun q hq => absurd ((prl.mem q).mpr hq.1.1) hq.1.2⟩
    refine ⟨_, rfl, .inl ⟨Lo, _, rfl, .inl (SqL.of (e1 _ _ hLo)), ?_⟩⟩
    intro z dz nz ndz ne2
    have g2 : Same G1 (upd (upd G1 dz (.own z)) z (.ins C_PlanTaken dz [])) := (grow ndz).trans (grow (by rw [upd_ne ne2.symm]; exact nz))
    refine ⟨_, _, _, rfl, z, dz, _, _, rfl, rfl, rfl, upd_same, fun G2 kp tk2 => ⟨rfl, ?_⟩⟩
    have e2 : Same G1 G2 := fun b o h => kp _ _ (g2 _ _ h) (ne_of_none h nz)
    obtain ⟨dy1, hy1⟩ := tk1.mono e2
    obtain ⟨dz2, hz2⟩ := tk2
    refine ⟨y1, _, _, z, _, _, rfl, rfl, hy1, hz2, _, _, rfl, y1, z, _, _, _, _, rfl, rfl, ⟨dy1, hy1⟩, ⟨dz2, hz2⟩, _, rfl, ?_⟩
    rw [decide_eq_true (show ((low.length : Nat) : Int) = ls.length ∧ (low.length : Int) - low.length = 0 from ⟨by omega, by omega⟩)]
    refine ⟨_, rfl, iteF ?_⟩
    have e12 := e1.trans e2
    refine ⟨_, rfl, _, rfl, _, _, rfl, X, P2, ws, order, qs, (low ++ idle).mergeSort twLe, low, rfl, rfl, hX.mono e12, hP2.mono e12, ndw, ndo, mow, by omega, by omega, by rw [lpw]; omega, hEq, prl, fun _ G3 y3 e3 tk3 => ?_, fun q hq => absurd (List.mem_mergeSort.mpr (List.mem_append_left _ ((prl.mem q).mpr hq.1.1))) hq.1.2⟩
    have e13 := e12.trans e3
    refine ⟨_, rfl, .inl ⟨Lo, _, rfl, .inl (SqL.of (e13 _ _ hLo)), ?_⟩⟩
    refine ⟨_, rfl, .inl ⟨I, _, rfl, .inl (SqL.of (e13 _ _ hI)), ?_⟩⟩
    intro z3 dz3 nz3 ndz3 ne3
    have g4 : Same G3 (upd (upd G3 dz3 (.own z3)) z3 (.ins C_PlanTaken dz3 [])) := (grow ndz3).trans (grow (by rw [upd_ne ne3.symm]; exact nz3))
    refine ⟨_, _, _, rfl, z3, dz3, _, _, rfl, rfl, rfl, upd_same, fun G4 kp4 tk4 => ⟨rfl, ?_⟩⟩
    have e4 : Same G3 G4 := fun b o h => kp4 _ _ (g4 _ _ h) (ne_of_none h nz3)
    obtain ⟨dy3, hy3⟩ := tk3.mono e4
    obtain ⟨dz4, hz4⟩ := tk4
    refine ⟨y3, _, _, z3, _, _, rfl, rfl, hy3, hz4, _, _, rfl, y3, z3, _, _, _, _, rfl, rfl, ⟨dy3, hy3⟩, ⟨dz4, hz4⟩, _, rfl, ?_⟩
    rw [decide_eq_true (show ((low.length : Nat) : Int) = ls.length ∧ (((low ++ idle).mergeSort twLe).length : Int) - low.length = is.length from ⟨by omega, by omega⟩)]
    exact ⟨_, rfl, iteF ⟨e13.trans e4, rfl⟩⟩
  rintro σ H12 ⟨e12, rfl⟩
  have hb := hb.mono e12
  have tabs := tabs_same tabs e12
  have hX := hX.mono e12
  have hO := e12 _ _ hO
  have hLo := e12 _ _ hLo
  have hls := hls.kp (Same.kpt e12)
  have hI := e12 _ _ hI
  have his := his.kp (Same.kpt e12)
  clear e12
  -- for pair in ..
  refine ⟨fun σ G => Same H12 G ∧ ∃ y7 y12, σ = [some (.ref l), some (.ref p), some (.ref W), some (.ref Lo), some (.ref I), some (.ref D), some (.ref Hd), y7, some (.ref X), some (.ref O), some (.ref P1), some (.ref P2), y12, none, none, none, none], ?_, ?_⟩
  · refine ⟨_, rfl, _, rfl, _, _, rfl, p, Lo, ls, rfl, hb, rfl, SqL.of hLo, by omega, fun G1 M cs e1 nM hM pm => ?_⟩
    obtain ⟨rs, hrs, pr⟩ := (hls.kp (Same.kpt e1)).perm pm
    refine ⟨14, rfl, .inl ⟨M, _, rfl, SqL.of hM, fun M2 nM2 => ?_⟩⟩
    rw [show cutV cs none (some (14 : Int)) = cs.take 14 from cutV_pre cs 14]
    have g2 := grow (o := .lst (cs.take 14)) nM2
    have e2 := e1.trans g2
    have hM2 : (upd G1 M2 (.lst (cs.take 14))) M2 = some (.lst (cs.take 14)) := upd_same
    have hrs2 := (hrs.take 14).kp (Same.kpt g2)
    generalize upd G1 M2 (.lst (cs.take 14)) = G2 at g2 e2 hM2 hrs2 ⊢
    refine .inl ⟨M2, rfl, ⟨_, SqL.of hM2⟩, ?_⟩
    refine for_it (walk_list (xs := cs.take 14)) (fun i σ G => Same G2 G ∧ ∃ y7 y12, σ = [some (.ref l), some (.ref p), some (.ref W), some (.ref Lo), some (.ref I), some (.ref D), some (.ref Hd), y7, some (.ref X), some (.ref O), some (.ref P1), some (.ref P2), y12, none, none, none, none]) ⟨Same.refl _, _, _, rfl⟩ (fun i σ G _ ⟨e, _⟩ => SqL.of (e _ _ hM2)) ?_ ?_
    · rintro i v σ G3 G4 hi ⟨e3, y7, y12, rfl⟩ ⟨rfl, gv⟩
      obtain ⟨q, gq, t, rfl, ht⟩ := hrs2.get gv
      have mql : q ∈ low := pr.mem_iff.mp (List.mem_of_mem_take (List.mem_of_getElem? gq))
      have ht4 := e3 _ _ ht
      have e4 := e2.trans e3
      have hLo4 := e4 _ _ hLo
      have hls4 := hls.kp (Same.kpt e4)
      -- left
      refine ⟨fun σ G => Same G4 G ∧ ∃ (S : Addr) (zs : List V) (lf : List Tw), G S = some (.lst zs) ∧ TwsV G zs lf ∧ lf.length ≤ 200 ∧ (∀ r, r ∈ low → (r ∈ lf ↔ r ≠ q)) ∧ (∀ r ∈ lf, r ∈ low ∨ r ∈ idle) ∧ σ = [some (.ref l), some (.ref p), some (.ref W), some (.ref Lo), some (.ref I), some (.ref D), some (.ref Hd), some (.ref t), some (.ref X), some (.ref O), some (.ref P1), some (.ref P2), some (.ref S), none, none, none, none], ?_, ?_⟩
      · refine ⟨_, rfl, .inl ⟨Lo, rfl, ⟨_, SqL.of hLo4⟩, fun Z nZ => ?_⟩⟩
        refine lc_it (walk_list (xs := ls)) (fun j G => Same G4 G ∧ ∃ zs, G Z = some (.lst zs) ∧ TwsV G zs ((low.take j).filter fun r => decide (r ≠ q))) ⟨grow nZ, [], upd_same, .nil⟩ (fun j G _ ⟨e, _⟩ => SqL.of (e _ _ hLo4)) ?_ ?_
        · rintro j v G5 G6 hj ⟨e5, zs, hZ, hzs⟩ ⟨rfl, g2⟩
          obtain ⟨o, go, ho⟩ := hls4.get g2
          have ho5 := ho.kp (Same.kpt e5)
          have tq : TwV G6 (.ref t) q := ⟨t, rfl, e5 _ _ ht4⟩
          have lf := List.length_filter_le (fun r => decide (r ≠ q)) (low.take j)
          rw [List.length_take] at lf
          have lz := hzs.len
          refine ⟨rfl, _, rfl, _, rfl, .inr ⟨twD o, twD q, ho5.dp, tq.dp, Nat.le_trans (Nat.min_le_left _ _) (by rw [depth_tw]; decide), _, rfl, ?_⟩⟩
          rw [eqv_tw, filter_snoc _ go]
          by_cases c : o = q
          · rw [show (!decide (o = q)) = false by simp [c]]
            refine iteF ⟨e5, zs, hZ, ?_⟩
            rw [if_neg (by simp [c]), List.append_nil]
            exact hzs
          · rw [show (!decide (o = q)) = true by simp [c]]
            have kp : Kpt G6 (upd G6 Z (.lst (zs ++ [v]))) := kpt_lst hZ
            refine iteT ⟨_, rfl, zs, hZ, size5 (by omega), same_mut e5 nZ, zs ++ [v], upd_same, ?_⟩
            rw [if_pos (by simp [c])]
            exact (hzs.kp kp).app (.cons (ho5.kp kp) .nil)
        · rintro G5 ⟨e5, zs, hZ, hzs⟩
          rw [lls, List.take_length] at hzs
          have lfl := List.length_filter_le (fun r => decide (r ≠ q)) low
          have e45 := e4.trans e5
          have hI5 := e45 _ _ hI
          have his5 := his.kp (Same.kpt e45)
          have mf : ∀ r, r ∈ low.filter (fun r => decide (r ≠ q)) ↔ r ∈ low ∧ r ≠ q := fun r => by rw [List.mem_filter, decide_eq_true_eq]
          generalize low.filter (fun r => decide (r ≠ q)) = lf0 at hzs lfl mf
          have lz := hzs.len
          refine ⟨_, rfl, _, _, rfl, p, 3, rfl, rfl, hb.mono e45, by decide, small_log (by decide) (by decide), fun d _ _ => .inl ⟨rfl, _, rfl, ite2 (fun _ => ⟨_, rfl, ?_⟩) (fun _ => ⟨Nat.zero_le _, fun B nB => ?_⟩)⟩⟩
          · refine .inr (.inr ⟨Z, I, zs, is, rfl, rfl, hZ, hI5, size5' (by omega), fun S nS => ?_⟩)
            have e7 : Same G5 (upd G5 S (.lst (zs ++ is))) := grow nS
            refine ⟨e5.trans e7, S, zs ++ is, lf0 ++ idle, upd_same, (hzs.kp (Same.kpt e7)).app (his5.kp (Same.kpt (grow nS))), by rw [List.length_append]; omega, fun r mr => ?_, fun r mr => ?_, rfl⟩
            · rw [List.mem_append, mf]
              constructor
              · rintro (h | h)
                · exact h.2
                · exact absurd mr (ni r h)
              · exact fun h => .inl ⟨mr, h⟩
            · rcases List.mem_append.mp mr with h | h
              · exact .inl ((mf r).mp h).1
              · exact .inr h
          · refine .inr (.inr ⟨Z, B, zs, [], rfl, rfl, (grow nB) _ _ hZ, upd_same, size5' (by simp only [List.length_nil]; omega), fun S nS => ?_⟩)
            have e7 : Same G5 (upd (upd G5 B (.lst [])) S (.lst (zs ++ []))) := (grow nB).trans (grow nS)
            refine ⟨e5.trans e7, S, zs ++ [], lf0 ++ [], upd_same, (hzs.kp (Same.kpt e7)).app (.nil), by simp only [List.length_append, List.length_nil]; omega, fun r mr => ?_, fun r mr => ?_, rfl⟩
            · rw [List.mem_append, mf]
              constructor
              · rintro (h | h)
                · exact h.2
                · exact (nomatch h)
              · exact fun h => .inl ⟨mr, h⟩
            · rcases List.mem_append.mp mr with h | h
              · exact .inl ((mf r).mp h).1
              · exact (nomatch h)
      rintro σ G5 ⟨e5, S, zs, lf, hS, hzs, llf, mlf, slf, rfl⟩
      have e45 := e4.trans e5
      refine ⟨_, rfl, _, rfl, _, rfl, _, rfl, _, _, _, _, rfl, X, O, S, t, ws, order, zs, qs, lf, low, q, rfl, rfl, rfl, rfl, hX.mono e45, e45 _ _ hO, hS, hzs, e5 _ _ ht4, ndw, nmo, ndo, mow, by omega, by omega, by omega, hEq, fun r mr => (slf r mr).elim (lowo r) (okx r), prl, ⟨⟨(prl.mem q).mp mql, fun m => (mlf q mql).mp m rfl⟩, fun r hr => ?_⟩, fun G6 e6 => ⟨_, rfl, iteF ⟨e3.trans (e5.trans e6), _, _, rfl⟩⟩⟩
      have er : r = q := Classical.byContradiction fun n => hr.2 ((mlf r ((prl.mem r).mpr hr.1)).mpr n)
      rw [er]
      exact .inr ⟨rfl, Int.le_refl _⟩
    · rintro σ G3 ⟨e3, y7, y12, rfl⟩
      exact ⟨e2.trans e3, y7, y12, rfl⟩
  rintro σ H13 ⟨e13, y7, y12, rfl⟩
  have hb := hb.mono e13
  have tabs := tabs_same tabs e13
  have hX := hX.mono e13
  have hO := e13 _ _ hO
  have hLo := e13 _ _ hLo
  have hls := hls.kp (Same.kpt e13)
  have hI := e13 _ _ hI
  have his := his.kp (Same.kpt e13)
  clear e13
  -- if len(low) > 1
  refine ⟨fun σ G => Same (noT H13) G ∧ ∃ y7 y12 y13 y14 y15, σ = [some (.ref l), some (.ref p), some (.ref W), some (.ref Lo), some (.ref I), some (.ref D), some (.ref Hd), y7, some (.ref X), some (.ref O), some (.ref P1), some (.ref P2), y12, y13, y14, y15, none], ?_, ?_⟩
  · refine ⟨_, rfl, .inl ⟨Lo, _, rfl, .inl (SqL.of hLo), ?_⟩⟩
    refine ⟨_, _, rfl, rfl, _, rfl, ite2 (fun c => ?_) (fun _ => ⟨noT_same _, _, _, _, _, _, rfl⟩)⟩
    have c : (1 : Int) < ls.length := of_decide_eq_true c
    refine ⟨_, rfl, Lo, O, ls, low, order, rfl, SqL.of hLo, hls, rfl, hO, by omega, nmo, fun q m => ⟨(lowo q m).1, (lowo q m).2.1⟩, tabs, fun H14 Rk ys rs eN tabs2 nRk hys pm so => ?_⟩
    have e14 : Same (noT H13) (upd H14 Rk (.lst ys)) := (ext_same eN).trans (grow nRk)
    have hRk : (upd H14 Rk (.lst ys)) Rk = some (.lst ys) := upd_same
    generalize upd H14 Rk (.lst ys) = H15 at e14 hRk hys ⊢
    have lys := hys.len
    have lrs := pm.length_eq
    have hb := (noT_bag hb).mono e14
    have hX := (noT_shape hX).mono e14
    have hO := e14 _ _ (noT_at hO fun _ z => nomatch z)
    have hI := e14 _ _ (noT_at hI fun _ z => nomatch z)
    have his := (his.kp (noT_kpt _)).kp (Same.kpt e14)
    clear eN tabs2 nRk
    -- at
    refine ⟨_, rfl, _, rfl, .inl ⟨Rk, _, rfl, .inl (SqL.of hRk), _, _, rfl, rfl, ?_⟩⟩
    refine ⟨_, _, rfl, p, _, rfl, rfl, hb, by omega, small_log (by omega) (by omega), fun a0 a1 a2 => ?_⟩
    obtain ⟨at9, rfl⟩ := Int.eq_ofNat_of_zero_le a1
    -- later
    refine ⟨_, rfl, .inl ⟨_, _, rfl, rfl, ?_⟩⟩
    refine ⟨_, rfl, _, rfl, .inl ⟨Rk, _, rfl, .inl (SqL.of hRk), _, rfl, _, _, rfl, rfl, _, _, rfl, rfl, ?_⟩⟩
    refine ⟨_, _, rfl, p, _, rfl, rfl, hb, by omega, small_log (by omega) (by omega), fun d0 d1 d2 => ?_⟩
    obtain ⟨d9, rfl⟩ := Int.eq_ofNat_of_zero_le d1
    refine .inl ⟨_, _, rfl, rfl, ?_⟩
    have ha : at9 < ys.length := by omega
    have hl : at9 + 1 + d9 < ys.length := by omega
    have ga : atI ys (at9 : Int) = some ys[at9] := atI_nat (List.getElem?_eq_getElem ha)
    have gl : atI ys ((at9 : Int) + 1 + (d9 : Int)) = some ys[at9 + 1 + d9] := by
      rw [show (at9 : Int) + 1 + (d9 : Int) = ((at9 + 1 + d9 : Nat) : Int) by omega]
      exact atI_nat (List.getElem?_eq_getElem hl)
    obtain ⟨qa, ra, hqa⟩ := hys.get (List.getElem?_eq_getElem ha)
    obtain ⟨qb, rb, hqb⟩ := hys.get (List.getElem?_eq_getElem hl)
    generalize ys[at9] = va at ga hqa
    generalize ys[at9 + 1 + d9] = vb at gl hqb
    obtain ⟨ia, ra⟩ := List.getElem?_eq_some_iff.mp ra
    obtain ⟨ib, rb⟩ := List.getElem?_eq_some_iff.mp rb
    have lab : ipLe (rkP order qa) (rkP order qb) := by
      rw [← ra, ← rb]
      exact List.pairwise_iff_getElem.mp so _ _ ia ib (by omega)
    have ndr : rs.Nodup := pm.nodup_iff.mpr prl.nd
    have nab : qa ≠ qb := by
      rw [← ra, ← rb]
      intro e
      have := (List.getElem_inj ndr).mp e
      omega
    have mqa : qa ∈ low := pm.mem_iff.mp (ra ▸ List.getElem_mem ia)
    have mqb : qb ∈ low := pm.mem_iff.mp (rb ▸ List.getElem_mem ib)
    -- left
    refine ⟨fun σ G => Same H15 G ∧ ∃ (S : Addr) (zs : List V), G S = some (.lst zs) ∧ TwsV G zs (rs.filter fun r => decide (r ≠ qa) && decide (r ≠ qb)) ∧ σ = [some (.ref l), some (.ref p), some (.ref W), some (.ref Lo), some (.ref I), some (.ref D), some (.ref Hd), y7, some (.ref X), some (.ref O), some (.ref P1), some (.ref P2), some (.ref S), some (.ref Rk), some (.int (at9 : Int)), some (.int ((at9 : Int) + 1 + (d9 : Int))), none], ?_, ?_⟩
    · refine ⟨_, rfl, .inl ⟨Rk, rfl, ⟨_, SqL.of hRk⟩, fun Z nZ => ?_⟩⟩
      refine lc_it (walk_list (xs := ys)) (fun j G => Same H15 G ∧ ∃ zs, G Z = some (.lst zs) ∧ TwsV G zs ((rs.take j).filter fun r => decide (r ≠ qa) && decide (r ≠ qb))) ⟨grow nZ, [], upd_same, .nil⟩ (fun j G _ ⟨e, _⟩ => SqL.of (e _ _ hRk)) ?_ ?_
      · rintro j v G5 G6 hj ⟨e5, zs, hZ, hzs⟩ ⟨rfl, g2⟩
        obtain ⟨o, go, ho⟩ := hys.get g2
        have ho5 := ho.kp (Same.kpt e5)
        have lf := List.length_filter_le (fun r => decide (r ≠ qa) && decide (r ≠ qb)) (rs.take j)
        rw [List.length_take] at lf
        have lz := hzs.len
        refine ⟨rfl, _, rfl, _, rfl, _, rfl, .inl ⟨Rk, _, _, _, rfl, rfl, SqL.of (e5 _ _ hRk), ga, .inr ⟨twD o, twD qa, ho5.dp, (hqa.kp (Same.kpt e5)).dp, Nat.le_trans (Nat.min_le_left _ _) (by rw [depth_tw]; decide), _, rfl, ?_⟩⟩⟩
        rw [eqv_tw]
        by_cases c : o = qa
        · rw [show (!decide (o = qa)) = false by simp [c]]
          refine iteF ⟨e5, zs, hZ, ?_⟩
          rw [filter_snoc _ go, if_neg (by simp [c]), List.append_nil]
          exact hzs
        · rw [show (!decide (o = qa)) = true by simp [c]]
          refine iteT ⟨_, rfl, _, rfl, _, rfl, .inl ⟨Rk, _, _, _, rfl, rfl, SqL.of (e5 _ _ hRk), gl, .inr ⟨twD o, twD qb, ho5.dp, (hqb.kp (Same.kpt e5)).dp, Nat.le_trans (Nat.min_le_left _ _) (by rw [depth_tw]; decide), _, rfl, ?_⟩⟩⟩
          rw [eqv_tw]
          by_cases c2 : o = qb
          · rw [show (!decide (o = qb)) = false by simp [c2]]
            refine iteF ⟨e5, zs, hZ, ?_⟩
            rw [filter_snoc _ go, if_neg (by simp [c2]), List.append_nil]
            exact hzs
          · rw [show (!decide (o = qb)) = true by simp [c2]]
            have kp : Kpt G6 (upd G6 Z (.lst (zs ++ [v]))) := kpt_lst hZ
            refine iteT ⟨_, rfl, zs, hZ, size5 (by omega), same_mut e5 nZ, zs ++ [v], upd_same, ?_⟩
            rw [filter_snoc _ go, if_pos (by simp [c, c2])]
            exact (hzs.kp kp).app (.cons (ho5.kp kp) .nil)
      · rintro G5 ⟨e5, zs, hZ, hzs⟩
        rw [lys, List.take_length] at hzs
        exact ⟨e5, Z, zs, hZ, hzs, rfl⟩
    rintro σ G5 ⟨e5, S, zs, hS, hzs, rfl⟩
    have mf : ∀ r, r ∈ rs.filter (fun r => decide (r ≠ qa) && decide (r ≠ qb)) ↔ r ∈ low ∧ r ≠ qa ∧ r ≠ qb := fun r => by
      rw [List.mem_filter, Bool.and_eq_true, decide_eq_true_eq, decide_eq_true_eq, pm.mem_iff]
    have lfl := List.length_filter_le (fun r => decide (r ≠ qa) && decide (r ≠ qb)) rs
    generalize rs.filter (fun r => decide (r ≠ qa) && decide (r ≠ qb)) = lf at hzs mf lfl
    have lz := hzs.len
    have hX5 := hX.mono e5
    have hO5 := e5 _ _ hO
    refine ⟨_, rfl, _, rfl, _, rfl, _, rfl, _, rfl, .inr (.inr ⟨S, I, zs, is, rfl, rfl, hS, e5 _ _ hI, size5' (by omega), fun A nA => ?_⟩)⟩
    have g6 := grow (o := .lst (zs ++ is)) nA
    have hA : (upd G5 A (.lst (zs ++ is))) A = some (.lst (zs ++ is)) := upd_same
    generalize upd G5 A (.lst (zs ++ is)) = G6 at g6 hA ⊢
    refine ⟨_, _, rfl, p, A, _, rfl, hb.mono (e5.trans g6), rfl, SqL.of hA, by rw [List.length_append]; omega, fun G7 M cs e7 nM hM pmc => ?_⟩
    have e67 := g6.trans e7
    have e57 := e5.trans e67
    have hall : TwsV G7 (zs ++ is) (lf ++ idle) := (hzs.kp (Same.kpt e67)).app (his.kp (Same.kpt e57))
    obtain ⟨hd, hhd, ph⟩ := hall.perm pmc
    have mhd : ∀ q, q ∈ hd ↔ q ∈ lf ∨ q ∈ idle := fun q => by rw [ph.mem_iff, List.mem_append]
    have lhd : hd.length = lf.length + idle.length := by rw [ph.length_eq, List.length_append]
    obtain ⟨ta, rfl, hta⟩ := hqa
    refine ⟨_, rfl, _, rfl, .inl ⟨Rk, _, _, _, rfl, rfl, SqL.of (e57 _ _ hRk), ga, ?_⟩⟩
    refine ⟨_, _, _, _, rfl, X, O, M, ta, ws, order, cs, qs, hd, low, qa, rfl, rfl, rfl, rfl, hX.mono e57, e57 _ _ hO, hM, hhd, e57 _ _ hta, ndw, nmo, ndo, mow, by omega, by omega, by omega, hEq, fun r mr => ?_, prl, ⟨⟨(prl.mem qa).mp mqa, fun m => ?_⟩, fun r hr => ?_⟩, fun G8 e8 => ⟨_, rfl, iteF ⟨e14.trans (e57.trans e8), _, _, _, _, _, rfl⟩⟩⟩
    · rcases (mhd r).mp mr with h | h
      · exact lowo r ((mf r).mp h).1
      · exact okx r h
    · rcases (mhd qa).mp m with h | h
      · exact ((mf qa).mp h).2.1 rfl
      · exact ni qa h mqa
    · have ml := (prl.mem r).mpr hr.1
      by_cases c1 : r = qa
      · rw [c1]
        exact .inr ⟨rfl, Int.le_refl _⟩
      · by_cases c2 : r = qb
        · rw [c2]
          exact lab
        · exact absurd ((mhd r).mpr (.inl ((mf r).mpr ⟨ml, c1, c2⟩))) hr.2
  rintro σ G ⟨eG, y7, y12, y13, y14, y15, rfl⟩
  have hX := (noT_shape hX).mono eG
  have hO := eG _ _ (noT_at hO fun _ z => nomatch z)
  have hLo := eG _ _ (noT_at hLo fun _ z => nomatch z)
  have hls := (hls.kp (noT_kpt _)).kp (Same.kpt eG)
  -- return
  refine ⟨_, rfl, _, rfl, O, _, rfl, .inl (SqL.of hO), fun O2 nO2 => ?_⟩
  have e1 := grow (o := .lst (order.map V.str)) nO2
  refine ⟨_, _, rfl, X, O2, ws, order, qs, rfl, rfl, hX.mono e1, SqL.of upd_same, ndw, by omega, ndo, mow, by omega, hEq, fun G2 D ys fs e2 nD hD hys islow => ?_⟩
  have prf : Prs (fun q => LowP qs order q) (fs.mergeSort twLe) := by
    refine ⟨(List.mergeSort_perm fs twLe).nodup_iff.mpr islow.1, lin_tw.sorted fs, fun q => ?_⟩
    rw [List.mem_mergeSort]
    exact islow.lowP mow q
  rw [prf.uniq prl] at hys
  have e12 := e1.trans e2
  refine ⟨_, rfl, _, _, rfl, .list (low.map twD), lk_tws ll, dp_tws hD hys, dp_tws (e12 _ _ hLo) (hls.kp (Same.kpt e12)), fun G3 e3 => ?_⟩
  have e13 := e12.trans e3
  refine ⟨_, rfl, iteT ?_⟩
  refine ⟨_, rfl, _, rfl, O, _, rfl, .inl (SqL.of (e13 _ _ hO)), fun O3 nO3 => ?_⟩
  have e4 := e13.trans (grow (o := .lst (order.map V.str)) nO3)
  refine ⟨_, _, _, rfl, X, O3, A_plan_of, ws, order, qs, [], [], rfl, rfl, rfl, hX.mono e4, upd_same, .inr (T.e_plan_of _), .nil, nmw, ndw, by omega, ndo, mow, by omega, hEq, Nat.zero_le _, fun q m => (nomatch m), fun G5 P1 rs e5 hP1 prs => ?_⟩
  have e15 := e4.trans e5
  have prs : Prs (fun q => LowP qs order q) rs := prs.iff fun q => ⟨fun h => h.elim id fun m => (nomatch m), .inl⟩
  rw [prs.uniq prl] at hP1
  obtain ⟨dx1, R1, T1, h1, _⟩ := id hP1
  refine ⟨P1, dx1, _, rfl, h1, plF_no (by decide +kernel) (by decide +kernel), ?_⟩
  refine ⟨_, rfl, P1, order, low, rfl, hP1, fun q vs nq hvs => ?_⟩
  have e6 := e15.trans (grow (o := .lst vs) nq)
  refine ⟨_, rfl, _, _, rfl, .list (low.map twD), lk_tws ll, dp_tws upd_same (hvs.kp (Same.kpt (grow nq))), dp_tws (e6 _ _ hLo) (hls.kp (Same.kpt e6)), fun G7 e7 => ?_⟩
  exact k _

end
end Fb

set_option Elab.async false
set_option linter.all false
set_option maxRecDepth 100000
set_option maxHeartbeats 4000000
namespace Fb
open PySem PySem.Spec L2
open PyProof.Rows hiding St
open C8 (Cal Met Mak Def cal0 met0 mak0 pe_c pe_mk pe_mt pe_mt0 fnScope fnBody fnArgs pss_cut tCut)
/-! ### what the top has written, each a fact that k_is finds -/
theorem all_mk {l : PySem.W.OpenLaw} {w : World} {K : PySem.W.Frag} {h : Heap} {mg : Str → Option Value} {fa C_Shape C_Plan C_Links C_PlanTaken C_PlanRefused f1 f2 f3 f4 f5 f6 f7 f8 f9 f10 f11 f12 D12 A_plan_of f13 f14 f15 f16 f17 f18 f19 f20 f21 f22 f23 f24 f25 f26 f27 f28 f29 f30 f31 f32 f33 f34 f35 f36 f37 f38 f39 f40 f41 f42 f43 f44 f45 f46 f47 cL PL : Addr} {od1 an1 : Option Addr} {sl1 : Array (Option Value)} {oc1 kV1 dc1 pm1 cd1 ct1 : Value}
    {od2 an2 : Option Addr} {sl2 : Array (Option Value)} {oc2 kV2 dc2 pm2 cd2 ct2 : Value}
    {od3 an3 : Option Addr} {sl3 : Array (Option Value)} {oc3 kV3 dc3 pm3 cd3 ct3 : Value}
    {od4 an4 : Option Addr} {sl4 : Array (Option Value)} {oc4 kV4 dc4 pm4 cd4 ct4 : Value}
    {od5 an5 : Option Addr} {sl5 : Array (Option Value)} {oc5 kV5 dc5 pm5 cd5 ct5 : Value}
    {od6 an6 : Option Addr} {sl6 : Array (Option Value)} {oc6 kV6 dc6 pm6 cd6 ct6 : Value}
    {od7 an7 : Option Addr} {sl7 : Array (Option Value)} {oc7 kV7 dc7 pm7 cd7 ct7 : Value}
    {od8 an8 : Option Addr} {sl8 : Array (Option Value)} {oc8 kV8 dc8 pm8 cd8 ct8 : Value}
    {od9 an9 : Option Addr} {sl9 : Array (Option Value)} {oc9 kV9 dc9 pm9 cd9 ct9 : Value}
    {od10 an10 : Option Addr} {sl10 : Array (Option Value)} {oc10 kV10 dc10 pm10 cd10 ct10 : Value}
    {od11 an11 : Option Addr} {sl11 : Array (Option Value)} {oc11 kV11 dc11 pm11 cd11 ct11 : Value}
    {od12 an12 : Option Addr} {sl12 : Array (Option Value)} {oc12 dc12 pm12 cd12 ct12 : Value} {td12 : Option Addr} {tn12 : Nat} {ts12 : Array (Option Value)}
    {od13 an13 : Option Addr} {sl13 : Array (Option Value)} {oc13 kV13 dc13 pm13 cd13 ct13 : Value}
    {od14 an14 : Option Addr} {sl14 : Array (Option Value)} {oc14 kV14 dc14 pm14 cd14 ct14 : Value}
    {od15 an15 : Option Addr} {sl15 : Array (Option Value)} {oc15 kV15 dc15 pm15 cd15 ct15 : Value}
    {od16 an16 : Option Addr} {sl16 : Array (Option Value)} {oc16 kV16 dc16 pm16 cd16 ct16 : Value}
    {od17 an17 : Option Addr} {sl17 : Array (Option Value)} {oc17 kV17 dc17 pm17 cd17 ct17 : Value}
    {od18 an18 : Option Addr} {sl18 : Array (Option Value)} {oc18 kV18 dc18 pm18 cd18 ct18 : Value}
    {od19 an19 : Option Addr} {sl19 : Array (Option Value)} {oc19 kV19 dc19 pm19 cd19 ct19 : Value}
    {od20 an20 : Option Addr} {sl20 : Array (Option Value)} {oc20 kV20 dc20 pm20 cd20 ct20 : Value}
    {od21 an21 : Option Addr} {sl21 : Array (Option Value)} {oc21 kV21 dc21 pm21 cd21 ct21 : Value}
    {od22 an22 : Option Addr} {sl22 : Array (Option Value)} {oc22 kV22 dc22 pm22 cd22 ct22 : Value}
    {od23 an23 : Option Addr} {sl23 : Array (Option Value)} {oc23 kV23 dc23 pm23 cd23 ct23 : Value}
    {od24 an24 : Option Addr} {sl24 : Array (Option Value)} {oc24 kV24 dc24 pm24 cd24 ct24 : Value}
    {od25 an25 : Option Addr} {sl25 : Array (Option Value)} {oc25 kV25 dc25 pm25 cd25 ct25 : Value}
    {od26 an26 : Option Addr} {sl26 : Array (Option Value)} {oc26 kV26 dc26 pm26 cd26 ct26 : Value}
    {od27 an27 : Option Addr} {sl27 : Array (Option Value)} {oc27 kV27 dc27 pm27 cd27 ct27 : Value}
    {od28 an28 : Option Addr} {sl28 : Array (Option Value)} {oc28 kV28 dc28 pm28 cd28 ct28 : Value}
    {od29 an29 : Option Addr} {sl29 : Array (Option Value)} {oc29 kV29 dc29 pm29 cd29 ct29 : Value}
    {od30 an30 : Option Addr} {sl30 : Array (Option Value)} {oc30 kV30 dc30 pm30 cd30 ct30 : Value}
    {od31 an31 : Option Addr} {sl31 : Array (Option Value)} {oc31 kV31 dc31 pm31 cd31 ct31 : Value}
    {od32 an32 : Option Addr} {sl32 : Array (Option Value)} {oc32 kV32 dc32 pm32 cd32 ct32 : Value}
    {od33 an33 : Option Addr} {sl33 : Array (Option Value)} {oc33 kV33 dc33 pm33 cd33 ct33 : Value}
    {od34 an34 : Option Addr} {sl34 : Array (Option Value)} {oc34 kV34 dc34 pm34 cd34 ct34 : Value}
    {od35 an35 : Option Addr} {sl35 : Array (Option Value)} {oc35 kV35 dc35 pm35 cd35 ct35 : Value}
    {od36 an36 : Option Addr} {sl36 : Array (Option Value)} {oc36 kV36 dc36 pm36 cd36 ct36 : Value}
    {od37 an37 : Option Addr} {sl37 : Array (Option Value)} {oc37 kV37 dc37 pm37 cd37 ct37 : Value}
    {od38 an38 : Option Addr} {sl38 : Array (Option Value)} {oc38 kV38 dc38 pm38 cd38 ct38 : Value}
    {od39 an39 : Option Addr} {sl39 : Array (Option Value)} {oc39 kV39 dc39 pm39 cd39 ct39 : Value}
    {od40 an40 : Option Addr} {sl40 : Array (Option Value)} {oc40 kV40 dc40 pm40 cd40 ct40 : Value}
    {od41 an41 : Option Addr} {sl41 : Array (Option Value)} {oc41 kV41 dc41 pm41 cd41 ct41 : Value}
    {od42 an42 : Option Addr} {sl42 : Array (Option Value)} {oc42 kV42 dc42 pm42 cd42 ct42 : Value}
    {od43 an43 : Option Addr} {sl43 : Array (Option Value)} {oc43 kV43 dc43 pm43 cd43 ct43 : Value}
    {od44 an44 : Option Addr} {sl44 : Array (Option Value)} {oc44 kV44 dc44 pm44 cd44 ct44 : Value}
    {od45 an45 : Option Addr} {sl45 : Array (Option Value)} {oc45 kV45 dc45 pm45 cd45 ct45 : Value}
    {od46 an46 : Option Addr} {sl46 : Array (Option Value)} {oc46 kV46 dc46 pm46 cd46 ct46 : Value}
    {od47 an47 : Option Addr} {sl47 : Array (Option Value)} {oc47 kV47 dc47 pm47 ct47 : Value}
    {g0 : Tok}
    {occ : Value} {odc : Option Addr} {vsc : Array Value} {slc : Array (Option Value)}
    (X : K.In h) (G : h.Ns mainGlobals mg) (hfa : mg "law" = some (.ref fa))
    (aC_Shape : PySem.W.nsIn K mainGlobals "Shape" = some (some (.ref C_Shape)))
    (pg_Shape : PySem.W.plainGet K C_Shape Str.empty = true)
    (hd_Shape : PySem.W.hasDictIn K C_Shape = true)
    (po_Shape : PySem.W.plainOver K C_Shape = true)
    (sa_Shape : PySem.W.findIn K (.ref C_Shape) "__setattr__" = some (some (.builtin "object.__setattr__")))
    (mk_Shape : PySem.W.makesIn K C_Shape = true)
    (kC_Shape : PySem.W.keepIn K (.ref C_Shape) = true)
    (n_following_Shape : PySem.W.findIn K (.ref C_Shape) "_following" = some none)
    (n_turns_Shape : PySem.W.findIn K (.ref C_Shape) "_turns" = some none)
    (n_leading_Shape : PySem.W.findIn K (.ref C_Shape) "_leading" = some none)
    (aC_Plan : PySem.W.nsIn K mainGlobals "Plan" = some (some (.ref C_Plan)))
    (pg_Plan : PySem.W.plainGet K C_Plan Str.empty = true)
    (hd_Plan : PySem.W.hasDictIn K C_Plan = true)
    (po_Plan : PySem.W.plainOver K C_Plan = true)
    (sa_Plan : PySem.W.findIn K (.ref C_Plan) "__setattr__" = some (some (.builtin "object.__setattr__")))
    (mk_Plan : PySem.W.makesIn K C_Plan = true)
    (kC_Plan : PySem.W.keepIn K (.ref C_Plan) = true)
    (n_ranks_Plan : PySem.W.findIn K (.ref C_Plan) "_ranks" = some none)
    (n_pairs_Plan : PySem.W.findIn K (.ref C_Plan) "_pairs" = some none)
    (aC_Links : PySem.W.nsIn K mainGlobals "Links" = some (some (.ref C_Links)))
    (pg_Links : PySem.W.plainGet K C_Links Str.empty = true)
    (hd_Links : PySem.W.hasDictIn K C_Links = true)
    (po_Links : PySem.W.plainOver K C_Links = true)
    (sa_Links : PySem.W.findIn K (.ref C_Links) "__setattr__" = some (some (.builtin "object.__setattr__")))
    (mk_Links : PySem.W.makesIn K C_Links = true)
    (kC_Links : PySem.W.keepIn K (.ref C_Links) = true)
    (nins_Links : PySem.W.findIn K (.ref C_Links) "ins" = some none)
    (nouts_Links : PySem.W.findIn K (.ref C_Links) "outs" = some none)
    (nfound_Links : PySem.W.findIn K (.ref C_Links) "found" = some none)
    (aC_PlanTaken : PySem.W.nsIn K mainGlobals "PlanTaken" = some (some (.ref C_PlanTaken)))
    (pg_PlanTaken : PySem.W.plainGet K C_PlanTaken Str.empty = true)
    (hd_PlanTaken : PySem.W.hasDictIn K C_PlanTaken = true)
    (po_PlanTaken : PySem.W.plainOver K C_PlanTaken = true)
    (sa_PlanTaken : PySem.W.findIn K (.ref C_PlanTaken) "__setattr__" = some (some (.builtin "object.__setattr__")))
    (mk_PlanTaken : PySem.W.makesIn K C_PlanTaken = true)
    (kC_PlanTaken : PySem.W.keepIn K (.ref C_PlanTaken) = true)
    (ntaken_PlanTaken : PySem.W.findIn K (.ref C_PlanTaken) "taken" = some none)
    (nneeded_PlanTaken : PySem.W.findIn K (.ref C_PlanTaken) "needed" = some none)
    (nspare_PlanTaken : PySem.W.findIn K (.ref C_PlanTaken) "spare" = some none)
    (xe_PlanTaken : PySem.W.findIn K (.ref C_PlanTaken) "__ne__" = some (some (.builtin "object.__ne__")))
    (xh_PlanTaken : PySem.W.findIn K (.ref C_PlanTaken) "__class__" = some (some (.builtin "object.__class__")))
    (xn_PlanTaken : PySem.W.specialIn K (.builtin "object.__class__") "__get__" = some (some (.builtin "getset_descriptor.__get__")))
    (xt_PlanTaken : PySem.W.takesIn K (.builtin "object.__class__") = some true)
    (xm_PlanTaken : PySem.W.mroIn K C_PlanTaken (.type "object") = some true)
    (aC_PlanRefused : PySem.W.nsIn K mainGlobals "PlanRefused" = some (some (.ref C_PlanRefused)))
    (pg_PlanRefused : PySem.W.plainGet K C_PlanRefused Str.empty = true)
    (hd_PlanRefused : PySem.W.hasDictIn K C_PlanRefused = true)
    (po_PlanRefused : PySem.W.plainOver K C_PlanRefused = true)
    (sa_PlanRefused : PySem.W.findIn K (.ref C_PlanRefused) "__setattr__" = some (some (.builtin "object.__setattr__")))
    (mk_PlanRefused : PySem.W.makesIn K C_PlanRefused = true)
    (kC_PlanRefused : PySem.W.keepIn K (.ref C_PlanRefused) = true)
    (ntaken_PlanRefused : PySem.W.findIn K (.ref C_PlanRefused) "taken" = some none)
    (nsource_PlanRefused : PySem.W.findIn K (.ref C_PlanRefused) "source" = some none)
    (ntarget_PlanRefused : PySem.W.findIn K (.ref C_PlanRefused) "target" = some none)
    (nway_PlanRefused : PySem.W.findIn K (.ref C_PlanRefused) "way" = some none)
    (xh_PlanRefused : PySem.W.findIn K (.ref C_PlanRefused) "__class__" = some (some (.builtin "object.__class__")))
    (xn_PlanRefused : PySem.W.specialIn K (.builtin "object.__class__") "__get__" = some (some (.builtin "getset_descriptor.__get__")))
    (xt_PlanRefused : PySem.W.takesIn K (.builtin "object.__class__") = some true)
    (xm_PlanRefused : PySem.W.mroIn K C_PlanRefused (.type "object") = some true)
    (a1 : PySem.W.nsIn K mainGlobals "is_name" = some (some (.ref f1)))
    (l1 : K.lookup f1 = some ⟨oc1, od1, .func (PySem.W.fnOf "is_name" "is_name" (fnArgs s_is_name) (fnBody s_is_name) (fnScope s_is_name) .none kV1 dc1 pm1 an1 cd1 ct1), sl1⟩)
    (c1 : PySem.W.codeIn K cd1 "is_name" = true)
    (k1 : PySem.W.keepIn K (.ref f1) = true)
    (a2 : PySem.W.nsIn K mainGlobals "check_different" = some (some (.ref f2)))
    (l2 : K.lookup f2 = some ⟨oc2, od2, .func (PySem.W.fnOf "check_different" "check_different" (fnArgs s_check_different) (fnBody s_check_different) (fnScope s_check_different) .none kV2 dc2 pm2 an2 cd2 ct2), sl2⟩)
    (c2 : PySem.W.codeIn K cd2 "check_different" = true)
    (k2 : PySem.W.keepIn K (.ref f2) = true)
    (a3 : PySem.W.nsIn K mainGlobals "is_pair" = some (some (.ref f3)))
    (l3 : K.lookup f3 = some ⟨oc3, od3, .func (PySem.W.fnOf "is_pair" "is_pair" (fnArgs s_is_pair) (fnBody s_is_pair) (fnScope s_is_pair) .none kV3 dc3 pm3 an3 cd3 ct3), sl3⟩)
    (c3 : PySem.W.codeIn K cd3 "is_pair" = true)
    (k3 : PySem.W.keepIn K (.ref f3) = true)
    (a4 : PySem.W.nsIn K mainGlobals "sides" = some (some (.ref f4)))
    (l4 : K.lookup f4 = some ⟨oc4, od4, .func (PySem.W.fnOf "sides" "sides" (fnArgs s_sides) (fnBody s_sides) (fnScope s_sides) .none kV4 dc4 pm4 an4 cd4 ct4), sl4⟩)
    (c4 : PySem.W.codeIn K cd4 "sides" = true)
    (k4 : PySem.W.keepIn K (.ref f4) = true)
    (a5 : PySem.W.nsIn K mainGlobals "traced" = some (some (.ref f5)))
    (l5 : K.lookup f5 = some ⟨oc5, od5, .func (PySem.W.fnOf "traced" "traced" (fnArgs s_traced) (fnBody s_traced) (fnScope s_traced) .none kV5 dc5 pm5 an5 cd5 ct5), sl5⟩)
    (c5 : PySem.W.codeIn K cd5 "traced" = true)
    (k5 : PySem.W.keepIn K (.ref f5) = true)
    (a6 : PySem.W.nsIn K mainGlobals "stepped" = some (some (.ref f6)))
    (l6 : K.lookup f6 = some ⟨oc6, od6, .func (PySem.W.fnOf "stepped" "stepped" (fnArgs s_stepped) (fnBody s_stepped) (fnScope s_stepped) .none kV6 dc6 pm6 an6 cd6 ct6), sl6⟩)
    (c6 : PySem.W.codeIn K cd6 "stepped" = true)
    (k6 : PySem.W.keepIn K (.ref f6) = true)
    (a7 : PySem.W.nsIn K mainGlobals "way_by" = some (some (.ref f7)))
    (l7 : K.lookup f7 = some ⟨oc7, od7, .func (PySem.W.fnOf "way_by" "way_by" (fnArgs s_way_by) (fnBody s_way_by) (fnScope s_way_by) .none kV7 dc7 pm7 an7 cd7 ct7), sl7⟩)
    (c7 : PySem.W.codeIn K cd7 "way_by" = true)
    (k7 : PySem.W.keepIn K (.ref f7) = true)
    (a8 : PySem.W.nsIn K mainGlobals "check_places" = some (some (.ref f8)))
    (l8 : K.lookup f8 = some ⟨oc8, od8, .func (PySem.W.fnOf "check_places" "check_places" (fnArgs s_check_places) (fnBody s_check_places) (fnScope s_check_places) .none kV8 dc8 pm8 an8 cd8 ct8), sl8⟩)
    (c8 : PySem.W.codeIn K cd8 "check_places" = true)
    (k8 : PySem.W.keepIn K (.ref f8) = true)
    (a9 : PySem.W.nsIn K mainGlobals "check_order" = some (some (.ref f9)))
    (l9 : K.lookup f9 = some ⟨oc9, od9, .func (PySem.W.fnOf "check_order" "check_order" (fnArgs s_check_order) (fnBody s_check_order) (fnScope s_check_order) .none kV9 dc9 pm9 an9 cd9 ct9), sl9⟩)
    (c9 : PySem.W.codeIn K cd9 "check_order" = true)
    (k9 : PySem.W.keepIn K (.ref f9) = true)
    (a10 : PySem.W.nsIn K mainGlobals "check_roads" = some (some (.ref f10)))
    (l10 : K.lookup f10 = some ⟨oc10, od10, .func (PySem.W.fnOf "check_roads" "check_roads" (fnArgs s_check_roads) (fnBody s_check_roads) (fnScope s_check_roads) .none kV10 dc10 pm10 an10 cd10 ct10), sl10⟩)
    (c10 : PySem.W.codeIn K cd10 "check_roads" = true)
    (k10 : PySem.W.keepIn K (.ref f10) = true)
    (a11 : PySem.W.nsIn K mainGlobals "low_pairs" = some (some (.ref f11)))
    (l11 : K.lookup f11 = some ⟨oc11, od11, .func (PySem.W.fnOf "low_pairs" "low_pairs" (fnArgs s_low_pairs) (fnBody s_low_pairs) (fnScope s_low_pairs) .none kV11 dc11 pm11 an11 cd11 ct11), sl11⟩)
    (c11 : PySem.W.codeIn K cd11 "low_pairs" = true)
    (k11 : PySem.W.keepIn K (.ref f11) = true)
    (a12 : PySem.W.nsIn K mainGlobals "plan_of" = some (some (.ref f12)))
    (l12 : K.lookup f12 = some ⟨oc12, od12, .func (PySem.W.fnOf "plan_of" "plan_of" (fnArgs s_plan_of) (fnBody s_plan_of) (fnScope s_plan_of) .none (.ref D12) dc12 pm12 an12 cd12 ct12), sl12⟩)
    (c12 : PySem.W.codeIn K cd12 "plan_of" = true)
    (k12 : PySem.W.keepIn K (.ref f12) = true)
    (kq12 : PySem.W.nsIn K D12 "spare" = some (some (.ref A_plan_of)))
    (kt12 : K.lookup A_plan_of = some ⟨.type "tuple", td12, .seq #[] tn12, ts12⟩)
    (a13 : PySem.W.nsIn K mainGlobals "low_way" = some (some (.ref f13)))
    (l13 : K.lookup f13 = some ⟨oc13, od13, .func (PySem.W.fnOf "low_way" "low_way" (fnArgs s_low_way) (fnBody s_low_way) (fnScope s_low_way) .none kV13 dc13 pm13 an13 cd13 ct13), sl13⟩)
    (c13 : PySem.W.codeIn K cd13 "low_way" = true)
    (k13 : PySem.W.keepIn K (.ref f13) = true)
    (a14 : PySem.W.nsIn K mainGlobals "judge_plan" = some (some (.ref f14)))
    (l14 : K.lookup f14 = some ⟨oc14, od14, .func (PySem.W.fnOf "judge_plan" "judge_plan" (fnArgs s_judge_plan) (fnBody s_judge_plan) (fnScope s_judge_plan) .none kV14 dc14 pm14 an14 cd14 ct14), sl14⟩)
    (c14 : PySem.W.codeIn K cd14 "judge_plan" = true)
    (k14 : PySem.W.keepIn K (.ref f14) = true)
    (a15 : PySem.W.nsIn K mainGlobals "_law_bag" = some (some (.ref f15)))
    (l15 : K.lookup f15 = some ⟨oc15, od15, .func (PySem.W.fnOf "_law_bag" "_law_bag" (fnArgs s__law_bag) (fnBody s__law_bag) (fnScope s__law_bag) .none kV15 dc15 pm15 an15 cd15 ct15), sl15⟩)
    (c15 : PySem.W.codeIn K cd15 "_law_bag" = true)
    (k15 : PySem.W.keepIn K (.ref f15) = true)
    (a16 : PySem.W.nsIn K mainGlobals "_law_draw" = some (some (.ref f16)))
    (l16 : K.lookup f16 = some ⟨oc16, od16, .func (PySem.W.fnOf "_law_draw" "_law_draw" (fnArgs s__law_draw) (fnBody s__law_draw) (fnScope s__law_draw) .none kV16 dc16 pm16 an16 cd16 ct16), sl16⟩)
    (c16 : PySem.W.codeIn K cd16 "_law_draw" = true)
    (k16 : PySem.W.keepIn K (.ref f16) = true)
    (a17 : PySem.W.nsIn K mainGlobals "_law_of" = some (some (.ref f17)))
    (l17 : K.lookup f17 = some ⟨oc17, od17, .func (PySem.W.fnOf "_law_of" "_law_of" (fnArgs s__law_of) (fnBody s__law_of) (fnScope s__law_of) .none kV17 dc17 pm17 an17 cd17 ct17), sl17⟩)
    (c17 : PySem.W.codeIn K cd17 "_law_of" = true)
    (k17 : PySem.W.keepIn K (.ref f17) = true)
    (a18 : PySem.W.nsIn K mainGlobals "_law_mixed" = some (some (.ref f18)))
    (l18 : K.lookup f18 = some ⟨oc18, od18, .func (PySem.W.fnOf "_law_mixed" "_law_mixed" (fnArgs s__law_mixed) (fnBody s__law_mixed) (fnScope s__law_mixed) .none kV18 dc18 pm18 an18 cd18 ct18), sl18⟩)
    (c18 : PySem.W.codeIn K cd18 "_law_mixed" = true)
    (k18 : PySem.W.keepIn K (.ref f18) = true)
    (a19 : PySem.W.nsIn K mainGlobals "_law_names" = some (some (.ref f19)))
    (l19 : K.lookup f19 = some ⟨oc19, od19, .func (PySem.W.fnOf "_law_names" "_law_names" (fnArgs s__law_names) (fnBody s__law_names) (fnScope s__law_names) .none kV19 dc19 pm19 an19 cd19 ct19), sl19⟩)
    (c19 : PySem.W.codeIn K cd19 "_law_names" = true)
    (k19 : PySem.W.keepIn K (.ref f19) = true)
    (a20 : PySem.W.nsIn K mainGlobals "_law_web" = some (some (.ref f20)))
    (l20 : K.lookup f20 = some ⟨oc20, od20, .func (PySem.W.fnOf "_law_web" "_law_web" (fnArgs s__law_web) (fnBody s__law_web) (fnScope s__law_web) .none kV20 dc20 pm20 an20 cd20 ct20), sl20⟩)
    (c20 : PySem.W.codeIn K cd20 "_law_web" = true)
    (k20 : PySem.W.keepIn K (.ref f20) = true)
    (a21 : PySem.W.nsIn K mainGlobals "_law_figure" = some (some (.ref f21)))
    (l21 : K.lookup f21 = some ⟨oc21, od21, .func (PySem.W.fnOf "_law_figure" "_law_figure" (fnArgs s__law_figure) (fnBody s__law_figure) (fnScope s__law_figure) .none kV21 dc21 pm21 an21 cd21 ct21), sl21⟩)
    (c21 : PySem.W.codeIn K cd21 "_law_figure" = true)
    (k21 : PySem.W.keepIn K (.ref f21) = true)
    (a22 : PySem.W.nsIn K mainGlobals "_law_reached" = some (some (.ref f22)))
    (l22 : K.lookup f22 = some ⟨oc22, od22, .func (PySem.W.fnOf "_law_reached" "_law_reached" (fnArgs s__law_reached) (fnBody s__law_reached) (fnScope s__law_reached) .none kV22 dc22 pm22 an22 cd22 ct22), sl22⟩)
    (c22 : PySem.W.codeIn K cd22 "_law_reached" = true)
    (k22 : PySem.W.keepIn K (.ref f22) = true)
    (a23 : PySem.W.nsIn K mainGlobals "_law_low" = some (some (.ref f23)))
    (l23 : K.lookup f23 = some ⟨oc23, od23, .func (PySem.W.fnOf "_law_low" "_law_low" (fnArgs s__law_low) (fnBody s__law_low) (fnScope s__law_low) .none kV23 dc23 pm23 an23 cd23 ct23), sl23⟩)
    (c23 : PySem.W.codeIn K cd23 "_law_low" = true)
    (k23 : PySem.W.keepIn K (.ref f23) = true)
    (a24 : PySem.W.nsIn K mainGlobals "_law_order" = some (some (.ref f24)))
    (l24 : K.lookup f24 = some ⟨oc24, od24, .func (PySem.W.fnOf "_law_order" "_law_order" (fnArgs s__law_order) (fnBody s__law_order) (fnScope s__law_order) .none kV24 dc24 pm24 an24 cd24 ct24), sl24⟩)
    (c24 : PySem.W.codeIn K cd24 "_law_order" = true)
    (k24 : PySem.W.keepIn K (.ref f24) = true)
    (a25 : PySem.W.nsIn K mainGlobals "_law_spare" = some (some (.ref f25)))
    (l25 : K.lookup f25 = some ⟨oc25, od25, .func (PySem.W.fnOf "_law_spare" "_law_spare" (fnArgs s__law_spare) (fnBody s__law_spare) (fnScope s__law_spare) .none kV25 dc25 pm25 an25 cd25 ct25), sl25⟩)
    (c25 : PySem.W.codeIn K cd25 "_law_spare" = true)
    (k25 : PySem.W.keepIn K (.ref f25) = true)
    (a26 : PySem.W.nsIn K mainGlobals "_law_same" = some (some (.ref f26)))
    (l26 : K.lookup f26 = some ⟨oc26, od26, .func (PySem.W.fnOf "_law_same" "_law_same" (fnArgs s__law_same) (fnBody s__law_same) (fnScope s__law_same) .none kV26 dc26 pm26 an26 cd26 ct26), sl26⟩)
    (c26 : PySem.W.codeIn K cd26 "_law_same" = true)
    (k26 : PySem.W.keepIn K (.ref f26) = true)
    (a27 : PySem.W.nsIn K mainGlobals "_law_closed" = some (some (.ref f27)))
    (l27 : K.lookup f27 = some ⟨oc27, od27, .func (PySem.W.fnOf "_law_closed" "_law_closed" (fnArgs s__law_closed) (fnBody s__law_closed) (fnScope s__law_closed) .none kV27 dc27 pm27 an27 cd27 ct27), sl27⟩)
    (c27 : PySem.W.codeIn K cd27 "_law_closed" = true)
    (k27 : PySem.W.keepIn K (.ref f27) = true)
    (a28 : PySem.W.nsIn K mainGlobals "_law_refused_at" = some (some (.ref f28)))
    (l28 : K.lookup f28 = some ⟨oc28, od28, .func (PySem.W.fnOf "_law_refused_at" "_law_refused_at" (fnArgs s__law_refused_at) (fnBody s__law_refused_at) (fnScope s__law_refused_at) .none kV28 dc28 pm28 an28 cd28 ct28), sl28⟩)
    (c28 : PySem.W.codeIn K cd28 "_law_refused_at" = true)
    (k28 : PySem.W.keepIn K (.ref f28) = true)
    (a29 : PySem.W.findIn K (.ref C_Shape) "__init__" = some (some (.ref f29)))
    (i29 : PySem.W.isFn K (.ref f29) = true)
    (l29 : K.lookup f29 = some ⟨oc29, od29, .func (PySem.W.fnOf "__init__" "Shape.__init__" (fnArgs s_Shape___init__) (fnBody s_Shape___init__) (fnScope s_Shape___init__) .none kV29 dc29 pm29 an29 cd29 ct29), sl29⟩)
    (c29 : PySem.W.codeIn K cd29 "Shape.__init__" = true)
    (k29 : PySem.W.keepIn K (.ref f29) = true)
    (a30 : PySem.W.findIn K (.ref C_Shape) "roads" = some (some (.ref f30)))
    (i30 : PySem.W.isFn K (.ref f30) = true)
    (l30 : K.lookup f30 = some ⟨oc30, od30, .func (PySem.W.fnOf "roads" "Shape.roads" (fnArgs s_Shape_roads) (fnBody s_Shape_roads) (fnScope s_Shape_roads) .none kV30 dc30 pm30 an30 cd30 ct30), sl30⟩)
    (c30 : PySem.W.codeIn K cd30 "Shape.roads" = true)
    (k30 : PySem.W.keepIn K (.ref f30) = true)
    (a31 : PySem.W.findIn K (.ref C_Shape) "turns" = some (some (.ref f31)))
    (i31 : PySem.W.isFn K (.ref f31) = true)
    (l31 : K.lookup f31 = some ⟨oc31, od31, .func (PySem.W.fnOf "turns" "Shape.turns" (fnArgs s_Shape_turns) (fnBody s_Shape_turns) (fnScope s_Shape_turns) .none kV31 dc31 pm31 an31 cd31 ct31), sl31⟩)
    (c31 : PySem.W.codeIn K cd31 "Shape.turns" = true)
    (k31 : PySem.W.keepIn K (.ref f31) = true)
    (a32 : PySem.W.findIn K (.ref C_Shape) "following" = some (some (.ref f32)))
    (i32 : PySem.W.isFn K (.ref f32) = true)
    (l32 : K.lookup f32 = some ⟨oc32, od32, .func (PySem.W.fnOf "following" "Shape.following" (fnArgs s_Shape_following) (fnBody s_Shape_following) (fnScope s_Shape_following) .none kV32 dc32 pm32 an32 cd32 ct32), sl32⟩)
    (c32 : PySem.W.codeIn K cd32 "Shape.following" = true)
    (k32 : PySem.W.keepIn K (.ref f32) = true)
    (a33 : PySem.W.findIn K (.ref C_Shape) "__contains__" = some (some (.ref f33)))
    (i33 : PySem.W.isFn K (.ref f33) = true)
    (l33 : K.lookup f33 = some ⟨oc33, od33, .func (PySem.W.fnOf "__contains__" "Shape.__contains__" (fnArgs s_Shape___contains__) (fnBody s_Shape___contains__) (fnScope s_Shape___contains__) .none kV33 dc33 pm33 an33 cd33 ct33), sl33⟩)
    (c33 : PySem.W.codeIn K cd33 "Shape.__contains__" = true)
    (k33 : PySem.W.keepIn K (.ref f33) = true)
    (a34 : PySem.W.findIn K (.ref C_Plan) "__init__" = some (some (.ref f34)))
    (i34 : PySem.W.isFn K (.ref f34) = true)
    (l34 : K.lookup f34 = some ⟨oc34, od34, .func (PySem.W.fnOf "__init__" "Plan.__init__" (fnArgs s_Plan___init__) (fnBody s_Plan___init__) (fnScope s_Plan___init__) .none kV34 dc34 pm34 an34 cd34 ct34), sl34⟩)
    (c34 : PySem.W.codeIn K cd34 "Plan.__init__" = true)
    (k34 : PySem.W.keepIn K (.ref f34) = true)
    (a35 : PySem.W.findIn K (.ref C_Plan) "order" = some (some (.ref f35)))
    (i35 : PySem.W.isFn K (.ref f35) = true)
    (l35 : K.lookup f35 = some ⟨oc35, od35, .func (PySem.W.fnOf "order" "Plan.order" (fnArgs s_Plan_order) (fnBody s_Plan_order) (fnScope s_Plan_order) .none kV35 dc35 pm35 an35 cd35 ct35), sl35⟩)
    (c35 : PySem.W.codeIn K cd35 "Plan.order" = true)
    (k35 : PySem.W.keepIn K (.ref f35) = true)
    (a36 : PySem.W.findIn K (.ref C_Plan) "rank" = some (some (.ref f36)))
    (i36 : PySem.W.isFn K (.ref f36) = true)
    (l36 : K.lookup f36 = some ⟨oc36, od36, .func (PySem.W.fnOf "rank" "Plan.rank" (fnArgs s_Plan_rank) (fnBody s_Plan_rank) (fnScope s_Plan_rank) .none kV36 dc36 pm36 an36 cd36 ct36), sl36⟩)
    (c36 : PySem.W.codeIn K cd36 "Plan.rank" = true)
    (k36 : PySem.W.keepIn K (.ref f36) = true)
    (a37 : PySem.W.findIn K (.ref C_Plan) "pairs" = some (some (.ref f37)))
    (i37 : PySem.W.isFn K (.ref f37) = true)
    (l37 : K.lookup f37 = some ⟨oc37, od37, .func (PySem.W.fnOf "pairs" "Plan.pairs" (fnArgs s_Plan_pairs) (fnBody s_Plan_pairs) (fnScope s_Plan_pairs) .none kV37 dc37 pm37 an37 cd37 ct37), sl37⟩)
    (c37 : PySem.W.codeIn K cd37 "Plan.pairs" = true)
    (k37 : PySem.W.keepIn K (.ref f37) = true)
    (a38 : PySem.W.findIn K (.ref C_Plan) "is_lower" = some (some (.ref f38)))
    (i38 : PySem.W.isFn K (.ref f38) = true)
    (l38 : K.lookup f38 = some ⟨oc38, od38, .func (PySem.W.fnOf "is_lower" "Plan.is_lower" (fnArgs s_Plan_is_lower) (fnBody s_Plan_is_lower) (fnScope s_Plan_is_lower) .none kV38 dc38 pm38 an38 cd38 ct38), sl38⟩)
    (c38 : PySem.W.codeIn K cd38 "Plan.is_lower" = true)
    (k38 : PySem.W.keepIn K (.ref f38) = true)
    (a39 : PySem.W.findIn K (.ref C_Plan) "__contains__" = some (some (.ref f39)))
    (i39 : PySem.W.isFn K (.ref f39) = true)
    (l39 : K.lookup f39 = some ⟨oc39, od39, .func (PySem.W.fnOf "__contains__" "Plan.__contains__" (fnArgs s_Plan___contains__) (fnBody s_Plan___contains__) (fnScope s_Plan___contains__) .none kV39 dc39 pm39 an39 cd39 ct39), sl39⟩)
    (c39 : PySem.W.codeIn K cd39 "Plan.__contains__" = true)
    (k39 : PySem.W.keepIn K (.ref f39) = true)
    (a40 : PySem.W.findIn K (.ref C_Plan) "__len__" = some (some (.ref f40)))
    (i40 : PySem.W.isFn K (.ref f40) = true)
    (l40 : K.lookup f40 = some ⟨oc40, od40, .func (PySem.W.fnOf "__len__" "Plan.__len__" (fnArgs s_Plan___len__) (fnBody s_Plan___len__) (fnScope s_Plan___len__) .none kV40 dc40 pm40 an40 cd40 ct40), sl40⟩)
    (c40 : PySem.W.codeIn K cd40 "Plan.__len__" = true)
    (k40 : PySem.W.keepIn K (.ref f40) = true)
    (a41 : PySem.W.findIn K (.ref C_Links) "__init__" = some (some (.ref f41)))
    (i41 : PySem.W.isFn K (.ref f41) = true)
    (l41 : K.lookup f41 = some ⟨oc41, od41, .func (PySem.W.fnOf "__init__" "Links.__init__" (fnArgs s_Links___init__) (fnBody s_Links___init__) (fnScope s_Links___init__) .none kV41 dc41 pm41 an41 cd41 ct41), sl41⟩)
    (c41 : PySem.W.codeIn K cd41 "Links.__init__" = true)
    (k41 : PySem.W.keepIn K (.ref f41) = true)
    (a42 : PySem.W.findIn K (.ref C_Links) "link" = some (some (.ref f42)))
    (i42 : PySem.W.isFn K (.ref f42) = true)
    (l42 : K.lookup f42 = some ⟨oc42, od42, .func (PySem.W.fnOf "link" "Links.link" (fnArgs s_Links_link) (fnBody s_Links_link) (fnScope s_Links_link) .none kV42 dc42 pm42 an42 cd42 ct42), sl42⟩)
    (c42 : PySem.W.codeIn K cd42 "Links.link" = true)
    (k42 : PySem.W.keepIn K (.ref f42) = true)
    (a43 : PySem.W.findIn K (.ref C_Links) "settle" = some (some (.ref f43)))
    (i43 : PySem.W.isFn K (.ref f43) = true)
    (l43 : K.lookup f43 = some ⟨oc43, od43, .func (PySem.W.fnOf "settle" "Links.settle" (fnArgs s_Links_settle) (fnBody s_Links_settle) (fnScope s_Links_settle) .none kV43 dc43 pm43 an43 cd43 ct43), sl43⟩)
    (c43 : PySem.W.codeIn K cd43 "Links.settle" = true)
    (k43 : PySem.W.keepIn K (.ref f43) = true)
    (a44 : PySem.W.findIn K (.ref C_PlanTaken) "__init__" = some (some (.ref f44)))
    (i44 : PySem.W.isFn K (.ref f44) = true)
    (l44 : K.lookup f44 = some ⟨oc44, od44, .func (PySem.W.fnOf "__init__" "PlanTaken.__init__" (fnArgs s_PlanTaken___init__) (fnBody s_PlanTaken___init__) (fnScope s_PlanTaken___init__) .none kV44 dc44 pm44 an44 cd44 ct44), sl44⟩)
    (c44 : PySem.W.codeIn K cd44 "PlanTaken.__init__" = true)
    (k44 : PySem.W.keepIn K (.ref f44) = true)
    (a45 : PySem.W.findIn K (.ref C_PlanTaken) "__eq__" = some (some (.ref f45)))
    (i45 : PySem.W.isFn K (.ref f45) = true)
    (l45 : K.lookup f45 = some ⟨oc45, od45, .func (PySem.W.fnOf "__eq__" "PlanTaken.__eq__" (fnArgs s_PlanTaken___eq__) (fnBody s_PlanTaken___eq__) (fnScope s_PlanTaken___eq__) .none kV45 dc45 pm45 an45 cd45 ct45), sl45⟩)
    (c45 : PySem.W.codeIn K cd45 "PlanTaken.__eq__" = true)
    (k45 : PySem.W.keepIn K (.ref f45) = true)
    (a46 : PySem.W.findIn K (.ref C_PlanRefused) "__init__" = some (some (.ref f46)))
    (i46 : PySem.W.isFn K (.ref f46) = true)
    (l46 : K.lookup f46 = some ⟨oc46, od46, .func (PySem.W.fnOf "__init__" "PlanRefused.__init__" (fnArgs s_PlanRefused___init__) (fnBody s_PlanRefused___init__) (fnScope s_PlanRefused___init__) .none kV46 dc46 pm46 an46 cd46 ct46), sl46⟩)
    (c46 : PySem.W.codeIn K cd46 "PlanRefused.__init__" = true)
    (k46 : PySem.W.keepIn K (.ref f46) = true)
    (a47 : PySem.W.nsIn K mainGlobals "law" = some (some (.ref f47)))
    (l47 : K.lookup f47 = some ⟨oc47, od47, .func (PySem.W.fnOf "law" "law" (fnArgs s_law) (fnBody s_law) (fnScope s_law) .none kV47 dc47 pm47 an47 (.ref cL) ct47), sl47⟩)
    (c47 : PySem.W.codeIn K (.ref cL) "law" = true)
    (k47 : PySem.W.keepIn K (.ref f47) = true)
    (z0 : PySem.W.nsIn K mainGlobals "all" = some none)
    (z1 : PySem.W.nsIn K mainGlobals "any" = some none)
    (z2 : PySem.W.nsIn K mainGlobals "bool" = some none)
    (z3 : PySem.W.nsIn K mainGlobals "dict" = some none)
    (z4 : PySem.W.nsIn K mainGlobals "enumerate" = some none)
    (z5 : PySem.W.nsIn K mainGlobals "int" = some none)
    (z6 : PySem.W.nsIn K mainGlobals "isinstance" = some none)
    (z7 : PySem.W.nsIn K mainGlobals "len" = some none)
    (z8 : PySem.W.nsIn K mainGlobals "list" = some none)
    (z9 : PySem.W.nsIn K mainGlobals "min" = some none)
    (z10 : PySem.W.nsIn K mainGlobals "range" = some none)
    (z11 : PySem.W.nsIn K mainGlobals "sorted" = some none)
    (z12 : PySem.W.nsIn K mainGlobals "str" = some none)
    (z13 : PySem.W.nsIn K mainGlobals "tuple" = some none)
    (z14 : PySem.W.nsIn K mainGlobals "zip" = some none)
    (m0 : PySem.W.nsIn K mainGlobals "LETTERS" = some (some (.int 8 g0)))
    (cc : K.lookup cL = some ⟨occ, odc, .fields vsc, slc⟩)
    (pp : vsc[11]? = some (.ref PL)) :
    PySem.W.tabIn K "law" = some (cL, PL) ∧ ∃ fd : FuncData, (∀ (s : Shared) (v : Value), BindsTo s fd ⟨[v], []⟩ [("script", v)]) ∧ ∀ base : Heap, K.In base → base.Ns mainGlobals mg → LamX.TabB base mg cL PL → FnOk l.prog w K mg base C8.CX0 10 fa fd ["script"] (spLaw36 K PL) := by
  have T : Top K mg C_Shape C_Plan C_Links C_PlanTaken C_PlanRefused A_plan_of :=
    { cl_Shape := ⟨pg_Shape, hd_Shape, po_Shape, sa_Shape⟩
      g_Shape := PySem.W.mg_of X G aC_Shape
      na_Shape__following := n_following_Shape
      na_Shape__turns := n_turns_Shape
      na_Shape__leading := n_leading_Shape
      cl_Plan := ⟨pg_Plan, hd_Plan, po_Plan, sa_Plan⟩
      g_Plan := PySem.W.mg_of X G aC_Plan
      na_Plan__ranks := n_ranks_Plan
      na_Plan__pairs := n_pairs_Plan
      cl_Links := ⟨pg_Links, hd_Links, po_Links, sa_Links⟩
      g_Links := PySem.W.mg_of X G aC_Links
      na_Links_ins := nins_Links
      na_Links_outs := nouts_Links
      na_Links_found := nfound_Links
      cl_PlanTaken := ⟨pg_PlanTaken, hd_PlanTaken, po_PlanTaken, sa_PlanTaken⟩
      g_PlanTaken := PySem.W.mg_of X G aC_PlanTaken
      na_PlanTaken_taken := ntaken_PlanTaken
      na_PlanTaken_needed := nneeded_PlanTaken
      na_PlanTaken_spare := nspare_PlanTaken
      ne_PlanTaken := xe_PlanTaken
      ins_PlanTaken := ⟨⟨pg_PlanTaken, hd_PlanTaken, po_PlanTaken, sa_PlanTaken⟩, xh_PlanTaken, xn_PlanTaken, xt_PlanTaken, xm_PlanTaken, if_pos (beq_self_eq_true _)⟩
      cl_PlanRefused := ⟨pg_PlanRefused, hd_PlanRefused, po_PlanRefused, sa_PlanRefused⟩
      g_PlanRefused := PySem.W.mg_of X G aC_PlanRefused
      na_PlanRefused_taken := ntaken_PlanRefused
      na_PlanRefused_source := nsource_PlanRefused
      na_PlanRefused_target := ntarget_PlanRefused
      na_PlanRefused_way := nway_PlanRefused
      ins_PlanRefused := ⟨⟨pg_PlanRefused, hd_PlanRefused, po_PlanRefused, sa_PlanRefused⟩, xh_PlanRefused, xn_PlanRefused, xt_PlanRefused, xm_PlanRefused, if_pos (beq_self_eq_true _)⟩
      d_is_name := ⟨f1, _, ⟨⟨_, _, _, _, _, _, _, _, _, _, rfl, l1, c1⟩, PySem.W.mg_of X G a1, k1⟩, rfl⟩
      d_check_different := ⟨f2, _, ⟨⟨_, _, _, _, _, _, _, _, _, _, rfl, l2, c2⟩, PySem.W.mg_of X G a2, k2⟩, rfl⟩
      d_is_pair := ⟨f3, _, ⟨⟨_, _, _, _, _, _, _, _, _, _, rfl, l3, c3⟩, PySem.W.mg_of X G a3, k3⟩, rfl⟩
      d_sides := ⟨f4, _, ⟨⟨_, _, _, _, _, _, _, _, _, _, rfl, l4, c4⟩, PySem.W.mg_of X G a4, k4⟩, rfl⟩
      d_traced := ⟨f5, _, ⟨⟨_, _, _, _, _, _, _, _, _, _, rfl, l5, c5⟩, PySem.W.mg_of X G a5, k5⟩, rfl⟩
      d_stepped := ⟨f6, _, ⟨⟨_, _, _, _, _, _, _, _, _, _, rfl, l6, c6⟩, PySem.W.mg_of X G a6, k6⟩, rfl⟩
      d_way_by := ⟨f7, _, ⟨⟨_, _, _, _, _, _, _, _, _, _, rfl, l7, c7⟩, PySem.W.mg_of X G a7, k7⟩, rfl⟩
      d_check_places := ⟨f8, _, ⟨⟨_, _, _, _, _, _, _, _, _, _, rfl, l8, c8⟩, PySem.W.mg_of X G a8, k8⟩, rfl⟩
      d_check_order := ⟨f9, _, ⟨⟨_, _, _, _, _, _, _, _, _, _, rfl, l9, c9⟩, PySem.W.mg_of X G a9, k9⟩, rfl⟩
      d_check_roads := ⟨f10, _, ⟨⟨_, _, _, _, _, _, _, _, _, _, rfl, l10, c10⟩, PySem.W.mg_of X G a10, k10⟩, rfl⟩
      d_low_pairs := ⟨f11, _, ⟨⟨_, _, _, _, _, _, _, _, _, _, rfl, l11, c11⟩, PySem.W.mg_of X G a11, k11⟩, rfl⟩
      kd_plan_of := ⟨f12, _, ⟨⟨_, _, _, _, _, _, _, _, _, _, rfl, l12, c12⟩, PySem.W.mg_of X G a12, k12⟩, ⟨⟨_, _, _, _, _, _, _, _, _, _, rfl, l12, c12, .inl ⟨rfl, rfl⟩, .inr ⟨D12, rfl, fun q hq => by rw [List.mem_singleton.mp hq]; exact ⟨_, kq12, rfl⟩⟩⟩, k12⟩⟩
      e_plan_of := fun H => .inr ⟨_, #[], tn12, kt12, rfl, rfl, Nat.zero_le _, .nil⟩
      d_plan_of := ⟨f12, _, ⟨⟨_, _, _, _, _, _, _, _, _, _, rfl, l12, c12⟩, PySem.W.mg_of X G a12, k12⟩, rfl⟩
      d_low_way := ⟨f13, _, ⟨⟨_, _, _, _, _, _, _, _, _, _, rfl, l13, c13⟩, PySem.W.mg_of X G a13, k13⟩, rfl⟩
      d_judge_plan := ⟨f14, _, ⟨⟨_, _, _, _, _, _, _, _, _, _, rfl, l14, c14⟩, PySem.W.mg_of X G a14, k14⟩, rfl⟩
      d__law_bag := ⟨f15, _, ⟨⟨_, _, _, _, _, _, _, _, _, _, rfl, l15, c15⟩, PySem.W.mg_of X G a15, k15⟩, rfl⟩
      d__law_draw := ⟨f16, _, ⟨⟨_, _, _, _, _, _, _, _, _, _, rfl, l16, c16⟩, PySem.W.mg_of X G a16, k16⟩, rfl⟩
      d__law_of := ⟨f17, _, ⟨⟨_, _, _, _, _, _, _, _, _, _, rfl, l17, c17⟩, PySem.W.mg_of X G a17, k17⟩, rfl⟩
      d__law_mixed := ⟨f18, _, ⟨⟨_, _, _, _, _, _, _, _, _, _, rfl, l18, c18⟩, PySem.W.mg_of X G a18, k18⟩, rfl⟩
      d__law_names := ⟨f19, _, ⟨⟨_, _, _, _, _, _, _, _, _, _, rfl, l19, c19⟩, PySem.W.mg_of X G a19, k19⟩, rfl⟩
      d__law_web := ⟨f20, _, ⟨⟨_, _, _, _, _, _, _, _, _, _, rfl, l20, c20⟩, PySem.W.mg_of X G a20, k20⟩, rfl⟩
      d__law_figure := ⟨f21, _, ⟨⟨_, _, _, _, _, _, _, _, _, _, rfl, l21, c21⟩, PySem.W.mg_of X G a21, k21⟩, rfl⟩
      d__law_reached := ⟨f22, _, ⟨⟨_, _, _, _, _, _, _, _, _, _, rfl, l22, c22⟩, PySem.W.mg_of X G a22, k22⟩, rfl⟩
      d__law_low := ⟨f23, _, ⟨⟨_, _, _, _, _, _, _, _, _, _, rfl, l23, c23⟩, PySem.W.mg_of X G a23, k23⟩, rfl⟩
      d__law_order := ⟨f24, _, ⟨⟨_, _, _, _, _, _, _, _, _, _, rfl, l24, c24⟩, PySem.W.mg_of X G a24, k24⟩, rfl⟩
      d__law_spare := ⟨f25, _, ⟨⟨_, _, _, _, _, _, _, _, _, _, rfl, l25, c25⟩, PySem.W.mg_of X G a25, k25⟩, rfl⟩
      d__law_same := ⟨f26, _, ⟨⟨_, _, _, _, _, _, _, _, _, _, rfl, l26, c26⟩, PySem.W.mg_of X G a26, k26⟩, rfl⟩
      d__law_closed := ⟨f27, _, ⟨⟨_, _, _, _, _, _, _, _, _, _, rfl, l27, c27⟩, PySem.W.mg_of X G a27, k27⟩, rfl⟩
      d__law_refused_at := ⟨f28, _, ⟨⟨_, _, _, _, _, _, _, _, _, _, rfl, l28, c28⟩, PySem.W.mg_of X G a28, k28⟩, rfl⟩
      d_Shape___init__ := ⟨f29, _, ⟨mk_Shape, a29, i29, kC_Shape⟩, ⟨_, _, _, _, _, _, _, _, _, _, rfl, l29, c29⟩, rfl⟩
      d_Shape_roads := ⟨f30, _, ⟨a30, i30, k30⟩, ⟨_, _, _, _, _, _, _, _, _, _, rfl, l30, c30⟩, rfl⟩
      d_Shape_turns := ⟨f31, _, ⟨a31, i31, k31⟩, ⟨_, _, _, _, _, _, _, _, _, _, rfl, l31, c31⟩, rfl⟩
      d_Shape_following := ⟨f32, _, ⟨a32, i32, k32⟩, ⟨_, _, _, _, _, _, _, _, _, _, rfl, l32, c32⟩, rfl⟩
      d_Shape___contains__ := ⟨f33, _, ⟨a33, i33, k33⟩, ⟨_, _, _, _, _, _, _, _, _, _, rfl, l33, c33⟩, rfl⟩
      d_Plan___init__ := ⟨f34, _, ⟨mk_Plan, a34, i34, kC_Plan⟩, ⟨_, _, _, _, _, _, _, _, _, _, rfl, l34, c34⟩, rfl⟩
      d_Plan_order := ⟨f35, _, ⟨a35, i35, k35⟩, ⟨_, _, _, _, _, _, _, _, _, _, rfl, l35, c35⟩, rfl⟩
      d_Plan_rank := ⟨f36, _, ⟨a36, i36, k36⟩, ⟨_, _, _, _, _, _, _, _, _, _, rfl, l36, c36⟩, rfl⟩
      d_Plan_pairs := ⟨f37, _, ⟨a37, i37, k37⟩, ⟨_, _, _, _, _, _, _, _, _, _, rfl, l37, c37⟩, rfl⟩
      d_Plan_is_lower := ⟨f38, _, ⟨a38, i38, k38⟩, ⟨_, _, _, _, _, _, _, _, _, _, rfl, l38, c38⟩, rfl⟩
      d_Plan___contains__ := ⟨f39, _, ⟨a39, i39, k39⟩, ⟨_, _, _, _, _, _, _, _, _, _, rfl, l39, c39⟩, rfl⟩
      d_Plan___len__ := ⟨f40, _, ⟨a40, i40, k40⟩, ⟨_, _, _, _, _, _, _, _, _, _, rfl, l40, c40⟩, rfl⟩
      d_Links___init__ := ⟨f41, _, ⟨mk_Links, a41, i41, kC_Links⟩, ⟨_, _, _, _, _, _, _, _, _, _, rfl, l41, c41⟩, rfl⟩
      d_Links_link := ⟨f42, _, ⟨a42, i42, k42⟩, ⟨_, _, _, _, _, _, _, _, _, _, rfl, l42, c42⟩, rfl⟩
      d_Links_settle := ⟨f43, _, ⟨a43, i43, k43⟩, ⟨_, _, _, _, _, _, _, _, _, _, rfl, l43, c43⟩, rfl⟩
      d_PlanTaken___init__ := ⟨f44, _, ⟨mk_PlanTaken, a44, i44, kC_PlanTaken⟩, ⟨_, _, _, _, _, _, _, _, _, _, rfl, l44, c44⟩, rfl⟩
      d_PlanTaken___eq__ := ⟨f45, _, ⟨a45, i45, k45⟩, ⟨_, _, _, _, _, _, _, _, _, _, rfl, l45, c45⟩, rfl⟩
      d_PlanRefused___init__ := ⟨f46, _, ⟨mk_PlanRefused, a46, i46, kC_PlanRefused⟩, ⟨_, _, _, _, _, _, _, _, _, _, rfl, l46, c46⟩, rfl⟩
      d_law := ⟨f47, _, ⟨⟨_, _, _, _, _, _, _, _, _, _, rfl, l47, c47⟩, PySem.W.mg_of X G a47, k47⟩, rfl⟩
      all := PySem.W.mg_none_of X G z0
      any := PySem.W.mg_none_of X G z1
      bool := PySem.W.mg_none_of X G z2
      dict := PySem.W.mg_none_of X G z3
      enumerate := PySem.W.mg_none_of X G z4
      int := PySem.W.mg_none_of X G z5
      isinstance := PySem.W.mg_none_of X G z6
      len := PySem.W.mg_none_of X G z7
      list := PySem.W.mg_none_of X G z8
      min := PySem.W.mg_none_of X G z9
      range := PySem.W.mg_none_of X G z10
      sorted := PySem.W.mg_none_of X G z11
      str := PySem.W.mg_none_of X G z12
      tuple := PySem.W.mg_none_of X G z13
      zip := PySem.W.mg_none_of X G z14
      m_LETTERS := ⟨_, PySem.W.mg_of X G m0, _, rfl⟩ }
  refine ⟨?_, ?_⟩
  · unfold PySem.W.tabIn
    simp only [a47, l47, cc, pp]
  have ea := hfa.symm.trans (PySem.W.mg_of X G a47)
  cases ea
  exact ⟨_, fun s v => .of_eq rfl, fun base _ _ tb => ok_law T ⟨⟨fa, _, ⟨⟨_, _, _, _, _, _, _, _, _, _, rfl, l47, c47⟩, PySem.W.mg_of X G a47, k47⟩, rfl, rfl⟩, tb⟩ ⟨⟨_, _, _, _, _, _, _, _, _, _, rfl, l47, c47⟩, PySem.W.mg_of X G a47, k47⟩⟩
theorem law_at {l : PySem.W.OpenLaw} {w : World} {K : PySem.W.Frag} {mg mb : Str → Option Value} {fa cL PL : Addr} {h : Heap} {q : Program} {loose : List Str} {mean : ExcName → Option Value} {d : DefRec} {k : Nat} (T : PyProof.Rows.Top q loose mean mg mb h) (KX : K.In h) (hr : (PyProof.Rows.recsOf q).find? (fun e => e.name == ("law" : Str)) = some d)
    (nP : PySem.W.noTabs K = true) (all : PySem.W.tabIn K "law" = some (cL, PL) ∧ ∃ fd : FuncData, (∀ (s : Shared) (v : Value), BindsTo s fd ⟨[v], []⟩ [("script", v)]) ∧ ∀ base : Heap, K.In base → base.Ns mainGlobals mg → LamX.TabB base mg cL PL → FnOk l.prog w K mg base C8.CX0 k fa fd ["script"] (spLaw36 K PL)) :
    LamX.LawAtS l w K C8.CX0 k 63 "script" mg fa h := by
  obtain ⟨ht, fd, hb, hF⟩ := all
  obtain ⟨C, hP⟩ := PySem.W.tab_of T KX hr ht
  refine ⟨fd, [(cL, PL)], spLaw36 K PL, fun p hp => ?_, fun p hp => ?_, fun p hp => ?_, hb, fun H a ns _ _ hH hS => ⟨_, rfl, a, ns, rfl, hS, fun p hp => ?_, fun _ => rfl⟩, fun base kb gb tb => hF base kb gb (tb (cL, PL) (List.mem_cons_self ..))⟩
  · rw [List.mem_singleton.mp hp]
    exact hP
  · rw [List.mem_singleton.mp hp]
    cases e : K.lookup PL with
    | none => rfl
    | some o =>
      have e2 := KX _ _ e
      rw [hP] at e2
      cases e2
      have h2 := List.all_eq_true.mp nP (PL, _) (PySem.W.mem_of_lookupK e)
      cases h2
  · rw [List.mem_singleton.mp hp]
    exact C
  · rw [List.mem_singleton.mp hp]
    exact LamX.TabS.nil (hH (cL, PL) (List.mem_cons_self ..))
theorem walk_tabs {l : PySem.W.OpenLaw} {k : Nat} {q : Program} {loose : List Str} {XP : (Str → Option Value) → Heap → Prop} {YP : World → Heap → Prop} {d : DefRec} {K : Params → PySem.W.Frag}
    (hn : l.most = some 63) (hdf : d.params.defaults = []) (hr : Room k callerA) (hY : ∀ (w : World) (h : Heap), YP w h → (K w.params).In h)
    (F : ∀ (w : World) (mg mb : Str → Option Value) (fa : Addr) (h : Heap) (mean : ExcName → Option Value) (free : List Str), PyProof.Rows.Top q free mean mg mb h → (K w.params).In h → mg d.name = some (.ref fa) → LamX.LawAtS l w (K w.params) C8.CX0 k 63 "script" mg fa h) :
    PySem.W.WalkO q loose XP YP l.row.toRowW d [] (fun f vs => PySem.call f vs) := by
  refine Att.attach_callB hn hdf fun w s₀ s₁ mg mb fa o pm cd doc a vs ns G Y ho hd hcd hmg hobj hints hlen hbits hg => ?_
  have KX := hY w _ Y
  obtain ⟨fd, cs, sp, hT, nT, C, hb, hsp, hF⟩ := F w mg mb fa _ _ _ G.T KX hmg
  exact LamX.law_callTs KX G.T.g G.T.b G.T.builtins G.T.nolimit hg hT nT C G.T.bmain hobj hints (Nat.le_trans hlen (by decide)) hr hF hb (fun H hH hS => hsp H a ns hlen hbits hH hS) fun H e s' z => z
end Fb
open PySem PySem.W PyProof.Rows
set_option maxRecDepth 100000 in
set_option maxHeartbeats 0 in
theorem PySem.Challenge.cw_feeblind_k36_whole_least_plans_holds : PySem.Challenge.rw_feeblind_k36_whole_least_plans.Holds := by
  w_on; o_law; k_head; (case hw => w_witness2)
  k_fill
  refine Fb.walk_tabs (l := PySem.Challenge.rw_feeblind_k36_whole_least_plans) (k := 10) rfl rfl ⟨rfl, by decide, by decide⟩ (fun w h Y => PySem.W.km_in_of Y) ?F
  case F =>
    intro w mg mb fa h mean free T KX hmg
    refine' Fb.law_at (cL := ?cL) (PL := ?PL) T KX rfl (by kernel_rfl) ?all
    case all =>
    have G := T.g
    refine' Fb.all_mk KX G hmg ?aC_Shape ?pg_Shape ?hd_Shape ?po_Shape ?sa_Shape ?mk_Shape ?kC_Shape ?n_following_Shape ?n_turns_Shape ?n_leading_Shape ?aC_Plan ?pg_Plan ?hd_Plan ?po_Plan ?sa_Plan ?mk_Plan ?kC_Plan ?n_ranks_Plan ?n_pairs_Plan ?aC_Links ?pg_Links ?hd_Links ?po_Links ?sa_Links ?mk_Links ?kC_Links ?nins_Links ?nouts_Links ?nfound_Links ?aC_PlanTaken ?pg_PlanTaken ?hd_PlanTaken ?po_PlanTaken ?sa_PlanTaken ?mk_PlanTaken ?kC_PlanTaken ?ntaken_PlanTaken ?nneeded_PlanTaken ?nspare_PlanTaken ?xe_PlanTaken ?xh_PlanTaken ?xn_PlanTaken ?xt_PlanTaken ?xm_PlanTaken ?aC_PlanRefused ?pg_PlanRefused ?hd_PlanRefused ?po_PlanRefused ?sa_PlanRefused ?mk_PlanRefused ?kC_PlanRefused ?ntaken_PlanRefused ?nsource_PlanRefused ?ntarget_PlanRefused ?nway_PlanRefused ?xh_PlanRefused ?xn_PlanRefused ?xt_PlanRefused ?xm_PlanRefused ?a1 ?l1 ?c1 ?k1 ?a2 ?l2 ?c2 ?k2 ?a3 ?l3 ?c3 ?k3 ?a4 ?l4 ?c4 ?k4 ?a5 ?l5 ?c5 ?k5 ?a6 ?l6 ?c6 ?k6 ?a7 ?l7 ?c7 ?k7 ?a8 ?l8 ?c8 ?k8 ?a9 ?l9 ?c9 ?k9 ?a10 ?l10 ?c10 ?k10 ?a11 ?l11 ?c11 ?k11 ?a12 ?l12 ?c12 ?k12 ?kq12 ?kt12 ?a13 ?l13 ?c13 ?k13 ?a14 ?l14 ?c14 ?k14 ?a15 ?l15 ?c15 ?k15 ?a16 ?l16 ?c16 ?k16 ?a17 ?l17 ?c17 ?k17 ?a18 ?l18 ?c18 ?k18 ?a19 ?l19 ?c19 ?k19 ?a20 ?l20 ?c20 ?k20 ?a21 ?l21 ?c21 ?k21 ?a22 ?l22 ?c22 ?k22 ?a23 ?l23 ?c23 ?k23 ?a24 ?l24 ?c24 ?k24 ?a25 ?l25 ?c25 ?k25 ?a26 ?l26 ?c26 ?k26 ?a27 ?l27 ?c27 ?k27 ?a28 ?l28 ?c28 ?k28 ?a29 ?i29 ?l29 ?c29 ?k29 ?a30 ?i30 ?l30 ?c30 ?k30 ?a31 ?i31 ?l31 ?c31 ?k31 ?a32 ?i32 ?l32 ?c32 ?k32 ?a33 ?i33 ?l33 ?c33 ?k33 ?a34 ?i34 ?l34 ?c34 ?k34 ?a35 ?i35 ?l35 ?c35 ?k35 ?a36 ?i36 ?l36 ?c36 ?k36 ?a37 ?i37 ?l37 ?c37 ?k37 ?a38 ?i38 ?l38 ?c38 ?k38 ?a39 ?i39 ?l39 ?c39 ?k39 ?a40 ?i40 ?l40 ?c40 ?k40 ?a41 ?i41 ?l41 ?c41 ?k41 ?a42 ?i42 ?l42 ?c42 ?k42 ?a43 ?i43 ?l43 ?c43 ?k43 ?a44 ?i44 ?l44 ?c44 ?k44 ?a45 ?i45 ?l45 ?c45 ?k45 ?a46 ?i46 ?l46 ?c46 ?k46 ?a47 ?l47 ?c47 ?k47 ?z0 ?z1 ?z2 ?z3 ?z4 ?z5 ?z6 ?z7 ?z8 ?z9 ?z10 ?z11 ?z12 ?z13 ?z14 ?m0 ?cc ?pp
    (case aC_Shape => k_is)
    (case pg_Shape => k_is)
    (case hd_Shape => k_is)
    (case po_Shape => k_is)
    (case sa_Shape => k_is)
    (case mk_Shape => k_is)
    (case kC_Shape => k_is)
    (case n_following_Shape => k_is)
    (case n_turns_Shape => k_is)
    (case n_leading_Shape => k_is)
    (case aC_Plan => k_is)
    (case pg_Plan => k_is)
    (case hd_Plan => k_is)
    (case po_Plan => k_is)
    (case sa_Plan => k_is)
    (case mk_Plan => k_is)
    (case kC_Plan => k_is)
    (case n_ranks_Plan => k_is)
    (case n_pairs_Plan => k_is)
    (case aC_Links => k_is)
    (case pg_Links => k_is)
    (case hd_Links => k_is)
    (case po_Links => k_is)
    (case sa_Links => k_is)
    (case mk_Links => k_is)
    (case kC_Links => k_is)
    (case nins_Links => k_is)
    (case nouts_Links => k_is)
    (case nfound_Links => k_is)
    (case aC_PlanTaken => k_is)
    (case pg_PlanTaken => k_is)
    (case hd_PlanTaken => k_is)
    (case po_PlanTaken => k_is)
    (case sa_PlanTaken => k_is)
    (case mk_PlanTaken => k_is)
    (case kC_PlanTaken => k_is)
    (case ntaken_PlanTaken => k_is)
    (case nneeded_PlanTaken => k_is)
    (case nspare_PlanTaken => k_is)
    (case xe_PlanTaken => k_is)
    (case xh_PlanTaken => k_is)
    (case xn_PlanTaken => k_is)
    (case xt_PlanTaken => k_is)
    (case xm_PlanTaken => k_is)
    (case aC_PlanRefused => k_is)
    (case pg_PlanRefused => k_is)
    (case hd_PlanRefused => k_is)
    (case po_PlanRefused => k_is)
    (case sa_PlanRefused => k_is)
    (case mk_PlanRefused => k_is)
    (case kC_PlanRefused => k_is)
    (case ntaken_PlanRefused => k_is)
    (case nsource_PlanRefused => k_is)
    (case ntarget_PlanRefused => k_is)
    (case nway_PlanRefused => k_is)
    (case xh_PlanRefused => k_is)
    (case xn_PlanRefused => k_is)
    (case xt_PlanRefused => k_is)
    (case xm_PlanRefused => k_is)
    (case a1 => k_is)
    (case l1 => k_is)
    (case c1 => k_is)
    (case k1 => k_is)
    (case a2 => k_is)
    (case l2 => k_is)
    (case c2 => k_is)
    (case k2 => k_is)
    (case a3 => k_is)
    (case l3 => k_is)
    (case c3 => k_is)
    (case k3 => k_is)
    (case a4 => k_is)
    (case l4 => k_is)
    (case c4 => k_is)
    (case k4 => k_is)
    (case a5 => k_is)
    (case l5 => k_is)
    (case c5 => k_is)
    (case k5 => k_is)
    (case a6 => k_is)
    (case l6 => k_is)
    (case c6 => k_is)
    (case k6 => k_is)
    (case a7 => k_is)
    (case l7 => k_is)
    (case c7 => k_is)
    (case k7 => k_is)
    (case a8 => k_is)
    (case l8 => k_is)
    (case c8 => k_is)
    (case k8 => k_is)
    (case a9 => k_is)
    (case l9 => k_is)
    (case c9 => k_is)
    (case k9 => k_is)
    (case a10 => k_is)
    (case l10 => k_is)
    (case c10 => k_is)
    (case k10 => k_is)
    (case a11 => k_is)
    (case l11 => k_is)
    (case c11 => k_is)
    (case k11 => k_is)
    (case a12 => k_is)
    (case l12 => k_is)
    (case c12 => k_is)
    (case k12 => k_is)
    (case kq12 => k_is)
    (case kt12 => k_is)
    (case a13 => k_is)
    (case l13 => k_is)
    (case c13 => k_is)
    (case k13 => k_is)
    (case a14 => k_is)
    (case l14 => k_is)
    (case c14 => k_is)
    (case k14 => k_is)
    (case a15 => k_is)
    (case l15 => k_is)
    (case c15 => k_is)
    (case k15 => k_is)
    (case a16 => k_is)
    (case l16 => k_is)
    (case c16 => k_is)
    (case k16 => k_is)
    (case a17 => k_is)
    (case l17 => k_is)
    (case c17 => k_is)
    (case k17 => k_is)
    (case a18 => k_is)
    (case l18 => k_is)
    (case c18 => k_is)
    (case k18 => k_is)
    (case a19 => k_is)
    (case l19 => k_is)
    (case c19 => k_is)
    (case k19 => k_is)
    (case a20 => k_is)
    (case l20 => k_is)
    (case c20 => k_is)
    (case k20 => k_is)
    (case a21 => k_is)
    (case l21 => k_is)
    (case c21 => k_is)
    (case k21 => k_is)
    (case a22 => k_is)
    (case l22 => k_is)
    (case c22 => k_is)
    (case k22 => k_is)
    (case a23 => k_is)
    (case l23 => k_is)
    (case c23 => k_is)
    (case k23 => k_is)
    (case a24 => k_is)
    (case l24 => k_is)
    (case c24 => k_is)
    (case k24 => k_is)
    (case a25 => k_is)
    (case l25 => k_is)
    (case c25 => k_is)
    (case k25 => k_is)
    (case a26 => k_is)
    (case l26 => k_is)
    (case c26 => k_is)
    (case k26 => k_is)
    (case a27 => k_is)
    (case l27 => k_is)
    (case c27 => k_is)
    (case k27 => k_is)
    (case a28 => k_is)
    (case l28 => k_is)
    (case c28 => k_is)
    (case k28 => k_is)
    (case a29 => k_is)
    (case i29 => k_is)
    (case l29 => k_is)
    (case c29 => k_is)
    (case k29 => k_is)
    (case a30 => k_is)
    (case i30 => k_is)
    (case l30 => k_is)
    (case c30 => k_is)
    (case k30 => k_is)
    (case a31 => k_is)
    (case i31 => k_is)
    (case l31 => k_is)
    (case c31 => k_is)
    (case k31 => k_is)
    (case a32 => k_is)
    (case i32 => k_is)
    (case l32 => k_is)
    (case c32 => k_is)
    (case k32 => k_is)
    (case a33 => k_is)
    (case i33 => k_is)
    (case l33 => k_is)
    (case c33 => k_is)
    (case k33 => k_is)
    (case a34 => k_is)
    (case i34 => k_is)
    (case l34 => k_is)
    (case c34 => k_is)
    (case k34 => k_is)
    (case a35 => k_is)
    (case i35 => k_is)
    (case l35 => k_is)
    (case c35 => k_is)
    (case k35 => k_is)
    (case a36 => k_is)
    (case i36 => k_is)
    (case l36 => k_is)
    (case c36 => k_is)
    (case k36 => k_is)
    (case a37 => k_is)
    (case i37 => k_is)
    (case l37 => k_is)
    (case c37 => k_is)
    (case k37 => k_is)
    (case a38 => k_is)
    (case i38 => k_is)
    (case l38 => k_is)
    (case c38 => k_is)
    (case k38 => k_is)
    (case a39 => k_is)
    (case i39 => k_is)
    (case l39 => k_is)
    (case c39 => k_is)
    (case k39 => k_is)
    (case a40 => k_is)
    (case i40 => k_is)
    (case l40 => k_is)
    (case c40 => k_is)
    (case k40 => k_is)
    (case a41 => k_is)
    (case i41 => k_is)
    (case l41 => k_is)
    (case c41 => k_is)
    (case k41 => k_is)
    (case a42 => k_is)
    (case i42 => k_is)
    (case l42 => k_is)
    (case c42 => k_is)
    (case k42 => k_is)
    (case a43 => k_is)
    (case i43 => k_is)
    (case l43 => k_is)
    (case c43 => k_is)
    (case k43 => k_is)
    (case a44 => k_is)
    (case i44 => k_is)
    (case l44 => k_is)
    (case c44 => k_is)
    (case k44 => k_is)
    (case a45 => k_is)
    (case i45 => k_is)
    (case l45 => k_is)
    (case c45 => k_is)
    (case k45 => k_is)
    (case a46 => k_is)
    (case i46 => k_is)
    (case l46 => k_is)
    (case c46 => k_is)
    (case k46 => k_is)
    (case a47 => k_is)
    (case l47 => k_is)
    (case c47 => k_is)
    (case k47 => k_is)
    (case z0 => k_is)
    (case z1 => k_is)
    (case z2 => k_is)
    (case z3 => k_is)
    (case z4 => k_is)
    (case z5 => k_is)
    (case z6 => k_is)
    (case z7 => k_is)
    (case z8 => k_is)
    (case z9 => k_is)
    (case z10 => k_is)
    (case z11 => k_is)
    (case z12 => k_is)
    (case z13 => k_is)
    (case z14 => k_is)
    (case m0 => k_is)
    (case cc => k_is)
    (case pp => exact rfl)

