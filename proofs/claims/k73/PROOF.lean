import PyProof.Rows.All
import Wide.All
import OpenK.AllK
import Wide.FinOn
import HandS.Base
import HandS.Call
import HandS.List
import HandS.Comp
import HandS.Iter
import HandS.Dict
import HandS.Text
import HandS.Ends
import HandS.Words
import HandS.WordsList
import HandS.Wide
import HandS.Defaults
import HandS.Zip
import KE.DataEq
import HandS.Walk
import HandS.IsInst
import HandS.Codes
import HandS.Rev
import HandS.RevRange
import KE.GoesEnum
import KE.SortData
import HandS.Style
import HandS.SortInts
import HandS.TupSets
import KE.SortKeyHeap
import KE.KSortKey
import HandS.Lambda
import HandS.SortKw
import HandS.Deep
import HandS.TryOnly
import HandS.EndTab
import KE.KeyNested
import KE.DataFind
import HandS.Star
import HandS.TupMul
import HandS.TupAny
import HandS.Strs
import HandS.DictComp
import HandS.Conv
import HandS.WordsDict
import HandS.Small
import KE.DataMinMax
import PyProof.StrWalks
import PyProof.Claim2Refuses
import KE.KEqDict
import HandS.OwnEq
import HandS.MakeKwOnly
import KE.KDictZip
import PyProof.InstNe
import HandS.TupLen
import HandS.ExcInit
import HandS.Nested
import HandS.FStr
import KE.KExcSuper
import KE.KSuper
import HandS.ExcSuper
import PyProof.CallFns
import PyProof.StrLawsRepr
import KE.DataMinKey
import HandS.ExcIs
import HandS.ExcField
import KE.GoesMore
import KE.KDictSum
import KE.OsRunLaw
import Open.Tops
import KE.KMinKey
import PySem.Challenge.RW_feeblind_k73_whole_open_read_goes_throug
set_option Elab.async false
set_option linter.all false
set_option maxRecDepth 100000
set_option maxHeartbeats 4000000
namespace Fb
open PySem PySem.Spec L2
open PyProof.Rows hiding St
theorem grow {H : Hp} {p : Addr} {o : HO} (h : H p = none) : Same H (upd H p o) := by
  intro b u e
  rw [upd_ne (ne_of_none e h)]
  exact e
theorem upd_self {H : Hp} {p : Addr} {o : HO} (h : H p = some o) : upd H p o = H := by
  funext b
  unfold upd
  by_cases e : b = p
  · rw [if_pos e, e, h]
  · rw [if_neg e]
theorem same_tup {K : PySem.W.Frag} {H H' : Hp} {a : Addr} {xs : List V} (e : Same H H') (h : SqT K H a xs) : SqT K H' a xs := by
  rcases h with (h | ⟨o, h⟩) | h
  · exact Or.inl (Or.inl (e _ _ h))
  · exact Or.inl (Or.inr ⟨o, e _ _ h⟩)
  · exact Or.inr h
mutual
theorem dp_plain {K : PySem.W.Frag} {H : Hp} : ∀ (d : PyData) {v : V}, Dp K H v d → d.plain = true
  | .none, _, _ => rfl
  | .bool _, _, _ => rfl
  | .int _, _, _ => rfl
  | .str _, _, _ => rfl
  | .list ds, _, h => by
    cases h with
    | lst _ a => exact dpAll_plain ds a
  | .tuple ds, _, h => by
    cases h with
    | tup _ a => exact dpAll_plain ds a
  | .dict _, _, h => by cases h
theorem dpAll_plain {K : PySem.W.Frag} {H : Hp} : ∀ (ds : List PyData) {vs : List V}, DpAll K H vs ds → PyData.plainAll ds = true
  | [], _, _ => rfl
  | d :: ds, _, h => by
    cases h with
    | cons a b =>
      have h1 := dp_plain d a
      have h2 := dpAll_plain ds b
      simp only [PyData.plainAll, h1, h2, Bool.and_self]
end
def rEqP (K : PySem.W.Frag) : R2 := fun x y H Q => ∃ d e, Dp K H x d ∧ Dp K H y e ∧ min d.depth e.depth ≤ 60 ∧ Q (.bl (PyData.eqv d e)) H
def rNeP (K : PySem.W.Frag) : R2 := fun x y H Q => ∃ d e, Dp K H x d ∧ Dp K H y e ∧ min d.depth e.depth ≤ 60 ∧ Q (.bl (!PyData.eqv d e)) H
section
variable {X : Cx} {k : Nat}
theorem op_eqP (hr : Room k X.A) : OpR X (compareOp .Eq) (rEqP X.K) := by
  rintro pins s σ H x y v u Q I rx ry ⟨d, e, hd, he, hl, q⟩
  obtain ⟨as, r1⟩ := Dp.reads I d x v hd rx
  obtain ⟨bs, r2⟩ := Dp.reads I e y u he ry
  have hu := hr.units
  exact SeqAt.eq_plain r1 r2 (dp_plain d hd) (dp_plain e he) (by omega) ⟨.bl _, H, I, rfl, q⟩
theorem op_neP (hr : Room k X.A) : OpR X (compareOp .NotEq) (rNeP X.K) := by
  rintro pins s σ H x y v u Q I rx ry ⟨d, e, hd, he, hl, q⟩
  obtain ⟨as, r1⟩ := Dp.reads I d x v hd rx
  obtain ⟨bs, r2⟩ := Dp.reads I e y u he ry
  have hu := hr.units
  exact SeqAt.ne_plain r1 r2 (dp_plain d hd) (dp_plain e he) (by omega) ⟨.bl _, H, I, rfl, q⟩
end
def rAddStr : R2 := fun x y H Q => ∃ i j, x = .str i ∧ y = .str j ∧ i.length + j.length ≤ sizeLine ∧ Q (.str (i ++ j)) H
def rAddU : R2 := fun x y H Q => rI0 (fun i j => .int (i + j)) x y H Q ∨ rAddStr x y H Q ∨ rCat x y H Q
def rLeStr : R2 := fun x y H Q => ∃ i j, x = .str i ∧ y = .str j ∧ Q (.bl (!decide (j.cps.toList < i.cps.toList))) H
def rLeU : R2 := fun x y H Q => rI0 (fun i j => .bl (decide (i ≤ j))) x y H Q ∨ rLeStr x y H Q
def rLtStr : R2 := fun x y H Q => ∃ i j, x = .str i ∧ y = .str j ∧ Q (.bl (decide (i.cps.toList < j.cps.toList))) H
def rLtU (K : PySem.W.Frag) : R2 := fun x y H Q => rI0 (fun i j => .bl (decide (i < j))) x y H Q ∨ rLtStr x y H Q ∨ rLtT K x y H Q
def rEqU (K : PySem.W.Frag) : R2 := fun x y H Q => rEq x y H Q ∨ rEqP K x y H Q
def rNeU (K : PySem.W.Frag) : R2 := fun x y H Q => rNe x y H Q ∨ rNeP K x y H Q
def rLenSeq (K : PySem.W.Frag) : List V → Hp → VK → Prop := fun xs H Q => ∃ p ys, xs = [.ref p] ∧ (SqL K H p ys ∨ SqT K H p ys) ∧ Q (.int ys.length) H
def rLenStr : List V → Hp → VK → Prop := fun xs H Q => ∃ z, xs = [.str z] ∧ z.length ≤ sizeLine ∧ Q (.int z.length) H
def rLenU (K : PySem.W.Frag) : List V → Hp → VK → Prop := fun xs H Q => rLenSeq K xs H Q ∨ rLenStr xs H Q
def rSlU (K : PySem.W.Frag) : V → Option Int → Option Int → Hp → VK → Prop := fun x lo hi H Q => rSlL K x lo hi H Q ∨ rSlS x lo hi H Q
section
variable {X : Cx} {k : Nat}
theorem op_addU : OpR X (binaryOp .Add) rAddU := op_add.or (op_add_str.or op_cat)
theorem op_leU : OpR X (compareOp .LtE) rLeU := op_le.or op_le_str
theorem op_geU : OpR X (compareOp .GtE) (rI0 fun i j => .bl (decide (j ≤ i))) := op_ge
theorem op_gtU : OpR X (compareOp .Gt) (rI0 fun i j => .bl (decide (j < i))) := op_gt
theorem op_ltU (hr : Room k X.A) : OpR X (compareOp .Lt) (rLtU X.K) := op_lt.or (op_lt_str.or (op_ltT hr.units0))
theorem op_eqU (hr : Room k X.A) : OpR X (compareOp .Eq) (rEqU X.K) := op_eq.or (op_eqP hr)
theorem op_neU (hr : Room k X.A) : OpR X (compareOp .NotEq) (rNeU X.K) := op_ne.or (op_neP hr)
theorem call_lenU : CallR X (.builtin "len") (rLenU X.K) := call_len_seq.or call_len_str
theorem sl_U : SlR X (rSlU X.K) := sl_list.or sl_str
end
def iAny (K : PySem.W.Frag) (tl : TE) : TI := fun σ H R => tl σ H fun x H1 =>
  (∃ a, x = .ref a ∧ (∃ xs, SqL K H1 a xs) ∧ R (Itl K a) H1) ∨ (∃ a, x = .ref a ∧ (∃ xs, SqT K H1 a xs) ∧ R (Itt K a) H1) ∨ (∃ z, x = .str z ∧ R (Its z) H1)
theorem pi_any {X : Cx} {tg l : Expr} {tl : TE} (hl : PE X l tl) : PI X tg l (iAny X.K tl) := by
  constructor
  intro pins s σ H R I h
  refine thn (hl.run pins s σ H _ I h) ?_
  rintro v s1 ⟨x, H1, I1, r1, q1⟩
  rcases q1 with ⟨a, e, ⟨xs, hq⟩, q⟩ | ⟨a, e, ⟨xs, hq⟩, q⟩ | ⟨z, e, q⟩
  all_goals subst e
  · cases r1
    obtain ⟨its, rv, p, hz⟩ := I1.list hq
    exact wpAny_pyIter_list p.isList (pi_one (tk := s1.toks) I1 _ (turn_list a _) ⟨_, Heap.get?_push_size _ rfl, rfl, rfl⟩ q)
  · cases r1
    obtain ⟨its, rv, p, hz⟩ := I1.tuple hq
    exact wpAny_pyIter_tuple (show s1.heap.IsTuple a its.toArray from p) (pi_one (tk := s1.toks) I1 _ (turn_tuple a _) ⟨_, Heap.get?_push_size _ rfl, rfl, rfl⟩ q)
  · obtain ⟨t, rfl⟩ := r1
    cases ha : z.cps.all (· < 128) with
    | false => exact wpAny_pyIter_wide ha (pi_one (tk := s1.toks) I1 _ (turn_str _ z t "str_iterator" (.inr rfl)) ⟨_, Heap.get?_push_size _ rfl, rfl, rfl⟩ q)
    | true => exact wpAny_pyIter_ascii ha (pi_one (tk := s1.toks) I1 _ (turn_str _ z t "str_ascii_iterator" (.inl rfl)) ⟨_, Heap.get?_push_size _ rfl, rfl, rfl⟩ q)
theorem retrack {X : Cx} {pins : List (Addr × Obj)} {σ : St} {H : Hp} {s : Shared} {p : Addr} {o : HO} (I : Inv X pins σ H s) (mu : Mut (H p)) (there : ∃ u, s.heap.get? p = some u) (new : ObjOk X.prog X.w (upd H p o) s.heap p o) : Inv X pins σ (upd H p o) s :=
  I.write (h' := s.heap) (t' := s.toks) mu (.inl rfl) (fun _ _ _ e => e) there new
def bagL (q : Addr) (i c st t : Int) : List V := [.ref q, .int i, .int c, .int st, .int t]
def BagOk (i st : Int) : Prop := 0 ≤ i ∧ 0 ≤ st ∧ st < 2147483629
def bagO (q p : Addr) : HO := .ext fun h => ∃ (i c st t : Int) (its : List Value) (n : Nat), BagOk i st ∧ Vals (bagL q i c st t) its ∧ h.get? p = some { cls := .type "list", data := .seq its.toArray n }
theorem bag_shut {P : Program} {w : World} {H : Hp} {h : Heap} {q p : Addr} {i c st t : Int} (b : BagOk i st) (x : ObjOk P w H h p (.lst (bagL q i c st t))) : ObjOk P w H h p (bagO q p) := by
  obtain ⟨_, its, n, v, e⟩ := x
  refine ⟨⟨i, c, st, t, its, n, b, v, e⟩, ⟨_, e⟩, ?_⟩
  rintro h1 h2 ⟨i, c, st, t, its, n, b, v, e⟩ k
  exact ⟨i, c, st, t, its, n, b, v, k _ e⟩
theorem bag_opened {P : Program} {w : World} {H : Hp} {h : Heap} {q p : Addr} (x : ObjOk P w H h p (bagO q p)) : ∃ i c st t, BagOk i st ∧ ∀ H' : Hp, ObjOk P w H' h p (.lst (bagL q i c st t)) := by
  obtain ⟨⟨i, c, st, t, its, n, b, v, e⟩, _⟩ := x
  exact ⟨i, c, st, t, b, fun _ => ⟨by show 5 ≤ sizeLine; decide, its, n, v, e⟩⟩
/-- the bag at p stands as a list meanwhile -/
def shutAt (q p : Addr) (F : Hp → Prop) (H : Hp) : Prop := ∃ i c st t, BagOk i st ∧ H p = some (.lst (bagL q i c st t)) ∧ F (upd H p (bagO q p))
def tBag (t : TS) : TS := fun D σ H => ∃ p q, H p = some (bagO q p) ∧ ∀ i c st tt, BagOk i st →
  t ⟨fun σ' => shutAt q p (D.nx σ'), fun v => shutAt q p (D.rt v), fun σ' => shutAt q p (D.bk σ'), fun σ' => shutAt q p (D.ct σ')⟩ σ (upd H p (.lst (bagL q i c st tt)))
theorem shut {X : Cx} {pins : List (Addr × Obj)} {σ : St} {H : Hp} {s : Shared} {q p : Addr} {F : Hp → Prop} (I : Inv X pins σ H s) (h : shutAt q p F H) : ∃ H', Inv X pins σ H' s ∧ F H' := by
  obtain ⟨i, c, st, t, b, e, f⟩ := h
  have old := I.hok _ _ e
  obtain ⟨l, its, n, v, g⟩ := old
  exact ⟨_, retrack I (by rw [e]; trivial) ⟨_, g⟩ (bag_shut (H := upd H p (bagO q p)) b ⟨l, its, n, v, g⟩), f⟩
theorem pss_bag {X : Cx} {sts : List Stmt} {t : TS} (h : PSs X sts t) : PSs X sts (tBag t) := by
  constructor
  intro pins s σ H D I hw
  obtain ⟨p, q, hp, hw⟩ := hw
  obtain ⟨i, c, st, tt, b, ok⟩ := bag_opened (I.hok _ _ hp)
  have I1 := retrack (p := p) I (by rw [hp]; trivial) (I.hok _ _ hp).2.1 (ok _)
  refine thn (h.run pins s σ _ _ I1 (hw i c st tt b)) ?_
  intro f s1 r
  cases f with
  | next => obtain ⟨σ', H', I2, e⟩ := r; obtain ⟨H2, I3, f⟩ := shut I2 e; exact ⟨σ', H2, I3, f⟩
  | brk => obtain ⟨σ', H', I2, e⟩ := r; obtain ⟨H2, I3, f⟩ := shut I2 e; exact ⟨σ', H2, I3, f⟩
  | cont => obtain ⟨σ', H', I2, e⟩ := r; obtain ⟨H2, I3, f⟩ := shut I2 e; exact ⟨σ', H2, I3, f⟩
  | ret v => obtain ⟨x, σ', H', I2, rv, e⟩ := r; obtain ⟨H2, I3, f⟩ := shut I2 e; exact ⟨x, σ', H2, I3, rv, f⟩
/-- a list that is handed back becomes a bag -/
def tBagNew (t : TS) : TS := fun D σ H => t { D with rt := fun v H' => ∃ p q, v = .ref p ∧ shutAt q p (D.rt v) H' } σ H
theorem pss_bagNew {X : Cx} {sts : List Stmt} {t : TS} (h : PSs X sts t) : PSs X sts (tBagNew t) := by
  constructor
  intro pins s σ H D I hw
  refine thn (h.run pins s σ _ _ I hw) ?_
  intro f s1 r
  cases f with
  | next => exact r
  | brk => exact r
  | cont => exact r
  | ret v =>
    obtain ⟨x, σ', H', I2, rv, p, q, e, r⟩ := r
    obtain ⟨H2, I3, f⟩ := shut I2 r
    exact ⟨x, σ', H2, I3, rv, f⟩
end Fb
set_option Elab.async false
set_option linter.all false
set_option maxRecDepth 100000
set_option maxHeartbeats 4000000
namespace Fb
open PySem PySem.Spec L2
open PyProof.Rows hiding St
open C8 (Cal Met Mak Def cal0 met0 mak0 pe_c pe_mk pe_mt pe_mt0 fnScope fnBody fnArgs)
def anyB (a : String) : List String → Option Bool
  | [] => some false
  | b :: r => match kitB a b with
    | some true => some true
    | some false => anyB a r
    | none => none
theorem kit_any {K : PySem.W.Frag} {a : String} : ∀ {ns : List String} {b : Bool}, anyB a ns = some b → PySem.W.kitAny K (.type a) (ns.map Value.type) = some b
  | [], b, h => h
  | n :: r, b, h => by
    have ih := @kit_any K a r b
    unfold anyB at h
    rw [List.map_cons]
    unfold PySem.W.kitAny
    cases e : kitB a n with
    | none =>
      rw [e] at h
      cases h
    | some c =>
      rw [e] at h
      rw [kit_ty (K := K) e]
      cases c with
      | true => exact h
      | false => exact ih h
theorem clsAll : ∀ ns : List String, Paired ClsV (ns.map V.ty) (ns.map Value.type)
  | [] => .nil
  | n :: r => .cons (.ty n) (clsAll r)
def rIs1 (K : PySem.W.Frag) : List V → Hp → VK → Prop := fun xs H Q => ∃ (x : V) (n t : String) (b : Bool), xs = [x, .ty n] ∧ TyX K H x (.type t) ∧ kitB t n = some b ∧ Q (.bl b) H
def rIsN (K : PySem.W.Frag) : List V → Hp → VK → Prop := fun xs H Q => ∃ (x : V) (tp : Addr) (ns : List String) (t : String) (b : Bool), xs = [x, .ref tp] ∧ H tp = some (.tup (ns.map V.ty)) ∧ TyX K H x (.type t) ∧ anyB t ns = some b ∧ Q (.bl b) H
def rIsiU (K : PySem.W.Frag) : List V → Hp → VK → Prop := fun xs H Q => rIs1 K xs H Q ∨ rIsN K xs H Q
theorem CallR.imp {X : Cx} {f : Value} {r r' : List V → Hp → VK → Prop} (h : CallR X f r) (i : ∀ xs H Q, r' xs H Q → r xs H Q) : CallR X f r' :=
  fun pins s σ H xs us Q I rv q => h pins s σ H xs us Q I rv (i _ _ _ q)
theorem call_isiU {X : Cx} : CallR X (.builtin "isinstance") (rIsiU X.K) := by
  refine CallR.imp (call_isi.or call_isiT) fun xs H Q h => ?_
  rcases h with ⟨x, n, t, b, e, ty, kb, q⟩ | ⟨x, tp, ns, t, b, e, ht, ty, kb, q⟩
  · exact .inl ⟨x, _, _, _, b, e, .ty n, ty, kit_ty kb, q⟩
  · exact .inr ⟨x, tp, _, _, _, b, e, ht, clsAll ns, ty, kit_any kb, q⟩
def rInSign (f : Bool → Bool) : R2 := fun x y H Q => ∃ (c : Nat) (z : Str), x = .str ⟨#[c]⟩ ∧ y = .str z ∧ Q (.bl (f (decide (c ∈ z.cps.toList)))) H
def rInU (K : PySem.W.Frag) : R2 := fun x y H Q => rInSign (fun b => b) x y H Q ∨ rIn K false x y H Q
def rNotInU (K : PySem.W.Frag) : R2 := fun x y H Q => rInSign (fun b => !b) x y H Q ∨ rIn K true x y H Q
def rListOf (K : PySem.W.Frag) : List V → Hp → VK → Prop := fun xs H Q => ∃ p ys, xs = [.ref p] ∧ (SqL K H p ys ∨ SqT K H p ys) ∧ ∀ l, H l = none → Q (.ref l) (upd H l (.lst ys))
def rTupleOf (K : PySem.W.Frag) : List V → Hp → VK → Prop := fun xs H Q => ∃ p ys, xs = [.ref p] ∧ ((SqL K H p ys ∧ ∀ l, H l = none → Q (.ref l) (upd H l (.tup ys))) ∨ (SqT K H p ys ∧ Q (.ref p) H))
section
variable {X : Cx} {K : PySem.W.Frag} {k : Nat} (e : X.K = K)
include e
theorem ix_K : IxR X (rIx K) := e ▸ ix_seq
theorem eq_K (hr : Room k X.A) : OpR X (compareOp .Eq) (rEqU K) := e ▸ op_eqU hr
theorem ne_K (hr : Room k X.A) : OpR X (compareOp .NotEq) (rNeU K) := e ▸ op_neU hr
theorem lt_K (hr : Room k X.A) : OpR X (compareOp .Lt) (rLtU K) := e ▸ op_ltU hr
theorem in_K : OpR X (compareOp .In) (rInU K) := e ▸ op_in_sign.or op_in_seq
theorem notIn_K : OpR X (compareOp .NotIn) (rNotInU K) := e ▸ op_notIn_sign.or op_notIn_seq
theorem len_K : CallR X (.builtin "len") (rLenU K) := e ▸ call_lenU
theorem all_K (hc : X.calm = true) : CallR X (.builtin "all") (rAll K) := e ▸ cr_all hc
theorem any_K (hc : X.calm = true) : CallR X (.builtin "any") (rAny K) := e ▸ cr_any hc
theorem sl_K : SlR X (rSlU K) := e ▸ sl_U
theorem listOf_K : CallR X (.type "list") (rListOf K) := e ▸ call_list_of
theorem tupleOf_K : CallR X (.type "tuple") (rTupleOf K) := e ▸ call_tuple_of
theorem tup_K {es : List Expr} {kk n : Nat} {t : TGs} {pos : Pos} (hc : X.calm = true) (h : PGs X es t)
    (hn : (assignEach es X.env).length = n := by rfl) (hst : (assignEach es X.env).findIdx? (·.1) = none := by rfl) :
    PG X (.Tuple es kk pos) (gTup K n t) := e ▸ pg_tup hc h hn hst
theorem pi_K {tg l : Expr} {tl : TE} (hl : PE X l tl) : PI X tg l (iAny K tl) := e ▸ pi_any hl
theorem zip_K {e1 e2 : Expr} {ta : TA} {p pos tpos : Pos} {elts : List Expr} {kk : Nat} (hg : Gl X "zip") (hm : X.mg "zip" = none) (ha : PA X [e1, e2] ta)
    (hs : starEach [e1, e2] X.env = (false, eval e1 X.env) :: starEach [e2] X.env := by rfl) (hpl : (backTo pos (starEach [e2] X.env)).any (·.1) = false := by rfl) :
    PI X (.Tuple elts kk tpos) (.Call (.Name "zip" p) [e1, e2] [] pos) (RZ.iZipA K ta) := e ▸ RZ.pi_zipA hg hm ha hs hpl
end
def AnyV (K : PySem.W.Frag) (H : Hp) (v : V) : Prop :=
  v = .non ∨ (∃ b, v = .bl b) ∨ (∃ i, v = .int i) ∨ (∃ z : Str, v = .str z ∧ z.length ≤ 100000) ∨ (∃ a xs, v = .ref a ∧ H a = some (.lst xs)) ∨ (∃ a xs, v = .ref a ∧ H a = some (.tup xs)) ∨ ∃ a kvs, v = .ref a ∧ H a = some (.dK kvs)
theorem AnyV.mono {K : PySem.W.Frag} {H H' : Hp} {v : V} (h : AnyV K H v) (e : Same H H') : AnyV K H' v := by
  rcases h with h | h | h | h | ⟨a, xs, h, g⟩ | ⟨a, xs, h, g⟩ | ⟨a, xs, h, g⟩
  · exact .inl h
  · exact .inr (.inl h)
  · exact .inr (.inr (.inl h))
  · exact .inr (.inr (.inr (.inl h)))
  · exact .inr (.inr (.inr (.inr (.inl ⟨a, xs, h, e _ _ g⟩))))
  · exact .inr (.inr (.inr (.inr (.inr (.inl ⟨a, xs, h, e _ _ g⟩)))))
  · exact .inr (.inr (.inr (.inr (.inr (.inr ⟨a, xs, h, e _ _ g⟩)))))
theorem any_int {K : PySem.W.Frag} {H : Hp} (i : Int) : AnyV K H (.int i) := .inr (.inr (.inl ⟨i, rfl⟩))
theorem any_str {K : PySem.W.Frag} {H : Hp} {z : Str} (h : z.length ≤ 100000) : AnyV K H (.str z) := .inr (.inr (.inr (.inl ⟨z, rfl, h⟩)))
/-- its type's name -/
def tyName (H : Hp) : V → String
  | .non => "NoneType"
  | .bl _ => "bool"
  | .int _ => "int"
  | .str _ => "str"
  | .ref a => match H a with
    | some (.lst _) => "list"
    | some (.tup _) => "tuple"
    | _ => "dict"
  | _ => "dict"
theorem AnyV.ty {K : PySem.W.Frag} {H : Hp} {v : V} (h : AnyV K H v) : TyX K H v (.type (tyName H v)) := by
  rcases h with h | ⟨b, h⟩ | ⟨i, h⟩ | ⟨z, h, _⟩ | ⟨a, xs, h, g⟩ | ⟨a, xs, h, g⟩ | ⟨a, xs, h, g⟩
  all_goals subst h
  · exact .base .non
  · exact .base (.bl b)
  · exact .base (.int i)
  · exact .base (.str z)
  · simp only [tyName, g]; exact .base (.lst g)
  · simp only [tyName, g]; exact .base (.tup g)
  · simp only [tyName, g]; exact .base (.dK g)
theorem isi_K {X : Cx} {K : PySem.W.Frag} (e : X.K = K) : CallR X (.builtin "isinstance") (rIsiU K) := e ▸ call_isiU
section
variable {X : Cx} {CX : CXT} {k n : Nat} {f : Addr} {fd : FuncData} {ps ks : List Str} {sp : Sp} {E : XK} {x : Str} {p pos : Pos} {kws : List Keyword} {tk : TA} {g : List Value → List Value → List Value} {gV : List V → List V → List V}
end
section
variable {X : Cx} {k j n : Nat} {x : Str} {sp : Sp} {ks : List Str} {gV : List V → List V → List V} {p pos : Pos} {e : Expr} {es : List Expr} {kws : List Keyword} {t tk : TA}
end
def sp1 (f : V → Hp → VK → Prop) : Sp := fun vs H Q _ => ∃ a, vs = [a] ∧ f a H Q
def sp2 (f : V → V → Hp → VK → Prop) : Sp := fun vs H Q _ => ∃ a b, vs = [a, b] ∧ f a b H Q
def sp3 (f : V → V → V → Hp → VK → Prop) : Sp := fun vs H Q _ => ∃ a b c, vs = [a, b, c] ∧ f a b c H Q
/-- whatever heap comes that keeps this one -/
def Then (H : Hp) (Q : VK) (v : V) : Prop := ∀ H', Same H H' → Q v H'
theorem Then.here {H : Hp} {Q : VK} {v : V} (h : Then H Q v) : Q v H := h H (Same.refl H)
theorem Then.mono {H H' : Hp} {Q : VK} {v : V} (h : Then H Q v) (e : Same H H') : Then H' Q v := fun H2 e2 => h H2 (e.trans e2)
section
variable {P : Program} {w : World} {K : PySem.W.Frag} {mg : Str → Option Value} {base : Heap} {x : Str} {st : Stmt} {f : Addr} {fd : FuncData} {N : List Str} {k : Nat} {p1 p2 p3 p4 : Str}
theorem fn1 {g : V → Hp → VK → Prop} (F : Def K mg x st f fd) (S : FnScope N [p1] (fnScope st))
    (body : ∀ (cdv : Value) (A : Around) (outer : List Env) (s : Shared) (H : Hp) (a : V) (Q : VK) (E : XK), Room k (A.deeper (envOfC x (fnScope st) s.heap.objs.size f cdv)) → g a H Q →
      ∃ t, PSs (cxOf C8.CX0 P w K mg base N x (fnScope st) f cdv A outer s H E).nox (fnBody st) t ∧ t { nx := fun _ H' => Q .non H', rt := Q } (start N [a]) H) : FnOk P w K mg base C8.CX0 (k + 1) f fd [p1] (sp1 g) := by
  refine C8.fn0 F.fn S ?_ ?_
  · rintro vs H Q E ⟨a, rfl, _⟩
    rfl
  · rintro cdv A outer s H vs Q E hr ⟨a, rfl, h⟩
    exact body cdv A outer s H a Q E hr h
theorem fn2 {g : V → V → Hp → VK → Prop} (F : Def K mg x st f fd) (S : FnScope N [p1, p2] (fnScope st))
    (body : ∀ (cdv : Value) (A : Around) (outer : List Env) (s : Shared) (H : Hp) (a b : V) (Q : VK) (E : XK), Room k (A.deeper (envOfC x (fnScope st) s.heap.objs.size f cdv)) → g a b H Q →
      ∃ t, PSs (cxOf C8.CX0 P w K mg base N x (fnScope st) f cdv A outer s H E).nox (fnBody st) t ∧ t { nx := fun _ H' => Q .non H', rt := Q } (start N [a, b]) H) : FnOk P w K mg base C8.CX0 (k + 1) f fd [p1, p2] (sp2 g) := by
  refine C8.fn0 F.fn S ?_ ?_
  · rintro vs H Q E ⟨a, b, rfl, _⟩
    rfl
  · rintro cdv A outer s H vs Q E hr ⟨a, b, rfl, h⟩
    exact body cdv A outer s H a b Q E hr h
theorem fn3 {g : V → V → V → Hp → VK → Prop} (F : Def K mg x st f fd) (S : FnScope N [p1, p2, p3] (fnScope st))
    (body : ∀ (cdv : Value) (A : Around) (outer : List Env) (s : Shared) (H : Hp) (a b c : V) (Q : VK) (E : XK), Room k (A.deeper (envOfC x (fnScope st) s.heap.objs.size f cdv)) → g a b c H Q →
      ∃ t, PSs (cxOf C8.CX0 P w K mg base N x (fnScope st) f cdv A outer s H E).nox (fnBody st) t ∧ t { nx := fun _ H' => Q .non H', rt := Q } (start N [a, b, c]) H) : FnOk P w K mg base C8.CX0 (k + 1) f fd [p1, p2, p3] (sp3 g) := by
  refine C8.fn0 F.fn S ?_ ?_
  · rintro vs H Q E ⟨a, b, c, rfl, _⟩
    rfl
  · rintro cdv A outer s H vs Q E hr ⟨a, b, c, rfl, h⟩
    exact body cdv A outer s H a b c Q E hr h
theorem cal_of {ps : List Str} {sp : Sp} (F : Def K mg x st f fd) (df : fd.defaults = .none) (ok : FnOk P w K mg base C8.CX0 k f fd ps sp)
    (h : ∀ (kV doc pm : Value) (an : Option Addr) (cdv ct : Value) (us : List Value), us.length = ps.length → bindArgs (PySem.W.fnOf x x (fnArgs st) (fnBody st) (fnScope st) .none kV doc pm an cdv ct) ⟨us, []⟩ = pure (ps.zip us)) : Cal P w K mg base k x sp [] :=
  ⟨f, fd, ps, [], ok, F.mgf, F.kp, F.fn.binds df h, .nil⟩
end
def pick {α : Type} (us its ws : List α) : List (Nat × Nat) → List α
  | [] => []
  | (0, i) :: r => (us[i]?).toList ++ pick us its ws r
  | (1, i) :: r => (its[i]?).toList ++ pick us its ws r
  | (_, i) :: r => (ws[i]?).toList ++ pick us its ws r
theorem vals_at {vs : List V} {us : List Value} (r : Vals vs us) (i : Nat) : Vals (vs[i]?).toList (us[i]?).toList := by
  cases e : vs[i]? with
  | none =>
    rw [r.none_of e]
    exact .nil
  | some v =>
    obtain ⟨u, h, rv⟩ := r.get e
    rw [h]
    exact .cons rv .nil
theorem pick_rel {vs ds zs : List V} {us its ws : List Value} (r1 : Vals vs us) (r2 : Vals ds its) (r3 : Vals zs ws) : ∀ l : List (Nat × Nat), Vals (pick vs ds zs l) (pick us its ws l)
  | [] => .nil
  | (0, i) :: r => (vals_at r1 i).append (pick_rel r1 r2 r3 r)
  | (1, i) :: r => (vals_at r2 i).append (pick_rel r1 r2 r3 r)
  | (_ + 2, i) :: r => (vals_at r3 i).append (pick_rel r1 r2 r3 r)
section
variable {K : PySem.W.Frag} {mg : Str → Option Value} {x : Str} {st : Stmt} {f : Addr} {fd : FuncData} {ps ks : List Str} {dvs : List V}
theorem dfl_binds (F : Def K mg x st f fd) (D : DflV K fd.defaults dvs) (hd : dvs ≠ []) (n j : Nat) (hn : n + (dvs.length - j) = ps.length)
    (h : ∀ (T : Addr) (kV doc pm : Value) (an : Option Addr) (cdv ct : Value) (us its : List Value), us.length = n → its.length = dvs.length →
      ∃ k, bindArgs (PySem.W.fnOf x x (fnArgs st) (fnBody st) (fnScope st) (.ref T) kV doc pm an cdv ct) ⟨us, []⟩ = seqItems? (.ref T) >>= k ∧ k (some its.toArray) = pure (ps.zip (us ++ its.drop j))) :
    ∃ ds, Vals (dvs.drop j) ds ∧ Binds K fd ps ds := by
  obtain ⟨oc, od, dV, kV, doc, pm, an, cdv, ct, osl, rfl, lk, hcd⟩ := F.fn.ex
  rcases D with ⟨e, _⟩ | ⟨_, T, o, its, m, e, lT, oT, rT⟩
  · exact absurd e hd
  · have e : dV = .ref T := e
    subst e
    refine ⟨its.drop j, rT.drop j, ?_⟩
    intro s us X hlen
    have l1 : its.length = dvs.length := rT.length.symm
    have l2 : us.length = n := by
      rw [List.length_append, List.length_drop, l1] at hlen
      omega
    obtain ⟨k, e1, e2⟩ := h T kV doc pm an cdv ct us its l2 l1
    refine BindsTo.of_looks fun M => ?_
    rw [e1]
    exact looks_items X lT oT (.of_pure e2)
end
def BagAt (H : Hp) (p : Addr) : Prop := ∃ (q : Addr) (ns : List Int), H p = some (bagO q p) ∧ H q = some (.lst (ns.map V.int))
theorem BagAt.mono {H H' : Hp} {p : Addr} (h : BagAt H p) (e : Same H H') : BagAt H' p := by
  obtain ⟨q, ns, a, b⟩ := h
  exact ⟨q, ns, e _ _ a, e _ _ b⟩
theorem rd_bag {K : PySem.W.Frag} {H : Hp} {p : Addr} {xs : List V} {j : Int} {v : V} {Q : VK} (e : atI xs j = some v) (k : Q v (upd H p (.lst xs))) : rIx K (.ref p) (.int j) (upd H p (.lst xs)) Q :=
  .inl ⟨p, xs, j, v, rfl, rfl, SqL.of upd_same, e, k⟩
theorem set_bag {H : Hp} {p : Addr} {xs : List V} {k : Int} {j : Nat} {v : V} {Q : Hp → Prop} (e : ixN xs.length k = some j) (q : Q (upd H p (.lst (xs.set j v)))) : rSetL (.ref p) (.int k) v (upd H p (.lst xs)) Q :=
  ⟨p, xs, k, j, rfl, rfl, upd_same, e, by rw [upd_upd]; exact q⟩
theorem shut_bag {H : Hp} {p q : Addr} {F : Hp → Prop} {i c st t : Int} (hp : H p = some (bagO q p)) (b : BagOk i st) (f : F H) : shutAt q p F (upd H p (.lst (bagL q i c st t))) :=
  ⟨i, c, st, t, b, upd_same, by rw [upd_upd, upd_self hp]; exact f⟩
end Fb
set_option Elab.async false
set_option linter.all false
set_option maxRecDepth 100000
set_option maxHeartbeats 4000000
namespace Fb
open PySem PySem.Spec L2
open PyProof.Rows hiding St
open C8 (Cal Met Mak Def cal0 met0 mak0 pe_c pe_mk pe_mt pe_mt0 fnScope fnBody fnArgs)
theorem same_mut {H H' : Hp} {p : Addr} {o : HO} (e : Same H H') (h : H p = none) : Same H (upd H' p o) := by
  intro a u ha
  rw [upd_ne (ne_of_none ha h)]
  exact e a u ha
theorem size5 {n : Nat} (h : n ≤ 100000) : n < sizeLine := Nat.lt_of_le_of_lt h (by decide)
theorem size5' {n : Nat} (h : n ≤ 100000) : n ≤ sizeLine := Nat.le_of_lt (size5 h)
section
variable {J : It} {n : Nat} {G : Hp → Prop} {Y : Nat → Hp → V → Hp → Prop} {g : TG} {tt : TT} {te : TE} {vs : List Nat} {σ : L2.St} {H1 : Hp} {D : Addr} {Qd : Hp → Prop}
/-- what a turn gives only makes the heap grow -/
def YGrow (Y : Nat → Hp → V → Hp → Prop) : Prop := ∀ i H x H', Y i H x H' → Same H H'
theorem grow_at {xs : List V} : YGrow (YAt xs) := by
  rintro i H x H' ⟨rfl, _⟩
  exact Same.refl _
theorem grow_fn {f : Nat → V} : YGrow (YFn f) := by
  rintro i H x H' ⟨rfl, _⟩
  exact Same.refl _
theorem grow_pair {xs ys : Nat → Option V} : YGrow (YPair xs ys) := by
  rintro i H x H' ⟨T, a, b, _, h, rfl, _⟩
  exact grow h
theorem upd_same_of {H H' : Hp} {p : Addr} {o : HO} (e : Same H H') : Same (upd H p o) (upd H' p o) := by
  intro b u h
  by_cases q : b = p
  · subst q
    rw [upd_same] at h
    rw [upd_same]
    exact h
  · rw [upd_ne q] at h
    rw [upd_ne q]
    exact e b u h
/-- each element of its kind, told by P, which does not lean on the new list -/
theorem lc_some (w : Walk J n G Y) (P : Nat → V → Hp → Prop) (hy : YGrow Y) (hn : n ≤ 100000) (hD : H1 D = none) (st : ∀ i v H H', Same H H' → P i v H → P i v H') (hG : ∀ H, Same H1 H → G H)
    (hs : ∀ i x H H', i < n → Same H1 H → (∃ xs, H D = some (.lst xs)) → Y i H x H' → ∀ R : V → Hp → Prop, (∀ v H2, Same H' H2 → (∀ o, P i v (upd H2 D o)) → R v H2) → g x (wipe σ vs) H' fun σ2 H2 => wipe σ2 vs = wipe σ vs ∧ te σ2 H2 R)
    (hd : ∀ xs H, Same H1 H → H D = some (.lst xs) → xs.length = n → (∀ i v, xs[i]? = some v → P i v H) → Qd H) :
    ∃ W : Nat → Nat → Hp → Prop, (∃ m, W 0 m (upd H1 D (.lst []))) ∧ ∀ i m H, W i m H →
      (J.stop i H ∧ Qd H) ∨ (J.go i H ∧ ∃ Nx : Hp → Prop, (∀ H', Nx H' → ∃ m', m' < m ∧ W (i + 1) m' H') ∧ ∀ x H', J.yld i H x H' → g x (wipe σ vs) H' fun σ2 H2 => wipe σ2 vs = wipe σ vs ∧ tYes σ2 H2 fun b H3 =>
        if b = true then te σ2 H3 fun y H4 => ∃ acc, H4 D = some (.lst acc) ∧ acc.length < sizeLine ∧ Nx (upd H4 D (.lst (acc ++ [y]))) else Nx H3) := by
  refine lc_it w (fun i H => Same H1 H ∧ ∃ xs : List V, H D = some (.lst xs) ∧ xs.length = i ∧ ∀ j v, xs[j]? = some v → ∀ o, P j v (upd H D o)) ?_ ?_ ?_ ?_
  · refine ⟨grow hD, [], upd_same, rfl, ?_⟩
    intro j v h
    cases h
  · rintro i H _ ⟨e, _⟩
    exact hG H e
  · rintro i x H H' hi ⟨e, xs, hx, hl, hp⟩ y
    have e2 := hy _ _ _ _ y
    refine hs i x H H' hi e ⟨xs, hx⟩ y _ ?_
    intro v H4 e4 p
    have e3 := e2.trans e4
    refine ⟨xs, e3 _ _ hx, size5 (by omega), same_mut (e.trans e3) hD, xs ++ [v], upd_same, by rw [List.length_append, hl]; rfl, ?_⟩
    intro j u hj o
    rw [upd_upd]
    by_cases q : j < xs.length
    · rw [List.getElem?_append_left q] at hj
      exact st _ _ _ _ (upd_same_of e3) (hp j u hj o)
    · rw [List.getElem?_append_right (by omega)] at hj
      have ej : j - xs.length = 0 := by
        cases h0 : j - xs.length with
        | zero => rfl
        | succ m =>
          rw [h0] at hj
          cases hj
      rw [ej] at hj
      cases hj
      rw [show j = i by omega]
      exact p o
  · rintro H ⟨e, xs, hx, hl, hp⟩
    refine hd xs H e hx hl ?_
    intro i v hv
    have := hp i v hv (.lst xs)
    rw [upd_self hx] at this
    exact this
/-- each element a value that is known -/
theorem lc_map (w : Walk J n G Y) (f : Nat → V) (hy : YGrow Y) (hn : n ≤ 100000) (hD : H1 D = none) (hG : ∀ H, Same H1 H → G H)
    (hs : ∀ i x H H', i < n → Same H1 H → Y i H x H' → ∀ R : V → Hp → Prop, (∀ H2, Same H' H2 → R (f i) H2) → g x (wipe σ vs) H' fun σ2 H2 => wipe σ2 vs = wipe σ vs ∧ te σ2 H2 R)
    (hd : ∀ H, Same H1 H → H D = some (.lst ((List.range n).map f)) → Qd H) :
    ∃ W : Nat → Nat → Hp → Prop, (∃ m, W 0 m (upd H1 D (.lst []))) ∧ ∀ i m H, W i m H →
      (J.stop i H ∧ Qd H) ∨ (J.go i H ∧ ∃ Nx : Hp → Prop, (∀ H', Nx H' → ∃ m', m' < m ∧ W (i + 1) m' H') ∧ ∀ x H', J.yld i H x H' → g x (wipe σ vs) H' fun σ2 H2 => wipe σ2 vs = wipe σ vs ∧ tYes σ2 H2 fun b H3 =>
        if b = true then te σ2 H3 fun y H4 => ∃ acc, H4 D = some (.lst acc) ∧ acc.length < sizeLine ∧ Nx (upd H4 D (.lst (acc ++ [y]))) else Nx H3) := by
  refine lc_some w (fun i v _ => v = f i) hy hn hD (fun _ _ _ _ _ h => h) hG ?_ ?_
  · intro i x H H' hi e _ y R h
    exact hs i x H H' hi e y R fun H2 e2 => h _ H2 e2 fun _ => rfl
  · intro xs H e hx hl hp
    have ex : xs = (List.range n).map f := by
      refine List.ext_getElem? fun i => ?_
      by_cases q : i < n
      · rw [List.getElem?_map, List.getElem?_range q, List.getElem?_eq_getElem (by omega)]
        exact congrArg some (hp i _ (List.getElem?_eq_getElem (by omega)))
      · rw [List.getElem?_eq_none (by omega), List.getElem?_eq_none (by simp; omega)]
    rw [ex] at hx
    exact hd H e hx
/-- the same with a test -/
theorem lc_filt (w : Walk J n G Y) (b : Nat → Bool) (f : Nat → V) (hy : YGrow Y) (hn : n ≤ 100000) (hD : H1 D = none) (hG : ∀ H, Same H1 H → G H)
    (hs : ∀ i x H H', i < n → Same H1 H → Y i H x H' → ∀ (F : Hp → Prop) (R : V → Hp → Prop), (∀ H2, Same H' H2 → b i = true → R (f i) H2) → (∀ H2, Same H' H2 → b i = false → F H2) →
      g x (wipe σ vs) H' fun σ2 H2 => wipe σ2 vs = wipe σ vs ∧ tt σ2 H2 fun c H3 => if c = true then te σ2 H3 R else F H3)
    (hd : ∀ H, Same H1 H → H D = some (.lst (((List.range n).filter b).map f)) → Qd H) :
    ∃ W : Nat → Nat → Hp → Prop, (∃ m, W 0 m (upd H1 D (.lst []))) ∧ ∀ i m H, W i m H →
      (J.stop i H ∧ Qd H) ∨ (J.go i H ∧ ∃ Nx : Hp → Prop, (∀ H', Nx H' → ∃ m', m' < m ∧ W (i + 1) m' H') ∧ ∀ x H', J.yld i H x H' → g x (wipe σ vs) H' fun σ2 H2 => wipe σ2 vs = wipe σ vs ∧ tt σ2 H2 fun b H3 =>
        if b = true then te σ2 H3 fun y H4 => ∃ acc, H4 D = some (.lst acc) ∧ acc.length < sizeLine ∧ Nx (upd H4 D (.lst (acc ++ [y]))) else Nx H3) := by
  refine lc_it w (fun i H => Same H1 H ∧ H D = some (.lst (((List.range i).filter b).map f))) ?_ ?_ ?_ ?_
  · exact ⟨grow hD, upd_same⟩
  · rintro i H _ ⟨e, _⟩
    exact hG H e
  · rintro i x H H' hi ⟨e, hx⟩ y
    have e2 := hy _ _ _ _ y
    have len : (((List.range i).filter b).map f).length ≤ 100000 := by
      rw [List.length_map]
      refine Nat.le_trans (List.length_filter_le _ _) ?_
      rw [List.length_range]
      omega
    refine hs i x H H' hi e y (fun H3 => Same H1 H3 ∧ H3 D = some (.lst (((List.range (i + 1)).filter b).map f))) _ ?_ ?_
    · intro H4 e4 hb
      refine ⟨_, (e2.trans e4) _ _ hx, size5 len, same_mut (e.trans (e2.trans e4)) hD, ?_⟩
      rw [upd_same, List.range_succ, List.filter_append, List.map_append, List.filter_cons_of_pos hb]
      rfl
    · intro H4 e4 hb
      refine ⟨e.trans (e2.trans e4), ?_⟩
      rw [(e2.trans e4) _ _ hx, List.range_succ, List.filter_append, List.map_append, List.filter_cons_of_neg (by rw [hb]; exact Bool.false_ne_true)]
      rw [List.filter_nil, List.map_nil, List.append_nil]
  · rintro H ⟨e, hx⟩
    exact hd H e hx
end
theorem small_log {n : Int} (h0 : 0 ≤ n) (h : n ≤ 1000000000000) : n.natAbs.log2 < 9000 :=
  Nat.lt_of_lt_of_le (PySem.Flt.log2_lt_of (show 0 < 50 by decide) (by omega)) (by decide)
/-- a value of any kind: a text, or none -/
theorem AnyV.strOr {K : PySem.W.Frag} {H : Hp} {v : V} (h : AnyV K H v) : (∃ z : Str, v = .str z ∧ z.length ≤ 100000) ∨ ((∀ z, v ≠ .str z) ∧ ∃ t, TyX K H v (.type t) ∧ kitB t "str" = some false) := by
  rcases h with h | ⟨b, h⟩ | ⟨i, h⟩ | ⟨z, h, l⟩ | ⟨a, xs, h, g⟩ | ⟨a, xs, h, g⟩ | ⟨a, xs, h, g⟩
  all_goals subst h
  · exact .inr ⟨(fun _ e => nomatch e), _, .base .non, by decide +kernel⟩
  · exact .inr ⟨(fun _ e => nomatch e), _, .base (.bl b), by decide +kernel⟩
  · exact .inr ⟨(fun _ e => nomatch e), _, .base (.int i), by decide +kernel⟩
  · exact .inl ⟨z, rfl, l⟩
  · exact .inr ⟨(fun _ e => nomatch e), _, .base (.lst g), by decide +kernel⟩
  · exact .inr ⟨(fun _ e => nomatch e), _, .base (.tup g), by decide +kernel⟩
  · exact .inr ⟨(fun _ e => nomatch e), _, .base (.dK g), by decide +kernel⟩
theorem AnyV.intOr {K : PySem.W.Frag} {H : Hp} {v : V} (h : AnyV K H v) : (∃ i, v = .int i) ∨ (∃ b, v = .bl b) ∨ ((∀ z, v ≠ .int z) ∧ ∃ t, TyX K H v (.type t) ∧ kitB t "int" = some false) := by
  rcases h with h | ⟨b, h⟩ | ⟨i, h⟩ | ⟨z, h, l⟩ | ⟨a, xs, h, g⟩ | ⟨a, xs, h, g⟩ | ⟨a, xs, h, g⟩
  all_goals subst h
  · exact .inr (.inr ⟨(fun _ e => nomatch e), _, .base .non, by decide +kernel⟩)
  · exact .inr (.inl ⟨b, rfl⟩)
  · exact .inl ⟨i, rfl⟩
  · exact .inr (.inr ⟨(fun _ e => nomatch e), _, .base (.str z), by decide +kernel⟩)
  · exact .inr (.inr ⟨(fun _ e => nomatch e), _, .base (.lst g), by decide +kernel⟩)
  · exact .inr (.inr ⟨(fun _ e => nomatch e), _, .base (.tup g), by decide +kernel⟩)
  · exact .inr (.inr ⟨(fun _ e => nomatch e), _, .base (.dK g), by decide +kernel⟩)
theorem map_range_get {α β : Type} (d : α) (f : α → β) : ∀ l : List α, (List.range l.length).map (fun i => f (l.getD i d)) = l.map f
  | [] => rfl
  | a :: r => by
    rw [List.length_cons, List.range_succ_eq_map, List.map_cons, List.map_map, List.map_cons]
    exact congrArg (f a :: ·) (map_range_get d f r)
theorem str_len (z : Str) : z.cps.size = z.cps.toList.length := (Array.length_toList).symm
mutual
theorem dp_mono {K : PySem.W.Frag} {H H' : Hp} (e : Same H H') : ∀ (d : PyData) {v : V}, Dp K H v d → Dp K H' v d
  | .none, _, h => by cases h; exact .non
  | .bool _, _, h => by cases h; exact .bl _
  | .int _, _, h => by cases h; exact .int _
  | .str _, _, h => by cases h; exact .str _
  | .list ds, _, h => by
    cases h with
    | lst s a => exact .lst (e.seq s) (dpAll_mono e ds a)
  | .tuple ds, _, h => by
    cases h with
    | tup s a => exact .tup (same_tup e s) (dpAll_mono e ds a)
  | .dict _, _, h => by cases h
theorem dpAll_mono {K : PySem.W.Frag} {H H' : Hp} (e : Same H H') : ∀ (ds : List PyData) {vs : List V}, DpAll K H vs ds → DpAll K H' vs ds
  | [], _, h => by cases h; exact .nil
  | d :: ds, _, h => by
    cases h with
    | cons a b => exact .cons (dp_mono e d a) (dpAll_mono e ds b)
end
theorem dpAll_map {K : PySem.W.Frag} {H : Hp} {α : Type} {f : α → V} {g : α → PyData} : ∀ {l : List α}, (∀ x ∈ l, Dp K H (f x) (g x)) → DpAll K H (l.map f) (l.map g)
  | [], _ => .nil
  | x :: r, h => .cons (h x (List.mem_cons_self ..)) (dpAll_map fun y hy => h y (List.mem_cons_of_mem _ hy))
theorem dpAll_len {K : PySem.W.Frag} {H : Hp} : ∀ {vs : List V} {ds : List PyData}, DpAll K H vs ds → vs.length = ds.length
  | _, _, .nil => rfl
  | _, _, .cons _ b => congrArg Nat.succ (dpAll_len b)
theorem dpAll_get {K : PySem.W.Frag} {H : Hp} : ∀ {vs : List V} {ds : List PyData} {i : Nat} {v : V}, DpAll K H vs ds → vs[i]? = some v → ∃ d, ds[i]? = some d ∧ Dp K H v d
  | _, _, _, _, .nil, h => by cases h
  | _, _, 0, _, .cons (d := d) a _, h => by
    cases h
    exact ⟨d, rfl, a⟩
  | _, _, i + 1, v, .cons _ b, h => dpAll_get (i := i) b h
/-- the type's name -/
def dName : PyData → String
  | .none => "NoneType"
  | .bool _ => "bool"
  | .int _ => "int"
  | .str _ => "str"
  | .list _ => "list"
  | .tuple _ => "tuple"
  | .dict _ => "dict"
theorem sql_ty {K : PySem.W.Frag} {H : Hp} {a : Addr} {xs : List V} (h : SqL K H a xs) : TyX K H (.ref a) (.type "list") := by
  rcases h with (h | ⟨o, h⟩) | ⟨o, its, n, h, c, _⟩
  · exact .base (.lst h)
  · exact .base (.frz h)
  · exact .kList h c
theorem sqt_ty {K : PySem.W.Frag} {H : Hp} {a : Addr} {xs : List V} (h : SqT K H a xs) : TyX K H (.ref a) (.type "tuple") := by
  rcases h with (h | ⟨o, h⟩) | ⟨o, its, n, h, c, _⟩
  · exact .base (.tup h)
  · exact .fTuple h
  · exact .kTuple h c
theorem dp_ty {K : PySem.W.Frag} {H : Hp} {v : V} {d : PyData} (h : Dp K H v d) : TyX K H v (.type (dName d)) := by
  cases h with
  | non => exact .base .non
  | bl b => exact .base (.bl b)
  | int i => exact .base (.int i)
  | str x => exact .base (.str x)
  | lst s _ => exact sql_ty s
  | tup s _ => exact sqt_ty s
theorem ty_mono {K : PySem.W.Frag} {H H' : Hp} {v : V} {d : PyData} (h : Dp K H v d) (e : Same H H') : TyX K H' v (.type (dName d)) := dp_ty (dp_mono e d h)
/-- data of less than n levels, no list longer than 100000 -/
def Lk : Nat → PyData → Prop
  | 0, _ => False
  | n + 1, .list ds => ds.length ≤ 100000 ∧ ∀ d ∈ ds, Lk n d
  | n + 1, .tuple ds => ds.length ≤ 100000 ∧ ∀ d ∈ ds, Lk n d
  | _ + 1, .dict _ => False
  | _ + 1, _ => True
theorem walk_zipT {K : PySem.W.Frag} {a b : Addr} {xs ys : List V} {n : Nat} (hn : n = min xs.length ys.length) :
    Walk (RZ.ItzT K a b) n (fun H => SqT K H a xs ∧ SqT K H b ys) (YPair (fun i => xs[i]?) (fun i => ys[i]?)) := by
  subst hn
  constructor
  · rintro i H hi ⟨p, q⟩
    have h1 : i < xs.length := by omega
    have h2 : i < ys.length := by omega
    exact ⟨xs, ys, xs[i], ys[i], p, q, List.getElem?_eq_getElem h1, List.getElem?_eq_getElem h2⟩
  · rintro H ⟨p, q⟩
    exact ⟨xs, ys, p, q, by omega⟩
  · rintro i H v H' _ ⟨p, q⟩ ⟨T, x, z, h1, h2, h3, h4, h5⟩
    exact ⟨T, x, z, h1, h2, h3, h4 xs p, h5 ys q⟩
theorem lk_item {n : Nat} {ds : List PyData} {i : Nat} {d : PyData} (h : ∀ d ∈ ds, Lk n d) (e : ds[i]? = some d) : Lk n d := h d (List.mem_of_getElem? e)
theorem all_true (n : Nat) : ((List.range n).map fun _ => true).all id = true := by
  rw [List.all_eq_true]
  intro b h
  obtain ⟨_, _, rfl⟩ := List.mem_map.mp h
  rfl
end Fb
set_option Elab.async false
set_option linter.all false
set_option maxRecDepth 100000
set_option maxHeartbeats 4000000
namespace Fb
open PySem PySem.Spec L2
open PyProof.Rows hiding St
def letC (c : Nat) : Bool := decide (97 ≤ c) && decide (c ≤ 122)
def nameB : V → Bool
  | .str z => decide (1 ≤ z.length) && decide (z.length ≤ 8) && z.cps.toList.all letC
  | _ => false
theorem nameB_no {v : V} (h : ∀ z, v ≠ .str z) : nameB v = false := by
  cases v with
  | str z => exact absurd rfl (h z)
  | _ => rfl
theorem lt1 (a b : Nat) : decide ((#[a] : Array Nat).toList < (#[b] : Array Nat).toList) = decide (a < b) := by
  refine decide_eq_decide.mpr ?_
  show ([a] : List Nat) < [b] ↔ a < b
  rw [List.cons_lt_cons_iff]
  constructor
  · rintro (h | ⟨_, h⟩)
    · exact h
    · exact absurd h (List.not_lt_nil _)
  · exact fun h => .inl h
def numB (v : V) (l : Int) (h : Option Int) : Bool := match v with
  | .int i => decide (l ≤ i) && (match h with | none => true | some m => decide (i ≤ m))
  | _ => false
theorem numB_no {v : V} {l : Int} {h : Option Int} (no : ∀ z, v ≠ .int z) : numB v l h = false := by
  cases v with
  | int z => exact absurd rfl (no z)
  | _ => rfl
def az : Str := "abcdefghijklmnopqrstuvwxyz"
theorem az_in (c : Nat) : decide (c ∈ az.cps.toList) = letC c := by
  have e : az.cps.toList = (List.range 26).map (· + 97) := by decide +kernel
  rw [e]
  unfold letC
  rw [← Bool.decide_and]
  refine decide_eq_decide.mpr ?_
  rw [List.mem_map]
  constructor
  · rintro ⟨k, hk, rfl⟩
    have := List.mem_range.mp hk
    omega
  · intro h
    exact ⟨c - 97, List.mem_range.mpr (by omega), by omega⟩
theorem eqv_list_nil (ds : List PyData) : PyData.eqv (.list ds) (.list []) = ds.isEmpty := by
  cases ds <;> rfl
theorem filt_none (l : List Nat) : ((List.range l.length).filter fun i => !letC (l.getD i 0)).isEmpty = l.all letC := by
  induction l with
  | nil => rfl
  | cons a r ih =>
    rw [List.length_cons, List.range_succ_eq_map, List.filter_cons, List.all_cons, List.filter_map]
    show (if (!letC a) = true then _ else _ : List Nat).isEmpty = _
    cases h : letC a with
    | true =>
      rw [if_neg (by decide), List.isEmpty_map, Bool.true_and]
      exact ih
    | false =>
      rw [if_pos (by decide), Bool.false_and]
      rfl
end Fb
set_option Elab.async false
set_option linter.all false
set_option maxRecDepth 100000
set_option maxHeartbeats 4000000
namespace PySem
open Sem (wp)
end PySem
namespace Fb
open PySem PySem.Spec L2
open PyProof.Rows hiding St
section
variable {X : Cx} {K : PySem.W.Frag} (e : X.K = K)
include e
end
end Fb
set_option Elab.async false
set_option linter.all false
set_option maxRecDepth 100000
set_option maxHeartbeats 4000000
namespace Fb
open PySem PySem.Spec L2
open PyProof.Rows hiding St
section
variable {P : Program} {w : World} {K : PySem.W.Frag} {mg : Str → Option Value} {base : Heap} {m qual : Str} {st : Stmt} {f : Addr} {fd : FuncData} {N : List Str} {k : Nat} {p1 p2 p3 : Str}
theorem fm2 {g : V → V → Hp → VK → Prop} (F : C8.Fun K m qual st f fd) (S : FnScope N [p1, p2] (C8.fnScope st))
    (body : ∀ (cdv : Value) (A : Around) (outer : List Env) (s : Shared) (H : Hp) (a b : V) (Q : VK) (E : XK), Room k (A.deeper (envOfC qual (C8.fnScope st) s.heap.objs.size f cdv)) → g a b H Q →
      ∃ t, PSs (cxOf C8.CX0 P w K mg base N qual (C8.fnScope st) f cdv A outer s H E).nox (C8.fnBody st) t ∧ t { nx := fun _ H' => Q .non H', rt := Q } (start N [a, b]) H) : FnOk P w K mg base C8.CX0 (k + 1) f fd [p1, p2] (sp2 g) := by
  refine C8.fn0 F S ?_ ?_
  · rintro vs H Q E ⟨a, b, rfl, _⟩
    rfl
  · rintro cdv A outer s H vs Q E hr ⟨a, b, rfl, h⟩
    exact body cdv A outer s H a b Q E hr h
theorem fm3 {g : V → V → V → Hp → VK → Prop} (F : C8.Fun K m qual st f fd) (S : FnScope N [p1, p2, p3] (C8.fnScope st))
    (body : ∀ (cdv : Value) (A : Around) (outer : List Env) (s : Shared) (H : Hp) (a b c : V) (Q : VK) (E : XK), Room k (A.deeper (envOfC qual (C8.fnScope st) s.heap.objs.size f cdv)) → g a b c H Q →
      ∃ t, PSs (cxOf C8.CX0 P w K mg base N qual (C8.fnScope st) f cdv A outer s H E).nox (C8.fnBody st) t ∧ t { nx := fun _ H' => Q .non H', rt := Q } (start N [a, b, c]) H) : FnOk P w K mg base C8.CX0 (k + 1) f fd [p1, p2, p3] (sp3 g) := by
  refine C8.fn0 F S ?_ ?_
  · rintro vs H Q E ⟨a, b, c, rfl, _⟩
    rfl
  · rintro cdv A outer s H vs Q E hr ⟨a, b, c, rfl, h⟩
    exact body cdv A outer s H a b c Q E hr h
end
/-- can it be entered at t -/
def openM (ws : Option (List (Int × Int))) (t : Int) : Bool := match ws with
  | none => true
  | some l => l.any fun p => decide (p.1 ≤ t) && decide (t < p.2)
/-- what is read at any time -/
def readM (f : List Int) (t : Int) : Int := f.getD (t % (f.length : Int)).toNat 0 + t / (f.length : Int) * f.length
def dW (l : List (Int × Int)) : List PyData := l.map fun p => .tuple [.int p.1, .int p.2]
def WinV (K : PySem.W.Frag) (H : Hp) (v : V) (ws : Option (List (Int × Int))) : Prop :=
  (ws = none ∧ v = .non) ∨ ∃ l, ws = some l ∧ l.length ≤ 1000 ∧ (Dp K H v (.list (dW l)) ∨ Dp K H v (.tuple (dW l)))
theorem WinV.mono {K : PySem.W.Frag} {H H' : Hp} {v : V} {ws : Option (List (Int × Int))} (h : WinV K H v ws) (e : Same H H') : WinV K H' v ws := by
  rcases h with h | ⟨l, h1, h2, h | h⟩
  · exact .inl h
  · exact .inr ⟨l, h1, h2, .inl (dp_mono e _ h)⟩
  · exact .inr ⟨l, h1, h2, .inr (dp_mono e _ h)⟩
/-- a tuple of ints -/
def TupI (K : PySem.W.Frag) (H : Hp) (v : V) (f : List Int) : Prop := ∃ a, v = .ref a ∧ SqT K H a (f.map V.int)
theorem TupI.mono {K : PySem.W.Frag} {H H' : Hp} {v : V} {f : List Int} (h : TupI K H v f) (e : Same H H') : TupI K H' v f := by
  obtain ⟨a, h1, h2⟩ := h
  exact ⟨a, h1, same_tup e h2⟩
theorem getD_of {α : Type} {l : List α} {i : Nat} {x d : α} (h : l[i]? = some x) : l.getD i d = x := by
  rw [List.getD_eq_getElem?_getD, h]
  rfl
def walkM (n : Int) (ws : Option (List (Int × Int))) : Int → Nat → Int
  | t, 0 => t
  | t, m + 1 => if openM ws (t % n) = true then t else walkM n ws (t + 1) m
/-- u is the next open time from t -/
structure PB (n : Nat) (ws : Option (List (Int × Int))) (t u : Int) : Prop where
  le : t ≤ u
  op : openM ws (u % n) = true
  no : ∀ s, t ≤ s → s < u → openM ws (s % n) = false
  hi : u ≤ t + n
theorem walk_pb {n : Nat} {ws : Option (List (Int × Int))} {u : Int} (hop : openM ws (u % n) = true) : ∀ (m : Nat) (t : Int), t ≤ u → (∀ s, t ≤ s → s < u → openM ws (s % n) = false) → u ≤ t + m → walkM n ws t m = u
  | 0, t, h1, _, h3 => by
    show t = u
    omega
  | m + 1, t, h1, h2, h3 => by
    show (if openM ws (t % n) = true then t else walkM n ws (t + 1) m) = u
    by_cases e : t = u
    · subst e
      rw [if_pos hop]
    · have h := h2 t (Int.le_refl _) (by omega)
      rw [if_neg (by rw [h]; exact Bool.false_ne_true)]
      exact walk_pb hop m (t + 1) (by omega) (fun s a b => h2 s (by omega) b) (by omega)
theorem PB.walk {n : Nat} {ws : Option (List (Int × Int))} {t u : Int} (p : PB n ws t u) : walkM n ws t n = u := walk_pb p.op n t p.le p.no p.hi
def optD : Option (List Int) → PyData
  | none => .none
  | some f => .tuple (f.map .int)
theorem TupI.dp {K : PySem.W.Frag} {H : Hp} {v : V} {f : List Int} (h : TupI K H v f) : Dp K H v (.tuple (f.map .int)) := by
  obtain ⟨a, rfl, s⟩ := h
  exact .tup s (dpAll_map fun x _ => .int x)
/-- windows as what is walked: a list or a tuple of pairs -/
theorem WinV.some {K : PySem.W.Frag} {H : Hp} {v : V} {l : List (Int × Int)} (h : WinV K H v (some l)) : l.length ≤ 1000 ∧ ∃ W xs, v = .ref W ∧ (SqL K H W xs ∨ SqT K H W xs) ∧ DpAll K H xs (dW l) ∧ l.length = xs.length := by
  rcases h with ⟨h, _⟩ | ⟨l', h1, h2, h3⟩
  · cases h
  · cases h1
    have len : ∀ xs, DpAll K H xs (dW l) → l.length = xs.length := fun xs hx => by
      have := dpAll_len hx
      unfold dW at this
      rw [List.length_map] at this
      exact this.symm
    rcases h3 with h | h
    · cases h with
      | lst s x => exact ⟨h2, _, _, rfl, .inl s, x, len _ x⟩
    · cases h with
      | tup s x => exact ⟨h2, _, _, rfl, .inr s, x, len _ x⟩
theorem WinV.none {K : PySem.W.Frag} {H : Hp} {v : V} (h : WinV K H v none) : v = .non := by
  rcases h with ⟨_, h⟩ | ⟨l', h1, _⟩
  · exact h
  · cases h1
/-- an object of the class Hours -/
def hfl (d : Int) (t : Addr) : List (Str × V) := putF "stay" (.ref t) (putF "day" (.int d) [])
def HoursAt (CH : Addr) (H : Hp) (p : Addr) (d : Nat) : Prop := ∃ dx t, H p = some (.ins CH dx (hfl d t)) ∧ H t = some (.tup (rgV 0 d))
theorem HoursAt.mono {CH : Addr} {H H' : Hp} {p : Addr} {d : Nat} (h : HoursAt CH H p d) (e : Same H H') : HoursAt CH H' p d := by
  obtain ⟨dx, t, a, b⟩ := h
  exact ⟨dx, t, e _ _ a, e _ _ b⟩
theorem hfl_no (d : Int) (t : Addr) {m : Str} (h1 : ¬ m = "stay") (h2 : ¬ m = "day") : (hfl d t).lookup m = none := by
  unfold hfl
  rw [lookup_putF, if_neg h1, lookup_putF, if_neg h2]
  rfl
theorem at0 {x : V} {xs : List V} : atI (x :: xs) 0 = some x := (show atI (x :: xs) ((0 : Nat) : Int) = some x from atI_nat rfl)
theorem at1 {x y : V} {xs : List V} : atI (x :: y :: xs) 1 = some y := (show atI (x :: y :: xs) ((1 : Nat) : Int) = some y from atI_nat rfl)
theorem sqt_upd {K : PySem.W.Frag} {H : Hp} {q U : Addr} {xs ys : List V} {o : HO} (hq : H q = some (.lst ys)) (h : SqT K H U xs) : SqT K (upd H q o) U xs := by
  rcases h with (h | ⟨o2, h⟩) | h
  · refine .inl (.inl ?_)
    rw [upd_ne fun e => by rw [e, hq] at h; cases h]
    exact h
  · refine .inl (.inr ⟨o2, ?_⟩)
    rw [upd_ne fun e => by rw [e, hq] at h; cases h]
    exact h
  · exact .inr h
theorem dpAll_snoc {K : PySem.W.Frag} {H : Hp} : ∀ {xs : List V} {ds : List PyData} {x : V} {d : PyData}, DpAll K H xs ds → Dp K H x d → DpAll K H (xs ++ [x]) (ds ++ [d])
  | _, _, _, _, .nil, h => .cons h .nil
  | _, _, _, _, .cons a b, h => .cons a (dpAll_snoc b h)
/-- what the law's own windows are: None or a new list of pairs -/
def WinL (K : PySem.W.Frag) (H : Hp) (v : V) (ws : Option (List (Int × Int))) : Prop :=
  (ws = none ∧ v = .non) ∨ ∃ l D xs, ws = some l ∧ l.length ≤ 1000 ∧ v = .ref D ∧ H D = some (.lst xs) ∧ DpAll K H xs (dW l)
theorem WinL.mono {K : PySem.W.Frag} {H H' : Hp} {v : V} {ws : Option (List (Int × Int))} (h : WinL K H v ws) (e : Same H H') : WinL K H' v ws := by
  rcases h with h | ⟨l, D, xs, h1, h2, h3, h4, h5⟩
  · exact .inl h
  · exact .inr ⟨l, D, xs, h1, h2, h3, e _ _ h4, dpAll_mono e _ h5⟩
def OkF (n : Nat) (f : List Int) : Prop := f.length = n ∧ ∀ i, i < n → 0 ≤ f.getD i 0 ∧ f.getD i 0 ≤ 2000
def FoundAt (K : PySem.W.Frag) (H : Hp) (q : Addr) (n m : Nat) : Prop := ∃ us : List V, H q = some (.lst us) ∧ 0 < us.length ∧ us.length ≤ m ∧ ∀ u ∈ us, ∃ f, TupI K H u f ∧ OkF n f
theorem FoundAt.mono {K : PySem.W.Frag} {H H' : Hp} {q : Addr} {n m m' : Nat} (h : FoundAt K H q n m) (e : Same H H') (hm : m ≤ m') : FoundAt K H' q n m' := by
  obtain ⟨us, h1, h2, h3, h4⟩ := h
  refine ⟨us, e _ _ h1, h2, by omega, fun u hu => ?_⟩
  obtain ⟨f, t, o⟩ := h4 u hu
  exact ⟨f, t.mono e, o⟩
theorem tupI_upd {K : PySem.W.Frag} {H : Hp} {q : Addr} {ys : List V} {o : HO} {v : V} {f : List Int} (hq : H q = some (.lst ys)) (h : TupI K H v f) : TupI K (upd H q o) v f := by
  obtain ⟨a, h1, h2⟩ := h
  exact ⟨a, h1, sqt_upd hq h2⟩
theorem optD_upd {K : PySem.W.Frag} {H : Hp} {q : Addr} {ys : List V} {o : HO} {v : V} {r : Option (List Int)} (hq : H q = some (.lst ys)) (h : Dp K H v (optD r)) : Dp K (upd H q o) v (optD r) := by
  cases r with
  | none =>
    cases h
    exact .non
  | some f =>
    cases h with
    | tup s x => exact .tup (sqt_upd hq s) (ints_free x)
where ints_free {K : PySem.W.Frag} {H H' : Hp} : ∀ {f : List Int} {xs : List V}, DpAll K H xs (f.map .int) → DpAll K H' xs (f.map .int)
  | [], _, h => by
    cases h
    exact .nil
  | z :: r, _, h => by
    cases h with
    | cons a b =>
      cases a
      exact .cons (.int _) (ints_free b)
theorem optD_tup {K : PySem.W.Frag} {H : Hp} {v : V} {f : List Int} (h : Dp K H v (optD (some f))) : TupI K H v f := by
  cases h with
  | tup s x =>
    refine ⟨_, rfl, ?_⟩
    rw [← ints_are x]
    exact s
where ints_are {K : PySem.W.Frag} {H : Hp} : ∀ {f : List Int} {xs : List V}, DpAll K H xs (f.map .int) → xs = f.map V.int
  | [], _, h => by
    cases h
    rfl
  | z :: r, _, h => by
    cases h with
    | cons a b =>
      cases a
      rw [ints_are b]
      rfl
end Fb
set_option Elab.async false
set_option linter.all false
set_option maxRecDepth 100000
set_option maxHeartbeats 4000000
namespace PySem.W
open PySem PyProof.Rows
section
variable {prog : Program} {w : World} {A : Around} {E : Value → Shared → Prop} {s : Shared}
theorem fb_collect {T : String} (hT : T = "list" ∨ T = "tuple") {l : Addr} {o : Obj} {vs : List Value} {n : Nat} {Q : List Value → Shared → Prop} (g : s.heap.get? l = some o) (c : o.cls = .type T) (d : o.data = .seq vs.toArray n)
    (q : Q vs { s with heap := (s.heap.push (seqObj "list" #[] 0)).update s.heap.objs.size (Obj.mapSeq (· ++ vs.toArray)) }) (z : vs.length ≤ sizeLine) :
    wpAny (model prog w) A (collect (.ref l)) Q E s := by
  unfold collect
  refine wpAny_bind (wpAny_runValue (codeAny_builtin entry_proto_collect' ?_))
  show wpAny _ _ (newList [] >>= fun l1 => again (.builtin "list.__iadd__" ⟨[l1, .ref l], []⟩)) _ _ s
  refine wpAny_bind (wpAny_newList ?_)
  refine wpAny_pure ⟨Code.quiet_builtin _ (by decide +kernel), codeAny_builtin entry_list_iadd' ?_⟩
  show wpAny _ _ (Builtin.List.listExtendWith (.ref s.heap.objs.size) (.ref l) (.ref s.heap.objs.size)) _ _ { heap := s.heap.push (seqObj "list" #[] 0), gens := s.gens, drawn := s.drawn, toks := s.toks, os := s.os }
  unfold Builtin.List.listExtendWith
  have g' : (s.heap.push (seqObj "list" #[] 0)).get? l = some o := Heap.get?_push_of_some _ g
  refine wpAny_bind (wpAny_typeOf (T := T) ⟨o, g', c⟩ ?_)
  have ht : (Value.type T == Value.type "list" || Value.type T == Value.type "tuple") = true := by
    rcases hT with rfl | rfl <;> rfl
  rw [if_pos (by rcases hT with rfl | rfl <;> simp)]
  refine wpAny_bind (listItems_at g' d ?_)
  refine wpAny_bind (listItems_at (n := 0) (xs := #[]) (Heap.get?_push_size _ rfl) rfl ?_)
  rw [if_neg (show ¬ _ by simp)]
  have room : (#[] ++ vs.toArray).size ≤ sizeLine + 1 := by
    rw [Array.size_append, List.size_toArray]
    show 0 + vs.length ≤ _
    omega
  refine wpAny_bind (listUpdate_at (n := 0) (xs := #[]) (Heap.get?_push_size _ rfl) rfl ?_ (Nat.zero_le _) room)
  refine wpAny_pure ?_
  show wpAny (model prog w) A (load s.heap.objs.size >>= _) Q E { s with heap := (s.heap.push (seqObj "list" #[] 0)).update s.heap.objs.size (Obj.mapSeq (· ++ vs.toArray)) }
  refine wpAny_bind (wpAny_load (get?_update_seq (Heap.get?_push_size _ rfl) _) ?_)
  show wpAny _ _ (pure (#[] ++ vs.toArray : Array Value).toList) Q E _
  have e : (#[] ++ vs.toArray : Array Value).toList = vs := by simp
  rw [e]
  exact wpAny_pure q
theorem fb_sort {T : String} (hT : T = "list" ∨ T = "tuple") {l : Addr} {o : Obj} {vs : List Value} {n : Nat} {Q : Value → Shared → Prop} (g : s.heap.get? l = some o) (c : o.cls = .type T) (d : o.data = .seq vs.toArray n) (z : vs.length ≤ sizeLine)
    (body : ∀ E' : Value → Shared → Prop, wpAny (model prog w) A.in1.in1 (Builtin.«list.sort» ⟨[.ref (s.heap.objs.size + 1)], []⟩) (fun f s' => f = .done (.ret .none) ∧ Q (.ref (s.heap.objs.size + 1)) s') E' { s with heap := copyHeap s.heap vs }) :
    wpAny (model prog w) A (call (.builtin "sorted") [.ref l]) Q E s := by
  refine call_function_entry_kw kind_sorted plain_sorted entry_sorted (args_sorted1 _) ?_
  unfold Builtin.«sorted»
  refine wpAny_bind (m := checkCount "sorted" 1 1 _) (wpAny_pure ?_)
  refine wpAny_bind (fb_collect hT g c d ?_ z)
  refine wpAny_bind (wpAny_newList ?_ z)
  have sz : ((s.heap.push (seqObj "list" #[] 0)).update s.heap.objs.size (Obj.mapSeq (· ++ vs.toArray))).objs.size = s.heap.objs.size + 1 := (Heap.size_update ..).trans (size_push' ..)
  show wpAny _ _ _ _ _ { heap := copyHeap s.heap vs, gens := s.gens, drawn := s.drawn, toks := s.toks, os := s.os }
  rw [sz]
  refine wpAny_bind (wpAny_holding (wpAny_call_entry_kw slot_list_sort ⟨_, copyHeap_at s.heap vs, rfl⟩ entry_list_sort ?_ (args_list_sort _)))
  refine wpAny_mono (body _) ?_ fun _ _ e => e
  rintro f s' ⟨rfl, hq⟩
  exact ⟨_, rfl, wpAny_pure ⟨_, rfl, hq⟩⟩
theorem fb_sorted {β : Type} {R : Value → β → Prop} {enc : β → PyData} {bs : List β} {T : String} (hT : T = "list" ∨ T = "tuple") {l : Addr} {o : Obj} {vs : List Value} {n : Nat} {Q : Value → Shared → Prop} (g : s.heap.get? l = some o) (c : o.cls = .type T) (d : o.data = .seq vs.toArray n)
    (e : EachIs R vs bs) (er : EachIs (fun v b => ∃ as, Reads s.heap v (enc b) as) vs bs) (al : AllAlike (bs.map enc)) (so : Sortable (bs.map enc)) (z : bs.length ≤ sizeLine) (hu : ∀ b, b ∈ bs → A.units + 2 + (enc b).depth < cLine)
    (h : ∀ out, out.length = bs.length → EachIs R out (bs.mergeSort (dataLe false enc)) → Q (.ref (s.heap.objs.size + 1)) { s with heap := sortedAll s.heap vs (List.toArray out) }) :
    wpAny (model prog w) A (call (.builtin "sorted") [.ref l]) Q E s := by
  have er2 : EachIs (fun v b => ∃ as, Reads (sortingHeap (copyHeap s.heap vs) (s.heap.objs.size + 1) vs) v (enc b) as) vs bs := by
    refine er.mono ?_
    rintro v b ⟨as, r⟩
    exact ⟨as, PyProof.Rows.Reads.keeps (fun _ _ => sorting_copy_old) r⟩
  have zl : vs.length ≤ sizeLine := by
    rw [e.length]
    exact z
  refine fb_sort hT g c d zl fun E' => ?_
  refine list_sort_vals (s := { s with heap := copyHeap s.heap vs }) (copyHeap_at s.heap vs) (SortsAt.data (s := { s with heap := sortingHeap (copyHeap s.heap vs) (s.heap.objs.size + 1) vs }) (each_map (R := fun v d => ∃ as, Reads (sortingHeap (copyHeap s.heap vs) (s.heap.objs.size + 1) vs) v d as) enc er2) al so (bound_map hu)) zl ⟨rfl, ?_⟩
  refine h _ ?_ (sortVals_data false e er2 al)
  rw [sortVals_length false rfl]
  exact e.length
end
end PySem.W
namespace Fb
open PySem PySem.Spec L2
open PyProof.Rows hiding St
/-- values and what they read as, sorted -/
abbrev sortD (zs : List (V × PyData)) : List (V × PyData) := zs.mergeSort (PySem.W.dataLe false Prod.snd)
def rSortD (K : PySem.W.Frag) : List V → Hp → VK → Prop := fun vs H Q => ∃ (a : Addr) (zs : List (V × PyData)), vs = [.ref a] ∧ (SqL K H a (zs.map Prod.fst) ∨ SqT K H a (zs.map Prod.fst)) ∧ (∀ z ∈ zs, Dp K H z.1 z.2 ∧ z.2.depth ≤ 60) ∧
  PySem.W.AllAlike (zs.map Prod.snd) ∧ PySem.W.Sortable (zs.map Prod.snd) ∧ ∀ p, H p = none → Q (.ref p) (upd H p (.lst ((sortD zs).map Prod.fst)))
theorem each_vals : ∀ {zs : List (V × PyData)} {us : List Value}, Vals (zs.map Prod.fst) us → PySem.W.EachIs (fun u (z : V × PyData) => RelV z.1 u) us zs
  | [], _, h => by
    cases h
    exact .nil
  | z :: r, _, h => by
    cases h with
    | cons a b => exact .cons a (each_vals b)
theorem vals_each : ∀ {zs : List (V × PyData)} {us : List Value}, PySem.W.EachIs (fun u (z : V × PyData) => RelV z.1 u) us zs → Vals (zs.map Prod.fst) us
  | _, _, .nil => .nil
  | _, _, .cons a b => .cons a (vals_each b)
theorem each_reads {X : Cx} {pins : List (Addr × Obj)} {σ : L2.St} {H : Hp} {s : Shared} (I : Inv X pins σ H s) : ∀ {zs : List (V × PyData)} {us : List Value}, Vals (zs.map Prod.fst) us → (∀ z ∈ zs, Dp X.K H z.1 z.2) → PySem.W.EachIs (fun u (z : V × PyData) => ∃ as, Reads s.heap u z.2 as) us zs
  | [], _, h, _ => by
    cases h
    exact .nil
  | z :: r, _, h, hd => by
    cases h with
    | cons a b => exact .cons (Dp.reads I z.2 z.1 _ (hd z (List.mem_cons_self ..)) a) (each_reads I b fun x hx => hd x (List.mem_cons_of_mem _ hx))
theorem cr_sortD {X : Cx} {k : Nat} (hr : Room k X.A) : CallR X (.builtin "sorted") (rSortD X.K) := by
  rintro pins s σ H vs us Q I r ⟨a, zs, rfl, hs, hd, al, so, q⟩
  have hu := hr.units
  rw [Vals.ref1 r]
  have fin : ∀ {T : String} (hT : T = "list" ∨ T = "tuple") {o : Obj} {its : List Value} {n : Nat}, s.heap.get? a = some o → o.cls = .type T → o.data = .seq its.toArray n → Vals (zs.map Prod.fst) its → (zs.map Prod.fst).length ≤ sizeLine →
      wpAny (model X.prog X.w) X.A (call (.builtin "sorted") [.ref a]) (EP X pins σ Q) X.xe s := by
    intro T hT o its n g c d rv hz
    rw [List.length_map] at hz
    refine PySem.W.fb_sorted hT g c d (each_vals rv) (each_reads I rv fun z m => (hd z m).1) al so hz (fun z m => ?_) fun out lo eo => ?_
    · have := (hd z m).2
      omega
    · obtain ⟨ep, he⟩ := PyProof.Rows.sortedAll_at s.heap its out.toArray
      have len : ((sortD zs).map Prod.fst).length ≤ sizeLine := by
        rw [List.length_map, List.length_mergeSort]
        exact hz
      exact ⟨.ref _, upd H (s.heap.objs.size + 1) (.lst ((sortD zs).map Prod.fst)), I.laid (t' := s.toks) (fun _ _ => PyProof.Rows.sortedAll_old) (Nat.le_succ _) ⟨len, out, ep, vals_each eo, he⟩, rfl, q _ (I.hok.fresh (Nat.le_succ _))⟩
  rcases hs with hs | hs
  · obtain ⟨its, rv, hl, hz⟩ := I.list hs
    obtain ⟨o, g, c, n, d⟩ := hl.isList
    exact fin (.inl rfl) g c d rv hz
  · obtain ⟨its, rv, hl, hz⟩ := I.tuple hs
    obtain ⟨o, g, c, n, d⟩ := hl
    exact fin (.inr rfl) g c d rv hz
end Fb
set_option Elab.async false
set_option linter.all false
set_option maxRecDepth 100000
set_option maxHeartbeats 4000000
namespace Fb
abbrev Ln := Int × Int
/-- read at the setting n / d, times d -/
def vA (l : Ln) (n d : Int) : Int := l.1 * d + l.2 * n
def nevM (x y z : Ln) : Bool := decide ((z.1 - y.1) * (x.2 - y.2) ≤ (y.1 - x.1) * (y.2 - z.2))
def blwM (l o : Ln) (s : Int) : Bool := decide (l.1 + l.2 * s < o.1 + o.2 * s)
/-- x stands before y: a rises, b falls -/
def Bf (x y : Ln) : Prop := x.1 < y.1 ∧ y.2 < x.2
theorem Bf.trans {x y z : Ln} (h : Bf x y) (k : Bf y z) : Bf x z := ⟨Int.lt_trans h.1 k.1, Int.lt_trans k.2 h.2⟩
def popM (l : Ln) : List Ln → List Ln
  | y :: x :: r => if nevM x y l = true then popM l (x :: r) else y :: x :: r
  | r => r
def addM (top : Int) (l : Ln) (R : List Ln) : List Ln := match popM l R with
  | [] => [l]
  | y :: r => if blwM l y top = true then l :: y :: r else y :: r
def lowM (top : Int) (rows : List Ln) : List Ln := (rows.foldl (fun R l => addM top l R) []).reverse
/-- what is kept, the last one first -/
def Good (top : Int) : List Ln → Prop
  | y :: x :: r => Bf x y ∧ blwM y x top = true ∧ (∀ w r', r = w :: r' → nevM w x y = false) ∧ Good top (x :: r)
  | _ => True
theorem Good.tail {top : Int} {y : Ln} : ∀ {r : List Ln}, Good top (y :: r) → Good top r
  | [], _ => trivial
  | _ :: _, h => h.2.2.2
theorem pop_sub {l : Ln} : ∀ {R : List Ln}, ∀ q ∈ popM l R, q ∈ R
  | [], q, h => h
  | [_], q, h => h
  | y :: x :: r, q, h => by
    unfold popM at h
    by_cases e : nevM x y l = true
    · rw [if_pos e] at h
      exact List.mem_cons_of_mem _ (pop_sub q h)
    · rw [if_neg e] at h
      exact h
theorem pop_good {top : Int} {l : Ln} : ∀ {R : List Ln}, Good top R → Good top (popM l R)
  | [], h => h
  | [_], h => h
  | y :: x :: r, h => by
    unfold popM
    by_cases e : nevM x y l = true
    · rw [if_pos e]
      exact pop_good h.tail
    · rw [if_neg e]
      exact h
theorem pop_top {l y x : Ln} {r : List Ln} : ∀ {R : List Ln}, popM l R = y :: x :: r → nevM x y l = false
  | [], h => by cases h
  | [_], h => by cases h
  | b :: a :: s, h => by
    unfold popM at h
    by_cases e : nevM a b l = true
    · rw [if_pos e] at h
      exact pop_top h
    · rw [if_neg e] at h
      cases h
      cases q : nevM x y l with
      | false => rfl
      | true => exact absurd q e
/-- a line that is nowhere alone least: one of its neighbours is no greater -/
theorem nev_cover {x y z : Ln} {n d : Int} (h : nevM x y z = true) (xy : Bf x y) (yz : Bf y z) (hd : 0 < d) : vA x n d ≤ vA y n d ∨ vA z n d ≤ vA y n d := by
  have h := of_decide_eq_true h
  obtain ⟨a1, b1⟩ := xy
  obtain ⟨a2, b2⟩ := yz
  by_cases c : vA x n d ≤ vA y n d
  · exact .inl c
  · refine .inr ?_
    by_cases e : vA z n d ≤ vA y n d
    · exact e
    · exfalso
      unfold vA at c e
      have c1 : 0 < (x.2 - y.2) * n - (y.1 - x.1) * d := by grind
      have e1 : 0 < (z.1 - y.1) * d - (y.2 - z.2) * n := by grind
      have m1 := Int.mul_pos c1 (show 0 < y.2 - z.2 by omega)
      have m2 := Int.mul_pos e1 (show 0 < x.2 - y.2 by omega)
      have m3 := Int.mul_le_mul_of_nonneg_right h (Int.le_of_lt hd)
      grind
theorem pop_cover {l : Ln} {n d : Int} (hd : 0 < d) {top : Int} : ∀ {R : List Ln}, Good top R → (∀ y ∈ R, Bf y l) → ∀ q ∈ R, ∃ t, (t = l ∨ t ∈ popM l R) ∧ vA t n d ≤ vA q n d
  | [], _, _, q, h => by cases h
  | [_], _, _, q, h => ⟨q, .inr h, Int.le_refl _⟩
  | y :: x :: r, g, hb, q, h => by
    unfold popM
    by_cases e : nevM x y l = true
    · rw [if_pos e]
      have ih := pop_cover (l := l) (n := n) hd g.tail (fun z hz => hb z (List.mem_cons_of_mem _ hz))
      rcases List.mem_cons.mp h with rfl | h
      · rcases nev_cover (n := n) e g.1 (hb _ (List.mem_cons_self ..)) hd with c | c
        · obtain ⟨t, ht, le⟩ := ih x (List.mem_cons_self ..)
          exact ⟨t, ht, Int.le_trans le c⟩
        · exact ⟨l, .inl rfl, c⟩
      · exact ih q h
    · rw [if_neg e]
      exact ⟨q, .inr h, Int.le_refl _⟩
theorem not_below {l y : Ln} {top n d : Int} (h : blwM l y top = false) (b : Bf y l) (hd : 0 < d) (h2 : n ≤ top * d) : vA y n d ≤ vA l n d := by
  have h : ¬ l.1 + l.2 * top < y.1 + y.2 * top := of_decide_eq_false h
  obtain ⟨a1, b1⟩ := b
  unfold vA
  have m1 := Int.mul_le_mul_of_nonneg_right (show y.1 + y.2 * top ≤ l.1 + l.2 * top by omega) (Int.le_of_lt hd)
  have m2 := Int.mul_le_mul_of_nonneg_left h2 (show 0 ≤ y.2 - l.2 by omega)
  grind
theorem add_sub {top : Int} {l : Ln} {R : List Ln} : ∀ q ∈ addM top l R, q = l ∨ q ∈ R := by
  intro q h
  unfold addM at h
  cases e : popM l R with
  | nil =>
    rw [e] at h
    exact .inl (List.mem_singleton.mp h)
  | cons y r =>
    rw [e] at h
    have s := fun x hx => pop_sub (l := l) (R := R) x (by rw [e]; exact hx)
    by_cases b : blwM l y top = true
    · have h : q ∈ (if blwM l y top = true then l :: y :: r else y :: r) := h
      rw [if_pos b] at h
      rcases List.mem_cons.mp h with h | h
      · exact .inl h
      · exact .inr (s q h)
    · have h : q ∈ (if blwM l y top = true then l :: y :: r else y :: r) := h
      rw [if_neg b] at h
      exact .inr (s q h)
theorem add_good {top : Int} {l : Ln} {R : List Ln} (g : Good top R) (hb : ∀ y ∈ R, Bf y l) : Good top (addM top l R) := by
  unfold addM
  have pg := pop_good (l := l) g
  cases e : popM l R with
  | nil => exact trivial
  | cons y r =>
    rw [e] at pg
    show Good top (if blwM l y top = true then l :: y :: r else y :: r)
    by_cases b : blwM l y top = true
    · rw [if_pos b]
      refine ⟨hb y (pop_sub y (by rw [e]; exact List.mem_cons_self ..)), b, ?_, pg⟩
      rintro w r' rfl
      exact pop_top e
    · rw [if_neg b]
      exact pg
theorem add_cover {top : Int} {l : Ln} {R : List Ln} {n d : Int} (g : Good top R) (hb : ∀ y ∈ R, Bf y l) (hd : 0 < d) (h2 : n ≤ top * d) : ∀ q, (q = l ∨ q ∈ R) → ∃ t ∈ addM top l R, vA t n d ≤ vA q n d := by
  have lc : ∃ t ∈ addM top l R, vA t n d ≤ vA l n d := by
    unfold addM
    cases e : popM l R with
    | nil => exact ⟨l, List.mem_singleton.mpr rfl, Int.le_refl _⟩
    | cons y r =>
      show ∃ t ∈ (if blwM l y top = true then l :: y :: r else y :: r), _
      cases b : blwM l y top with
      | true => exact ⟨l, List.mem_cons_self .., Int.le_refl _⟩
      | false => exact ⟨y, List.mem_cons_self .., not_below b (hb y (pop_sub y (by rw [e]; exact List.mem_cons_self ..))) hd h2⟩
  have pc : ∀ q ∈ popM l R, q ∈ addM top l R := by
    intro q h
    unfold addM
    cases e : popM l R with
    | nil =>
      rw [e] at h
      cases h
    | cons y r =>
      rw [e] at h
      show q ∈ (if blwM l y top = true then l :: y :: r else y :: r)
      cases b : blwM l y top with
      | true => exact List.mem_cons_of_mem _ h
      | false => exact h
  rintro q (rfl | h)
  · exact lc
  · obtain ⟨t, ht, le⟩ := pop_cover (l := l) (n := n) hd g hb q h
    rcases ht with rfl | ht
    · obtain ⟨u, hu, le2⟩ := lc
      exact ⟨u, hu, Int.le_trans le2 le⟩
    · exact ⟨t, pc t ht, le⟩
/-- rows in their order: a rises, b falls -/
def Rows (rows : List Ln) : Prop := rows.Pairwise Bf
theorem fold_ok {top : Int} : ∀ (rows R done : List Ln), Rows rows → (∀ y ∈ done, ∀ l ∈ rows, Bf y l) → (∀ y ∈ R, y ∈ done) → Good top R → (∀ n d, 0 < d → n ≤ top * d → ∀ q ∈ done, ∃ t ∈ R, vA t n d ≤ vA q n d) →
    (∀ y ∈ rows.foldl (fun R l => addM top l R) R, y ∈ done ∨ y ∈ rows) ∧ Good top (rows.foldl (fun R l => addM top l R) R) ∧
    ∀ n d, 0 < d → n ≤ top * d → ∀ q, (q ∈ done ∨ q ∈ rows) → ∃ t ∈ rows.foldl (fun R l => addM top l R) R, vA t n d ≤ vA q n d
  | [], R, done, _, _, sub, g, c => ⟨fun y hy => .inl (sub y hy), g, fun n d hd h2 q hq => by
      rcases hq with hq | hq
      · exact c n d hd h2 q hq
      · cases hq⟩
  | l :: rows, R, done, hr, hb, sub, g, c => by
    have hr := List.pairwise_cons.mp hr
    have hl : ∀ y ∈ R, Bf y l := fun y hy => hb y (sub y hy) l (List.mem_cons_self ..)
    obtain ⟨i1, i2, i3⟩ := fold_ok rows (addM top l R) (l :: done) hr.2
      (fun y hy m hm => by
        rcases List.mem_cons.mp hy with rfl | hy
        · exact hr.1 m hm
        · exact hb y hy m (List.mem_cons_of_mem _ hm))
      (fun y hy => by
        rcases add_sub y hy with rfl | hy
        · exact List.mem_cons_self ..
        · exact List.mem_cons_of_mem _ (sub y hy))
      (add_good g hl)
      (fun n d hd h2 q hq => by
        rcases List.mem_cons.mp hq with rfl | hq
        · exact add_cover g hl hd h2 q (.inl rfl)
        · obtain ⟨t, ht, le⟩ := c n d hd h2 q hq
          obtain ⟨u, hu, le2⟩ := add_cover (n := n) g hl hd h2 t (.inr ht)
          exact ⟨u, hu, Int.le_trans le2 le⟩)
    refine ⟨fun y hy => ?_, i2, fun n d hd h2 q hq => ?_⟩
    · rcases i1 y hy with h | h
      · rcases List.mem_cons.mp h with rfl | h
        · exact .inr (List.mem_cons_self ..)
        · exact .inl h
      · exact .inr (List.mem_cons_of_mem _ h)
    · rcases hq with hq | hq
      · exact i3 n d hd h2 q (.inl (List.mem_cons_of_mem _ hq))
      · rcases List.mem_cons.mp hq with rfl | hq
        · exact i3 n d hd h2 q (.inl (List.mem_cons_self ..))
        · exact i3 n d hd h2 q (.inr hq)
/-- the lowest lines: of the rows, in their chain, and nowhere above a row -/
theorem low_ok {top : Int} {rows : List Ln} (hr : Rows rows) : (∀ y ∈ lowM top rows, y ∈ rows) ∧ Good top (lowM top rows).reverse ∧ ∀ n d, 0 < d → n ≤ top * d → ∀ q ∈ rows, ∃ t ∈ lowM top rows, vA t n d ≤ vA q n d := by
  obtain ⟨h1, h2, h3⟩ := fold_ok (top := top) rows [] [] hr (fun y hy => by cases hy) (fun y hy => by cases hy) trivial (fun n d _ _ q hq => by cases hq)
  unfold lowM
  refine ⟨fun y hy => ?_, by rw [List.reverse_reverse]; exact h2, fun n d hd hn q hq => ?_⟩
  · rcases h1 y (List.mem_reverse.mp hy) with h | h
    · cases h
    · exact h
  · obtain ⟨t, ht, le⟩ := h3 n d hd hn q (.inr hq)
    exact ⟨t, List.mem_reverse.mpr ht, le⟩
theorem low_ne {top : Int} {l : Ln} {rows : List Ln} (hr : Rows (l :: rows)) : lowM top (l :: rows) ≠ [] := by
  intro e
  by_cases h : 0 ≤ top
  · obtain ⟨t, ht, _⟩ := (low_ok (top := top) hr).2.2 0 1 (by decide) (by omega) l (List.mem_cons_self ..)
    rw [e] at ht
    cases ht
  · obtain ⟨t, ht, _⟩ := (low_ok (top := top) hr).2.2 top 1 (by decide) (by omega) l (List.mem_cons_self ..)
    rw [e] at ht
    cases ht
theorem nev_lt {s t u : Ln} (h : nevM s t u = false) : (t.1 - s.1) * (t.2 - u.2) < (u.1 - t.1) * (s.2 - t.2) := Int.not_le.mp (of_decide_eq_false h)
theorem blw_lt {l o : Ln} {s : Int} (h : blwM l o s = true) : l.1 + l.2 * s < o.1 + o.2 * s := of_decide_eq_true h
/-- behind the meeting with s, t loses to u later than it wins against s -/
theorem vA_up {s t u : Ln} {n d : Int} (st : Bf s t) (tu : Bf t u) (h : nevM s t u = false) (hd : 0 < d) (k : vA s n d < vA t n d) : vA t n d < vA u n d := by
  have h := nev_lt h
  obtain ⟨a1, b1⟩ := st
  obtain ⟨a2, b2⟩ := tu
  unfold vA at k ⊢
  have k1 : (s.2 - t.2) * n < (t.1 - s.1) * d := by grind
  have m1 := Int.mul_lt_mul_of_pos_left k1 (show 0 < t.2 - u.2 by omega)
  have m2 := Int.mul_lt_mul_of_pos_right h hd
  have m3 : (s.2 - t.2) * ((t.2 - u.2) * n) < (s.2 - t.2) * ((u.1 - t.1) * d) := by grind
  have m4 := Int.lt_of_mul_lt_mul_left m3 (show 0 ≤ s.2 - t.2 by omega)
  grind
theorem vA_down {s t u : Ln} {n d : Int} (st : Bf s t) (tu : Bf t u) (h : nevM s t u = false) (hd : 0 < d) (k : vA u n d < vA t n d) : vA t n d < vA s n d := by
  have h := nev_lt h
  obtain ⟨a1, b1⟩ := st
  obtain ⟨a2, b2⟩ := tu
  unfold vA at k ⊢
  have k1 : (u.1 - t.1) * d < (t.2 - u.2) * n := by grind
  have m1 := Int.mul_lt_mul_of_pos_left k1 (show 0 < s.2 - t.2 by omega)
  have m2 := Int.mul_lt_mul_of_pos_right h hd
  have m3 : (t.2 - u.2) * ((t.1 - s.1) * d) < (t.2 - u.2) * ((s.2 - t.2) * n) := by grind
  have m4 := Int.lt_of_mul_lt_mul_left m3 (show 0 ≤ t.2 - u.2 by omega)
  grind
theorem chain_down {top n d : Int} (hd : 0 < d) : ∀ {suf : List Ln} {t : Ln}, Good top (t :: suf) → (∀ s r, suf = s :: r → vA t n d < vA s n d) → ∀ z ∈ suf, vA t n d < vA z n d
  | [], _, _, _, z, h => by cases h
  | s :: r, t, g, k, z, h => by
    have h1 := k s r rfl
    rcases List.mem_cons.mp h with rfl | h
    · exact h1
    · have ih := chain_down hd (suf := r) (t := s) g.tail (fun w r' e => by
        subst e
        have g2 := g.tail
        exact vA_down g2.1 g.1 (g.2.2.1 w r' rfl) hd h1) z h
      exact Int.lt_trans h1 ih
theorem good_at {top : Int} : ∀ {pre : List Ln} {t : Ln} {suf : List Ln}, Good top (pre ++ t :: suf) → Good top (t :: suf)
  | [], _, _, g => g
  | _ :: pre, _, _, g => good_at (pre := pre) g.tail
theorem chain_up {top n d : Int} (hd : 0 < d) : ∀ {pre : List Ln} {t : Ln} {suf : List Ln}, Good top (pre ++ t :: suf) → (∀ u p, pre = p ++ [u] → vA t n d < vA u n d) →
    (∀ y p, pre = y :: p → ∀ x r, p ++ t :: suf = x :: r → vA x n d < vA y n d) ∧ ∀ z ∈ pre, vA t n d < vA z n d
  | [], _, _, _, _ => ⟨fun y p e => (by cases e), fun z h => by cases h⟩
  | [y], t, suf, g, k => by
    have h := k y [] rfl
    refine ⟨fun y' p e x r e2 => ?_, fun z hz => ?_⟩
    · cases e
      cases e2
      exact h
    · cases List.mem_singleton.mp hz
      exact h
  | y :: y2 :: p, t, suf, g, k => by
    obtain ⟨i1, i2⟩ := chain_up hd (pre := y2 :: p) (t := t) (suf := suf) g.tail (fun u q e => k u (y :: q) (by rw [e]; rfl))
    have key : vA y2 n d < vA y n d := by
      have g : Good top (y :: y2 :: (p ++ t :: suf)) := g
      cases e : p ++ t :: suf with
      | nil => cases p <;> cases e
      | cons x r =>
        rw [e] at g
        have h1 := i1 y2 p rfl x r e
        exact vA_up g.tail.1 g.1 (g.2.2.1 x r rfl) hd h1
    refine ⟨fun y' p' e x r e2 => ?_, fun z hz => ?_⟩
    · cases e
      cases e2
      exact key
    · rcases List.mem_cons.mp hz with rfl | hz
      · exact Int.lt_trans (i2 y2 (List.mem_cons_self ..)) key
      · exact i2 z hz
/-- the settings of the law, as whole places over F -/
structure Places (rays : List Ln) (roof F : Int) (ps : List Int) : Prop where
  fp : 0 < F
  up : ps.Pairwise (· < ·)
  m0 : 0 ∈ ps
  mr : roof * F ∈ ps
  inn : ∀ x ∈ ps, 0 ≤ x ∧ x ≤ roof * F
  cross : ∀ l ∈ rays, ∀ u ∈ rays, Bf l u → u.1 - l.1 < roof * (l.2 - u.2) → ∃ x ∈ ps, x * (l.2 - u.2) = (u.1 - l.1) * F
theorem next_at {a b : Int} : ∀ {ps : List Int}, ps.Pairwise (· < ·) → a ∈ ps → b ∈ ps → a < b → ∃ k, k + 1 < ps.length ∧ ps.getD k 0 = a ∧ ps.getD (k + 1) 0 ≤ b ∧ a < ps.getD (k + 1) 0 ∧ ∀ x ∈ ps, ¬ (a < x ∧ x < ps.getD (k + 1) 0)
  | [], _, h, _, _ => by cases h
  | c :: ps, hp, ha, hb, lt => by
    have hp := List.pairwise_cons.mp hp
    rcases List.mem_cons.mp ha with rfl | ha
    · rcases List.mem_cons.mp hb with rfl | hb
      · omega
      · cases ps with
        | nil => cases hb
        | cons e r =>
          have h2 := List.pairwise_cons.mp hp.2
          refine ⟨0, by show 1 < r.length + 1 + 1; omega, rfl, ?_, hp.1 e (List.mem_cons_self ..), fun x hx hh => ?_⟩
          · rcases List.mem_cons.mp hb with rfl | hb
            · exact Int.le_refl _
            · exact Int.le_of_lt (h2.1 b hb)
          · have hh2 : x < e := hh.2
            rcases List.mem_cons.mp hx with rfl | hx
            · omega
            · rcases List.mem_cons.mp hx with rfl | hx
              · omega
              · have := h2.1 x hx
                omega
    · have ca := hp.1 a ha
      have hb : b ∈ ps := by
        rcases List.mem_cons.mp hb with rfl | hb
        · omega
        · exact hb
      obtain ⟨k, h1, h2, h3, h4, h5⟩ := next_at hp.2 ha hb lt
      refine ⟨k + 1, by show k + 1 + 1 < ps.length + 1; omega, h2, h3, h4, fun x hx hh => ?_⟩
      rcases List.mem_cons.mp hx with rfl | hx
      · omega
      · exact h5 x hx hh
theorem alone {rays R : List Ln} {roof F : Int} {qs : List Int} (P : Places rays roof F qs) (hr : 0 < roof) (g : Good roof R) (sub : ∀ t ∈ R, t ∈ rays) (cov : ∀ n d, 0 ≤ n → 0 < d → n ≤ roof * d → ∀ q ∈ rays, ∃ t ∈ R, vA t n d ≤ vA q n d) {t : Ln} (ht : t ∈ R) :
    ∃ k, k + 1 < qs.length ∧ ∀ z ∈ rays, z ≠ t → vA t (qs.getD k 0 + qs.getD (k + 1) 0) (F * 2) < vA z (qs.getD k 0 + qs.getD (k + 1) 0) (F * 2) := by
  obtain ⟨pre, suf, rfl⟩ := List.append_of_mem ht
  have F0 := P.fp
  have gt := good_at g
  have tr := sub t ht
  -- where t wins
  obtain ⟨lo, hlo, l0, lz, l1⟩ : ∃ lo ∈ qs, 0 ≤ lo ∧ (suf = [] → lo = 0) ∧ ∀ s r, suf = s :: r → lo * (s.2 - t.2) = (t.1 - s.1) * F ∧ Bf s t := by
    cases suf with
    | nil => exact ⟨0, P.m0, Int.le_refl _, fun _ => rfl, fun s r e => by cases e⟩
    | cons s r =>
      have b := blw_lt gt.2.1
      have bs : Bf s t := gt.1
      obtain ⟨x, hx, ex⟩ := P.cross s (sub s (by simp)) t (sub t (by simp)) bs (by grind)
      refine ⟨x, hx, (P.inn x hx).1, (fun e => by cases e), fun s' r' e => ?_⟩
      cases e
      exact ⟨ex, bs⟩
  -- where t loses
  obtain ⟨hi, hhi, hz, h2⟩ : ∃ hi ∈ qs, (pre = [] → hi = roof * F) ∧ ∀ u p, pre = p ++ [u] → hi * (t.2 - u.2) = (u.1 - t.1) * F ∧ Bf t u ∧ (∀ s r, suf = s :: r → nevM s t u = false) := by
    rcases List.eq_nil_or_concat pre with rfl | ⟨p, u, rfl⟩
    · refine ⟨roof * F, P.mr, fun _ => rfl, fun u p e => ?_⟩
      have := congrArg List.length e
      simp at this
    · rw [List.concat_eq_append, List.append_assoc] at g
      have gu : Good roof (u :: t :: suf) := good_at g
      have b := blw_lt gu.2.1
      have bu : Bf t u := gu.1
      obtain ⟨x, hx, ex⟩ := P.cross t tr u (sub u (by simp)) bu (by grind)
      refine ⟨x, hx, fun e => ?_, fun u' p' e => ?_⟩
      · have := congrArg List.length e
        simp at this
      · rw [List.concat_eq_append] at e
        have e2 := (List.append_inj' e rfl).2
        cases e2
        exact ⟨ex, bu, gu.2.2.1⟩
  have lt : lo < hi := by
    rcases List.eq_nil_or_concat pre with e | ⟨p, u, e⟩
    · have eh := hz e
      have rF := Int.mul_pos hr F0
      cases suf with
      | nil =>
        rw [lz rfl, eh]
        exact rF
      | cons s r =>
        obtain ⟨e1, bs⟩ := l1 s r rfl
        have b := blw_lt gt.2.1
        obtain ⟨a1, b1⟩ := bs
        have q1 : t.1 - s.1 < roof * (s.2 - t.2) := by
          rw [Int.mul_sub, Int.mul_comm roof, Int.mul_comm roof]
          omega
        have m1 := Int.mul_lt_mul_of_pos_right q1 F0
        have m2 : lo * (s.2 - t.2) < hi * (s.2 - t.2) := by
          rw [e1, eh, Int.mul_right_comm]
          exact m1
        exact Int.lt_of_mul_lt_mul_right m2 (by omega)
    · rw [List.concat_eq_append] at e
      obtain ⟨e2, bu, nv⟩ := h2 u p e
      obtain ⟨a2, b2⟩ := bu
      cases suf with
      | nil =>
        rw [lz rfl]
        have m1 := Int.mul_pos (show 0 < u.1 - t.1 by omega) F0
        rw [← e2] at m1
        have m2 : 0 * (t.2 - u.2) < hi * (t.2 - u.2) := by
          rw [Int.zero_mul]
          exact m1
        exact Int.lt_of_mul_lt_mul_right m2 (by omega)
      | cons s r =>
        obtain ⟨e1, bs⟩ := l1 s r rfl
        have nv := nev_lt (nv s r rfl)
        obtain ⟨a1, b1⟩ := bs
        have m1 := Int.mul_lt_mul_of_pos_right nv F0
        have m2 : lo * ((s.2 - t.2) * (t.2 - u.2)) < hi * ((s.2 - t.2) * (t.2 - u.2)) := by
          have k1 : lo * ((s.2 - t.2) * (t.2 - u.2)) = (t.1 - s.1) * (t.2 - u.2) * F := by
            rw [← Int.mul_assoc, e1, Int.mul_right_comm]
          have k2 : hi * ((s.2 - t.2) * (t.2 - u.2)) = (u.1 - t.1) * (s.2 - t.2) * F := by
            rw [Int.mul_comm (s.2 - t.2), ← Int.mul_assoc, e2, Int.mul_right_comm]
          rw [k1, k2]
          exact m1
        exact Int.lt_of_mul_lt_mul_right m2 (Int.le_of_lt (Int.mul_pos (by omega) (by omega)))
  obtain ⟨k, k1, k2, k3, k4, k5⟩ := next_at P.up hlo hhi lt
  refine ⟨k, k1, ?_⟩
  rw [k2]
  generalize qs.getD (k + 1) 0 = nx at k3 k4 k5
  have hm : lo * 2 < lo + nx ∧ lo + nx < nx * 2 := by omega
  have hD : 0 < F * 2 := by omega
  have down := chain_down (n := lo + nx) hD gt (fun s r e => by
    obtain ⟨e1, a1, b1⟩ := l1 s r e
    have m1 := Int.mul_lt_mul_of_pos_right hm.1 (show 0 < s.2 - t.2 by omega)
    have m2 : lo * 2 * (s.2 - t.2) = (t.1 - s.1) * F * 2 := by rw [Int.mul_right_comm, e1]
    unfold vA
    rw [m2] at m1
    grind)
  have up := (chain_up (n := lo + nx) hD g (fun u p e => by
    obtain ⟨e2, ⟨a2, b2⟩, _⟩ := h2 u p e
    have m1 := Int.mul_lt_mul_of_pos_right (show lo + nx < hi * 2 by omega) (show 0 < t.2 - u.2 by omega)
    have m2 : hi * 2 * (t.2 - u.2) = (u.1 - t.1) * F * 2 := by rw [Int.mul_right_comm, e2]
    unfold vA
    rw [m2] at m1
    grind)).2
  have inT : ∀ z ∈ pre ++ t :: suf, z = t ∨ vA t (lo + nx) (F * 2) < vA z (lo + nx) (F * 2) := by
    intro z hz
    rcases List.mem_append.mp hz with h | h
    · exact .inr (up z h)
    · rcases List.mem_cons.mp h with h | h
      · exact .inl h
      · exact .inr (down z h)
  have hiF := (P.inn hi hhi).2
  have mroof : lo + nx ≤ roof * (F * 2) := by
    rw [← Int.mul_assoc]
    omega
  intro z hz ne
  obtain ⟨u, hu, le⟩ := cov (lo + nx) (F * 2) (by omega) hD mroof z hz
  rcases inT u hu with rfl | h
  · -- not equal: a crossing between two neighbouring places
    rcases Int.lt_or_le (vA u (lo + nx) (F * 2)) (vA z (lo + nx) (F * 2)) with h | h
    · exact h
    exfalso
    have eq := Int.le_antisymm le h
    unfold vA at eq
    have no : ∀ l ∈ rays, ∀ v ∈ rays, Bf l v → (l.2 - v.2) * (lo + nx) = (v.1 - l.1) * (F * 2) → False := by
      intro l hl v hv b e
      obtain ⟨a1, b1⟩ := b
      have lt2 : v.1 - l.1 < roof * (l.2 - v.2) := by
        have m1 := Int.mul_lt_mul_of_pos_left (show lo + nx < roof * (F * 2) by rw [← Int.mul_assoc]; omega) (show 0 < l.2 - v.2 by omega)
        rw [e, show (l.2 - v.2) * (roof * (F * 2)) = roof * (l.2 - v.2) * (F * 2) by rw [← Int.mul_assoc, Int.mul_comm (l.2 - v.2)]] at m1
        exact Int.lt_of_mul_lt_mul_right m1 (Int.le_of_lt hD)
      obtain ⟨x, hx, ex⟩ := P.cross l hl v hv ⟨a1, b1⟩ lt2
      have x2 : x * 2 = lo + nx := by
        have m1 : (l.2 - v.2) * (x * 2) = (l.2 - v.2) * (lo + nx) := by
          rw [e, ← Int.mul_assoc, ← Int.mul_assoc, Int.mul_comm (l.2 - v.2), ex]
        exact Int.eq_of_mul_eq_mul_left (by omega) m1
      exact k5 x hx ⟨by omega, by omega⟩
    have mpos : 0 < lo + nx := by omega
    rcases Int.lt_trichotomy z.2 u.2 with hb | hb | hb
    · refine no u tr z hz ⟨?_, hb⟩ (by grind)
      have m1 := Int.mul_pos (show 0 < u.2 - z.2 by omega) mpos
      have m2 : 0 * (F * 2) < (z.1 - u.1) * (F * 2) := by grind
      have := Int.lt_of_mul_lt_mul_right m2 (Int.le_of_lt hD)
      omega
    · rw [hb] at eq
      have m2 : u.1 * (F * 2) = z.1 * (F * 2) := by omega
      have := Int.eq_of_mul_eq_mul_right (by omega) m2
      exact ne (Prod.ext this.symm hb)
    · refine no z hz u tr ⟨?_, hb⟩ (by grind)
      have m1 := Int.mul_pos (show 0 < z.2 - u.2 by omega) mpos
      have m2 : 0 * (F * 2) < (u.1 - z.1) * (F * 2) := by grind
      have := Int.lt_of_mul_lt_mul_right m2 (Int.le_of_lt hD)
      omega
  · exact Int.lt_of_lt_of_le h le
end Fb
set_option Elab.async false
set_option linter.all false
set_option maxRecDepth 100000
set_option maxHeartbeats 4000000
namespace Fb
open PySem PySem.Spec L2
open PyProof.Rows hiding St
def rowD (l : List Int) : PyData := .tuple (l.map .int)
def RowsV (K : PySem.W.Frag) (H : Hp) (xs : List V) (ls : List (List Int)) : Prop := DpAll K H xs (ls.map rowD)
theorem RowsV.mono {K : PySem.W.Frag} {H H' : Hp} {xs : List V} {ls : List (List Int)} (h : RowsV K H xs ls) (e : Same H H') : RowsV K H' xs ls := dpAll_mono e _ h
theorem RowsV.len {K : PySem.W.Frag} {H : Hp} {xs : List V} {ls : List (List Int)} (h : RowsV K H xs ls) : xs.length = ls.length := by
  have := dpAll_len h
  rw [List.length_map] at this
  exact this
theorem RowsV.get {K : PySem.W.Frag} {H : Hp} {xs : List V} {ls : List (List Int)} (h : RowsV K H xs ls) {i : Nat} {x : V} (e : xs[i]? = some x) : ∃ l, ls[i]? = some l ∧ TupI K H x l := by
  obtain ⟨d, g1, g2⟩ := dpAll_get h e
  rw [List.getElem?_map] at g1
  cases hl : ls[i]? with
  | none =>
    rw [hl] at g1
    cases g1
  | some l =>
    rw [hl] at g1
    cases g1
    exact ⟨l, rfl, optD_tup g2⟩
theorem RowsV.upd {K : PySem.W.Frag} {H : Hp} {q : Addr} {ys : List V} {o : HO} (hq : H q = some (.lst ys)) : ∀ {ls : List (List Int)} {xs : List V}, RowsV K H xs ls → RowsV K (upd H q o) xs ls
  | [], _, h => by
    cases h
    exact .nil
  | l :: r, _, h => by
    have h : DpAll K H _ (rowD l :: r.map rowD) := h
    cases h with
    | cons a b => exact .cons (optD_upd (r := some l) hq a) (RowsV.upd hq b)
theorem RowsV.snoc {K : PySem.W.Frag} {H : Hp} {xs : List V} {ls : List (List Int)} {x : V} {l : List Int} (h : RowsV K H xs ls) (t : TupI K H x l) : RowsV K H (xs ++ [x]) (ls ++ [l]) := by
  unfold RowsV
  rw [List.map_append]
  exact dpAll_snoc h t.dp
theorem take_fold {α β : Type} (f : β → α → β) (b : β) (l : List α) (i : Nat) (x : α) (h : l[i]? = some x) : (l.take (i + 1)).foldl f b = f ((l.take i).foldl f b) x := by
  rw [List.take_add_one, h, List.foldl_append]
  rfl
section
variable {P : Program} {w : World} {K : PySem.W.Frag} {mg : Str → Option Value} {base : Heap} {m qual : Str} {st : Stmt} {f : Addr} {fd : FuncData} {N : List Str} {k : Nat} {p1 p2 p3 p4 : Str}
end
def tol (p : Ln) : List Int := [p.1, p.2]
def pairLe (p q : Ln) : Bool := decide (p.1 < q.1 ∨ (p.1 = q.1 ∧ p.2 ≤ q.2))
def leP (o r : Ln) : Bool := decide (o.1 ≤ r.1) && decide (o.2 ≤ r.2)
def thinPS (k : List Ln) (r : Ln) : List Ln := if (k.any fun o => leP o r) = true then k else k ++ [r]
def thinP (rays : List Ln) : List Ln := (rays.mergeSort pairLe).foldl thinPS []
theorem thinP_sub : ∀ (l k : List Ln), ∀ r ∈ l.foldl thinPS k, r ∈ k ∨ r ∈ l
  | [], k, r, h => .inl h
  | a :: l, k, r, h => by
    rcases thinP_sub l (thinPS k a) r h with h | h
    · unfold thinPS at h
      split at h
      · exact .inl h
      · rcases List.mem_append.mp h with h | h
        · exact .inl h
        · exact .inr (List.mem_cons.mpr (.inl (List.mem_singleton.mp h)))
    · exact .inr (List.mem_cons_of_mem _ h)
theorem thinP_cover : ∀ (l k : List Ln), (∀ o ∈ k, o ∈ l.foldl thinPS k) ∧ ∀ q ∈ l, ∃ r ∈ l.foldl thinPS k, leP r q = true
  | [], k => ⟨fun o h => h, fun q h => by cases h⟩
  | a :: l, k => by
    obtain ⟨i1, i2⟩ := thinP_cover l (thinPS k a)
    have kk : ∀ o ∈ k, o ∈ thinPS k a := fun o h => by
      unfold thinPS
      split
      · exact h
      · exact List.mem_append_left _ h
    refine ⟨fun o h => i1 o (kk o h), fun q h => ?_⟩
    rcases List.mem_cons.mp h with rfl | h
    · by_cases c : (k.any fun o => leP o q) = true
      · obtain ⟨o, ho, le⟩ := List.any_eq_true.mp c
        exact ⟨o, i1 o (kk o ho), le⟩
      · refine ⟨q, i1 q ?_, by unfold leP; simp⟩
        unfold thinPS
        rw [if_neg c]
        exact List.mem_append_right _ (List.mem_singleton.mpr rfl)
    · exact i2 q h
theorem pair_rows {p q : Ln} (h : pairLe p q = true) (n : leP p q = false) : Bf p q := by
  have h := of_decide_eq_true h
  unfold leP at n
  rw [← Bool.decide_and] at n
  have n := of_decide_eq_false n
  constructor <;> omega
theorem thinP_rows : ∀ (l k : List Ln), Rows k → (∀ o ∈ k, ∀ q ∈ l, pairLe o q = true) → l.Pairwise (fun a b => pairLe a b = true) → Rows (l.foldl thinPS k)
  | [], k, h, _, _ => h
  | a :: l, k, h, h2, h3 => by
    have h3 := List.pairwise_cons.mp h3
    refine thinP_rows l (thinPS k a) ?_ ?_ h3.2
    · unfold thinPS
      split
      · exact h
      · rename_i c
        refine List.pairwise_append.mpr ⟨h, List.pairwise_singleton _ _, fun o ho b hb => ?_⟩
        cases List.mem_singleton.mp hb
        refine pair_rows (h2 o ho a (List.mem_cons_self ..)) ?_
        cases e : leP o a with
        | false => rfl
        | true => exact absurd (List.any_eq_true.mpr ⟨o, ho, e⟩) c
    · intro o ho q hq
      unfold thinPS at ho
      split at ho
      · exact h2 o ho q (List.mem_cons_of_mem _ hq)
      · rcases List.mem_append.mp ho with ho | ho
        · exact h2 o ho q (List.mem_cons_of_mem _ hq)
        · cases List.mem_singleton.mp ho
          exact h3.1 q hq
theorem thinP_ok (rays : List Ln) : (∀ r ∈ thinP rays, r ∈ rays) ∧ Rows (thinP rays) ∧ ∀ q ∈ rays, ∃ r ∈ thinP rays, r.1 ≤ q.1 ∧ r.2 ≤ q.2 := by
  have tr : ∀ a b c : Ln, pairLe a b = true → pairLe b c = true → pairLe a c = true := fun a b c h k => by
    have h := of_decide_eq_true h
    have k := of_decide_eq_true k
    exact decide_eq_true (by omega)
  have to : ∀ a b : Ln, (pairLe a b || pairLe b a) = true := fun a b => by
    unfold pairLe
    rw [← Bool.decide_or]
    exact decide_eq_true (by omega)
  refine ⟨fun r h => ?_, ?_, fun q hq => ?_⟩
  · rcases thinP_sub _ _ r h with h | h
    · cases h
    · exact List.mem_mergeSort.mp h
  · exact thinP_rows _ [] List.Pairwise.nil (fun o h => by cases h) (List.pairwise_mergeSort tr to rays)
  · obtain ⟨r, h1, h2⟩ := (thinP_cover (rays.mergeSort pairLe) []).2 q (List.mem_mergeSort.mpr hq)
    unfold leP at h2
    rw [Bool.and_eq_true] at h2
    exact ⟨r, h1, of_decide_eq_true h2.1, of_decide_eq_true h2.2⟩
/-- the value of a dial that is left of lines -/
def lowestM (top : Int) (rays : List Ln) : Option (List Ln) := if rays = [] then none else some (lowM top (thinP rays))
def lnD : Option (List Ln) → PyData
  | none => .none
  | some T => .tuple (T.map fun t => rowD (tol t))
theorem lowest_ok {top : Int} {rays T : List Ln} (h : lowestM top rays = some T) : T ≠ [] ∧ (∀ y ∈ T, y ∈ rays) ∧ Good top T.reverse ∧ ∀ n d, 0 ≤ n → 0 < d → n ≤ top * d → ∀ q ∈ rays, ∃ t ∈ T, vA t n d ≤ vA q n d := by
  unfold lowestM at h
  split at h
  · cases h
  · rename_i ne
    cases h
    obtain ⟨s, rw1, c⟩ := thinP_ok rays
    obtain ⟨l1, l2, l3⟩ := low_ok (top := top) rw1
    refine ⟨?_, fun y hy => s y (l1 y hy), l2, fun n d n0 hd h2 q hq => ?_⟩
    · cases rays with
      | nil => exact absurd rfl ne
      | cons q r =>
        obtain ⟨y, hy, _⟩ := c q (List.mem_cons_self ..)
        cases e : thinP (q :: r) with
        | nil =>
          rw [e] at hy
          cases hy
        | cons a b =>
          rw [e] at rw1
          exact low_ne rw1
    · obtain ⟨y, hy, a1, a2⟩ := c q hq
      obtain ⟨t, ht, le⟩ := l3 n d hd h2 y hy
      refine ⟨t, ht, Int.le_trans le ?_⟩
      unfold vA
      have m1 := Int.mul_le_mul_of_nonneg_right a1 (Int.le_of_lt hd)
      have m2 := Int.mul_le_mul_of_nonneg_right a2 n0
      omega
def BdL (l : Ln) : Prop := -10000000000000 ≤ l.1 ∧ l.1 ≤ 10000000000000 ∧ -10000000000000 ≤ l.2 ∧ l.2 ≤ 10000000000000
theorem pop_stop {l y x : Ln} {r : List Ln} (h : nevM x y l = false) : popM l (y :: x :: r) = y :: x :: r := if_neg (by rw [h]; exact Bool.false_ne_true)
def dfl (top : Int) (t : Addr) : List (Str × V) := putF "stay" (.ref t) (putF "top" (.int top) (putF "slope" (.str "b") (putF "wish" (.str "a") [])))
def DialAt (CH : Addr) (H : Hp) (p : Addr) (top : Int) : Prop := ∃ dx t, H p = some (.ins CH dx (dfl top t))
theorem DialAt.mono {CH : Addr} {H H' : Hp} {p : Addr} {top : Int} (h : DialAt CH H p top) (e : Same H H') : DialAt CH H' p top := by
  obtain ⟨dx, t, a⟩ := h
  exact ⟨dx, t, e _ _ a⟩
theorem op_catT_K {X : Cx} {K : PySem.W.Frag} (e : X.K = K) : OpR X (binaryOp .Add) (rCatT K) := e ▸ op_catT
theorem dpAll_app {K : PySem.W.Frag} {H : Hp} : ∀ {xs ys : List V} {ds es : List PyData}, DpAll K H xs ds → DpAll K H ys es → DpAll K H (xs ++ ys) (ds ++ es)
  | _, _, _, _, .nil, h => h
  | _, _, _, _, .cons a b, h => .cons a (dpAll_app b h)
theorem RowsV.app {K : PySem.W.Frag} {H : Hp} {xs ys : List V} {ls ms : List (List Int)} (h : RowsV K H xs ls) (k : RowsV K H ys ms) : RowsV K H (xs ++ ys) (ls ++ ms) := by
  unfold RowsV
  rw [List.map_append]
  exact dpAll_app h k
def BdR (r : Ln) : Prop := 0 ≤ r.1 ∧ r.1 ≤ 100000000 ∧ 0 ≤ r.2 ∧ r.2 ≤ 1000
def RayV (K : PySem.W.Frag) (B : Ln → Prop) (H : Hp) (v : V) : Prop := ∃ r, TupI K H v (tol r) ∧ B r
theorem RayV.mono {K : PySem.W.Frag} {B : Ln → Prop} {H H' : Hp} {v : V} (h : RayV K B H v) (e : Same H H') : RayV K B H' v := by
  obtain ⟨r, a, b⟩ := h
  exact ⟨r, a.mono e, b⟩
theorem RayV.upd {K : PySem.W.Frag} {B : Ln → Prop} {H : Hp} {v : V} {q : Addr} {ys : List V} {o : HO} (hq : H q = some (.lst ys)) (h : RayV K B H v) : RayV K B (upd H q o) v := by
  obtain ⟨r, a, b⟩ := h
  exact ⟨r, tupI_upd hq a, b⟩
theorem RayV.imp {K : PySem.W.Frag} {B B' : Ln → Prop} {H : Hp} {v : V} (h : RayV K B H v) (k : ∀ r, B r → B' r) : RayV K B' H v := by
  obtain ⟨r, a, b⟩ := h
  exact ⟨r, a, k r b⟩
def PairsV (H : Hp) (us : List V) (zs : List (V × V)) : Prop := us.length = zs.length ∧ ∀ (i : Nat) u, us[i]? = some u → ∃ z U, zs[i]? = some z ∧ u = .ref U ∧ H U = some (.tup [z.1, z.2])
theorem PairsV.mono {H H' : Hp} {us : List V} {zs : List (V × V)} (h : PairsV H us zs) (e : Same H H') : PairsV H' us zs := by
  refine ⟨h.1, fun i u hu => ?_⟩
  obtain ⟨z, U, a, b, c⟩ := h.2 i u hu
  exact ⟨z, U, a, b, e _ _ c⟩
theorem PairsV.upd {H : Hp} {us ys : List V} {zs : List (V × V)} {q : Addr} {o : HO} (hq : H q = some (.lst ys)) (h : PairsV H us zs) : PairsV (upd H q o) us zs := by
  refine ⟨h.1, fun i u hu => ?_⟩
  obtain ⟨z, U, a, b, c⟩ := h.2 i u hu
  refine ⟨z, U, a, b, ?_⟩
  rw [upd_ne fun e => by rw [e, hq] at c; cases c]
  exact c
theorem PairsV.snoc {H : Hp} {us : List V} {zs : List (V × V)} {z : V × V} {U : Addr} (h : PairsV H us zs) (k : H U = some (.tup [z.1, z.2])) : PairsV H (us ++ [.ref U]) (zs ++ [z]) := by
  refine ⟨by rw [List.length_append, List.length_append, h.1]; rfl, fun i u hu => ?_⟩
  by_cases q : i < us.length
  · rw [List.getElem?_append_left q] at hu
    obtain ⟨z', U', a, b, c⟩ := h.2 i u hu
    exact ⟨z', U', by rw [List.getElem?_append_left (by rw [← h.1]; exact q)]; exact a, b, c⟩
  · have hi : i = us.length := by
      have := (List.getElem?_eq_some_iff.mp hu).1
      rw [List.length_append] at this
      have this : i < us.length + 1 := this
      omega
    subst hi
    rw [List.getElem?_append_right (Nat.le_refl _), Nat.sub_self] at hu
    cases hu
    exact ⟨z, U, by rw [h.1, List.getElem?_append_right (Nat.le_refl _), Nat.sub_self]; rfl, rfl, k⟩
def prodV (xs ys : List V) : List (V × V) := xs.flatMap fun x => ys.map fun y => (x, y)
theorem prod_take {xs ys : List V} {i : Nat} {x : V} (h : xs[i]? = some x) : prodV (xs.take (i + 1)) ys = prodV (xs.take i) ys ++ ys.map fun y => (x, y) := by
  unfold prodV
  rw [List.take_add_one, h, List.flatMap_append]
  show _ ++ ([x].flatMap fun x => ys.map fun y => (x, y)) = _
  rw [List.flatMap_singleton]
theorem map_take {xs : List V} {i : Nat} {y x : V} (h : xs[i]? = some y) : ((xs.take (i + 1)).map fun y => (x, y)) = ((xs.take i).map fun y => (x, y)) ++ [(x, y)] := by
  rw [List.take_add_one, h, List.map_append]
  rfl
theorem lc_in {J : It} {n : Nat} {G : Hp → Prop} {Y : Nat → Hp → V → Hp → Prop} (w : Walk J n G Y) {H4 : Hp} {Nx : Hp → Prop} {R : V → Hp → (Hp → Prop) → Prop} (Pv : Nat → Hp → Prop) (h0 : Pv 0 H4) (hG : ∀ i H, i ≤ n → Pv i H → G H)
    (hs : ∀ i x H H', i < n → Pv i H → Y i H x H' → R x H' (Pv (i + 1))) (hd : ∀ H, Pv n H → Nx H) :
    ∃ W1 : Nat → Nat → Hp → Prop, (∃ m, W1 0 m H4) ∧ ∀ j k H, W1 j k H →
      (J.stop j H ∧ Nx H) ∨ (J.go j H ∧ ∃ Nx1 : Hp → Prop, (∀ H', Nx1 H' → ∃ k', k' < k ∧ W1 (j + 1) k' H') ∧ ∀ x H', J.yld j H x H' → R x H' Nx1) := by
  refine ⟨fun i m H => m = n - i ∧ i ≤ n ∧ Pv i H, ⟨n, rfl, Nat.zero_le _, h0⟩, ?_⟩
  rintro i m H ⟨rfl, hi, pv⟩
  have g := hG i H hi pv
  rcases Nat.lt_or_ge i n with lt | ge
  · refine .inr ⟨w.goes i H lt g, Pv (i + 1), fun H' p' => ⟨n - (i + 1), by omega, rfl, lt, p'⟩, ?_⟩
    exact fun x H' y => hs i x H H' lt pv (w.yields i H x H' lt g y)
  · have e : i = n := Nat.le_antisymm hi ge
    subst e
    exact .inl ⟨w.stops H g, hd H pv⟩
def sumsM (one two : List Ln) : List Ln := one.flatMap fun p => two.map fun q => (p.1 + q.1, p.2 + q.2)
theorem take_map_add {α β : Type} (f : α → β) {l : List α} {i : Nat} {x : α} (h : l[i]? = some x) : (l.take (i + 1)).map f = (l.take i).map f ++ [f x] := by
  rw [List.take_add_one, h, List.map_append]
  rfl
def BdH (r : Ln) : Prop := 0 ≤ r.1 ∧ r.1 ≤ 50000000 ∧ 0 ≤ r.2 ∧ r.2 ≤ 500
theorem BdH.r {r : Ln} (h : BdH r) : BdR r := by
  obtain ⟨a, b, c, d⟩ := h
  exact ⟨a, by omega, c, by omega⟩
theorem BdR.l {r : Ln} (h : BdR r) : BdL r := by
  obtain ⟨a, b, c, d⟩ := h
  exact ⟨by omega, by omega, by omega, by omega⟩
end Fb
set_option Elab.async false
set_option linter.all false
set_option maxRecDepth 100000
set_option maxHeartbeats 4000000
namespace Fb
theorem good_rows {top : Int} : ∀ {R : List Ln}, Good top R → R.Pairwise (fun y x => Bf x y)
  | [], _ => List.Pairwise.nil
  | [_], _ => List.pairwise_singleton _ _
  | y :: x :: r, g => by
    have ih := good_rows g.tail
    refine List.pairwise_cons.mpr ⟨fun z hz => ?_, ih⟩
    rcases List.mem_cons.mp hz with rfl | hz
    · exact g.1
    · exact ((List.pairwise_cons.mp ih).1 z hz).trans g.1
theorem thin_again : ∀ (l k : List Ln), Rows (k ++ l) → l.foldl thinPS k = k ++ l
  | [], k, _ => (List.append_nil k).symm
  | a :: l, k, h => by
    have e : thinPS k a = k ++ [a] := by
      unfold thinPS
      refine if_neg fun c => ?_
      obtain ⟨o, ho, le⟩ := List.any_eq_true.mp c
      have b := (List.pairwise_append.mp h).2.2 o ho a (List.mem_cons_self ..)
      unfold leP at le
      rw [Bool.and_eq_true] at le
      have := of_decide_eq_true le.2
      have := b.2
      omega
    show l.foldl thinPS (thinPS k a) = _
    rw [e, thin_again l (k ++ [a]) (by rw [List.append_assoc]; exact h), List.append_assoc]
    rfl
theorem add_again {top : Int} {a : Ln} : ∀ {R : List Ln}, Good top (a :: R) → addM top a R = a :: R
  | [], _ => rfl
  | [y], g => if_pos g.2.1
  | y :: x :: r, g => by
    unfold addM
    rw [pop_stop (g.2.2.1 x r rfl)]
    exact if_pos g.2.1
theorem low_fold {top : Int} : ∀ (l R : List Ln), Good top (l.reverse ++ R) → l.foldl (fun R l => addM top l R) R = l.reverse ++ R
  | [], R, _ => rfl
  | a :: l, R, g => by
    rw [List.reverse_cons, List.append_assoc] at g ⊢
    have g2 : Good top (a :: R) := good_at g
    show l.foldl (fun R l => addM top l R) (addM top a R) = _
    rw [add_again g2]
    exact low_fold l (a :: R) g
theorem low_again {top : Int} {T : List Ln} (ne : T ≠ []) (g : Good top T.reverse) : lowestM top T = some T := by
  have rw0 : Rows T := by
    have := good_rows g
    exact List.pairwise_reverse.mp this
  have sorted : T.mergeSort pairLe = T := List.mergeSort_of_pairwise (rw0.imp fun {a b} h => decide_eq_true (.inl h.1))
  have e1 : thinP T = T := by
    unfold thinP
    rw [sorted]
    exact thin_again T [] rw0
  unfold lowestM
  rw [if_neg ne, e1]
  unfold lowM
  rw [low_fold T [] (by rw [List.append_nil]; exact g), List.append_nil, List.reverse_reverse]
end Fb
set_option Elab.async false
set_option linter.all false
set_option maxRecDepth 100000
set_option maxHeartbeats 4000000
namespace Fb
open PySem PySem.Spec L2
open PyProof.Rows hiding St
open LamX (TabB Tabs TabS ExtN CodeO)
/-- what is tracked but the tables -/
def noT (H : Hp) : Hp := fun b => match H b with
  | some (.tbl _) => none
  | o => o
theorem noT_at {H : Hp} {b : Addr} {o : HO} (h : H b = some o) (n : ∀ ps, o ≠ .tbl ps) : noT H b = some o := by
  unfold noT
  rw [h]
  cases o <;> first | rfl | exact absurd rfl (n _)
theorem noT_sqt {K : PySem.W.Frag} {H : Hp} {a : Addr} {xs : List V} (h : SqT K H a xs) : SqT K (noT H) a xs := by
  rcases h with (h | ⟨o, h⟩) | h
  · exact .inl (.inl (noT_at h fun _ e => nomatch e))
  · exact .inl (.inr ⟨o, noT_at h fun _ e => nomatch e⟩)
  · exact .inr h
theorem noT_sql {K : PySem.W.Frag} {H : Hp} {a : Addr} {xs : List V} (h : SqL K H a xs) : SqL K (noT H) a xs := by
  rcases h with (h | ⟨o, h⟩) | h
  · exact .inl (.inl (noT_at h fun _ e => nomatch e))
  · exact .inl (.inr ⟨o, noT_at h fun _ e => nomatch e⟩)
  · exact .inr h
mutual
theorem noT_dp {K : PySem.W.Frag} {H : Hp} : ∀ (d : PyData) {v : V}, Dp K H v d → Dp K (noT H) v d
  | .none, _, h => by cases h; exact .non
  | .bool _, _, h => by cases h; exact .bl _
  | .int _, _, h => by cases h; exact .int _
  | .str _, _, h => by cases h; exact .str _
  | .list ds, _, h => by
    cases h with
    | lst s a => exact .lst (noT_sql s) (noT_all ds a)
  | .tuple ds, _, h => by
    cases h with
    | tup s a => exact .tup (noT_sqt s) (noT_all ds a)
  | .dict _, _, h => by cases h
theorem noT_all {K : PySem.W.Frag} {H : Hp} : ∀ (ds : List PyData) {vs : List V}, DpAll K H vs ds → DpAll K (noT H) vs ds
  | [], _, h => by cases h; exact .nil
  | d :: ds, _, h => by
    cases h with
    | cons a b => exact .cons (noT_dp d a) (noT_all ds b)
end
section
variable {X : Cx} {pins : List (Addr × Obj)} {σ : L2.St} {H : Hp} {s : Shared}
end
end Fb
set_option Elab.async false
set_option linter.all false
set_option maxRecDepth 100000
set_option maxHeartbeats 4000000
namespace Fb
open PySem PySem.Spec L2
open PyProof.Rows hiding St
theorem in_D {X : Cx} {K : PySem.W.Frag} (e : X.K = K) (hu : X.A.units + 65 < cLine) : OpR X (compareOp .In) (rInD K) := e ▸ op_inD hu
theorem room65 {k : Nat} {A : Around} (hr : Room k A) : A.units + 65 < cLine := by
  have := hr.un
  omega
end Fb
namespace Fb
open PySem PySem.Spec L2
open PyProof.Rows hiding St
theorem rows_all {K : PySem.W.Frag} {H : Hp} {xs : List V} {L : List Ln} (h : RowsV K H xs (L.map tol)) : DpAll K H xs (L.map fun t => rowD (tol t)) := by
  unfold RowsV at h
  rw [List.map_map] at h
  exact h
theorem ln_dp {K : PySem.W.Frag} {H : Hp} {A : Addr} {xs : List V} {L : List Ln} (s : SqT K H A xs) (h : RowsV K H xs (L.map tol)) : Dp K H (.ref A) (lnD (some L)) := .tup s (rows_all h)
theorem noT_rows {K : PySem.W.Frag} {H : Hp} {xs : List V} {ls : List (List Int)} (h : RowsV K H xs ls) : RowsV K (noT H) xs ls := noT_all _ h
end Fb
set_option Elab.async false
set_option linter.all false
set_option maxRecDepth 100000
set_option maxHeartbeats 4000000
namespace Fb
open PySem PySem.Spec L2
open PyProof.Rows hiding St
/-- none of n values of the round is 0, from x on -/
def offZero (m : Nat) : Nat → Nat → Bool
  | 0, _ => true
  | n + 1, x => x != 0 && offZero m n ((x * 5 + 1) % (m + 1))
structure MaskG (m : Nat) : Prop where
  odd : m % 2 = 1
  one : ∀ x y, x ≤ m → y ≤ m → (x * 5 + 1) % (m + 1) = (y * 5 + 1) % (m + 1) → x = y
  off : offZero m m 1 = true
  six : m = 7 ∨ m = 31 ∨ m = 127 ∨ m = 511 ∨ m = 2047 ∨ m = 8191
theorem mg7 : MaskG 7 := ⟨rfl, fun x y _ _ _ => by omega, by decide +kernel, by decide⟩
theorem mg31 : MaskG 31 := ⟨rfl, fun x y _ _ _ => by omega, by decide +kernel, by decide⟩
theorem mg127 : MaskG 127 := ⟨rfl, fun x y _ _ _ => by omega, by decide +kernel, by decide⟩
theorem mg511 : MaskG 511 := ⟨rfl, fun x y _ _ _ => by omega, by decide +kernel, by decide⟩
theorem mg2047 : MaskG 2047 := ⟨rfl, fun x y _ _ _ => by omega, by decide +kernel, by decide⟩
theorem mg8191 : MaskG 8191 := ⟨rfl, fun x y _ _ _ => by omega, by decide +kernel, by decide⟩
section
variable {m : Nat}
theorem MaskG.big (g : MaskG m) : m ≤ 8191 := by
  rcases g.six with e | e | e | e | e | e <;> omega
theorem lcg_small (m : Nat) : ∀ k, lcgN m k ≤ m
  | 0 => Nat.zero_le _
  | _ + 1 => Nat.le_of_lt_succ (Nat.mod_lt _ (Nat.succ_pos m))
theorem off_all : ∀ (n a : Nat), offZero m n (lcgN m a) = true → ∀ k < n, lcgN m (a + k) ≠ 0
  | 0, _, _, k, lt => absurd lt (Nat.not_lt_zero k)
  | n + 1, a, e, k, lt => by
    obtain ⟨e1, e2⟩ := (Bool.and_eq_true ..).mp e
    cases k with
    | zero => exact bne_iff_ne.mp e1
    | succ k =>
      rw [show a + (k + 1) = a + 1 + k by omega]
      exact off_all n (a + 1) e2 k (by omega)
theorem MaskG.nz (g : MaskG m) {b : Nat} (b0 : 0 < b) (bm : b ≤ m) : lcgN m b ≠ 0 := by
  have o := g.odd
  have e : lcgN m 1 = 1 := by
    show (0 * 5 + 1) % (m + 1) = 1
    rw [Nat.zero_mul, Nat.zero_add, Nat.mod_eq_of_lt (by omega)]
  have h := g.off
  rw [← e] at h
  have := off_all m 1 h (b - 1) (by omega)
  rwa [show 1 + (b - 1) = b by omega] at this
theorem MaskG.inj (g : MaskG m) : ∀ (a b : Nat), a ≤ b → b ≤ m → lcgN m a = lcgN m b → a = b
  | 0, b, _, bm, e => by
    rcases Nat.eq_zero_or_pos b with z | z
    · exact z.symm
    · exact absurd e.symm (g.nz z bm)
  | a + 1, 0, le, _, _ => absurd le (Nat.not_succ_le_zero a)
  | a + 1, b + 1, le, bm, e => by
    rw [g.inj a b (by omega) (by omega) (g.one _ _ (lcg_small m a) (lcg_small m b) e)]
theorem MaskG.all (g : MaskG m) {j : Nat} (jm : j ≤ m) : ∃ b ≤ m, lcgN m b = j := by
  rcases Classical.em (j ∈ (List.range (m + 1)).map (lcgN m)) with c | c
  · obtain ⟨b, hb, e⟩ := List.mem_map.mp c
    exact ⟨b, Nat.le_of_lt_succ (List.mem_range.mp hb), e⟩
  · have nd : ((List.range (m + 1)).map (lcgN m)).Nodup := by
      refine List.pairwise_map.mpr ((List.Pairwise.and_mem.mp (List.pairwise_lt_range (n := m + 1))).imp ?_)
      rintro a b ⟨_, mb, lt⟩ e
      have := g.inj a b (Nat.le_of_lt lt) (Nat.le_of_lt_succ (List.mem_range.mp mb)) e
      omega
    have := nat_nodup_len (j :: (List.range (m + 1)).map (lcgN m)) (List.range (m + 1)) (List.nodup_cons.mpr ⟨c, nd⟩) (fun x hx => by
      rcases List.mem_cons.mp hx with rfl | hx
      · exact List.mem_range.mpr (by omega)
      · obtain ⟨b, _, rfl⟩ := List.mem_map.mp hx
        exact List.mem_range.mpr (Nat.lt_succ_of_le (lcg_small m b)))
    rw [List.length_cons, List.length_map, List.length_range] at this
    omega
theorem MaskG.back (g : MaskG m) : lcgN m (m + 1) = 0 := by
  obtain ⟨b, bm, e⟩ := g.all (lcg_small m (m + 1))
  cases b with
  | zero => exact e.symm
  | succ b =>
    have := g.inj b m (by omega) (Nat.le_refl _) (g.one _ _ (lcg_small m b) (lcg_small m m) e)
    omega
theorem MaskG.turn (g : MaskG m) : ∀ k, lcgN m (m + 1 + k) = lcgN m k
  | 0 => g.back
  | k + 1 => congrArg (fun x => (x * 5 + 1) % (m + 1)) (MaskG.turn g k)
theorem MaskG.from (g : MaskG m) {i j : Nat} (im : i ≤ m) (jm : j ≤ m) : ∃ k ≤ m, lcgI m i k = j := by
  obtain ⟨a, am, rfl⟩ := g.all im
  obtain ⟨b, bm, rfl⟩ := g.all jm
  by_cases c : a ≤ b
  · exact ⟨b - a, by omega, by rw [lcgN_add, show a + (b - a) = b by omega]⟩
  · exact ⟨m + 1 + b - a, by omega, by rw [lcgN_add, show a + (m + 1 + b - a) = m + 1 + b by omega, g.turn]⟩
theorem MaskG.run (g : MaskG m) (h : Int) {j : Nat} (jm : j ≤ m) : ∃ n ≤ m + 12, runI m (SetTable.bits h) n = j := by
  obtain ⟨k, km, e⟩ := g.from (runI_le m (SetTable.bits h) 12) jm
  exact ⟨12 + k, by omega, (runI_tail (bits_lt h) k).trans e⟩
theorem MaskG.step (g : MaskG m) (h : Int) {j : Nat} (jm : j ≤ m) : ∃ k, k < 10 * SetTable.turns m ∧ way m h k = j := by
  obtain ⟨n, nm, e⟩ := g.run h jm
  obtain ⟨k, km, f⟩ := run_nth m (SetTable.bits h) n
  refine ⟨k, by unfold SetTable.turns; omega, ?_⟩
  show (nth m (runAt m (SetTable.bits h % (m + 1)) (SetTable.bits h)) k).j = j
  rw [f]
  exact e
/-- a way stays within the table -/
theorem way_in (m : Nat) (h : Int) (k : Nat) : way m h k ≤ m := by
  have z : SetTable.bits h % (m + 1) ≤ m := Nat.le_of_lt_succ (Nat.mod_lt _ (Nat.succ_pos m))
  have r := runEnd_bd z
  have := nth_in k (runAt m (SetTable.bits h % (m + 1)) (SetTable.bits h)) (m := m) (by
    show SetTable.bits h % (m + 1) + (SetTable.runEnd m (SetTable.bits h % (m + 1)) - SetTable.bits h % (m + 1)) ≤ m
    omega)
  exact Nat.le_trans (Nat.le_add_right ..) this
end
/-- the i-th hash of hs stands at the i-th place, and no place ahead of it on its way is free -/
structure TabG (t : SetTable) (hs : List Int) : Prop where
  asc : Ris t.place.toList
  cl : t.dummies = #[]
  ln : t.place.size = hs.length
  mg : MaskG t.mask
  wi : ∀ x ∈ t.place.toList, x ≤ t.mask
  met : ∀ (i : Nat) (h : Int) (j : Nat), hs[i]? = some h → t.place.toList[i]? = some j → ∃ k, way t.mask h k = j ∧ ∀ q < k, way t.mask h q ∈ t.place.toList
section
variable {t : SetTable} {hs : List Int}
theorem TabG.free (T : TabG t hs) (few : hs.length ≤ t.mask) (h : Int) : ∃ N, N < 10 * SetTable.turns t.mask ∧ way t.mask h N ∉ t.place.toList ∧ ∀ q < N, way t.mask h q ∈ t.place.toList := by
  obtain ⟨j, jm, out⟩ := st_missing t.place.toList (t.mask + 1) (by rw [Array.length_toList, T.ln]; omega)
  obtain ⟨k, km, e⟩ := T.mg.step h (Nat.le_of_lt_succ jm)
  obtain ⟨N, le, no, all⟩ := st_least (p := fun k => way t.mask h k ∉ t.place.toList) k (e ▸ out)
  exact ⟨N, Nat.lt_of_le_of_lt le km, no, fun q hq => Classical.not_not.mp (all q hq)⟩
theorem TabG.ahead (T : TabG t hs) {h : Int} {N i j : Nat} (out : way t.mask h N ∉ t.place.toList) (hi : hs[i]? = some h) (hj : t.place.toList[i]? = some j) : ∃ c < N, way t.mask h c = j := by
  obtain ⟨c, e, full⟩ := T.met i h j hi hj
  refine ⟨c, Nat.lt_of_not_le fun le => out ?_, e⟩
  rcases Nat.lt_or_eq_of_le le with lt | rfl
  · exact full N lt
  · rw [e]
    exact List.mem_of_getElem? hj
theorem TabG.put (T : TabG t hs) {h : Int} {N : Nat} (out : way t.mask h N ∉ t.place.toList) (full : ∀ q < N, way t.mask h q ∈ t.place.toList) :
    let j := way t.mask h N
    let i := SetTable.below t.place j
    (t.put j).2 = i ∧ i ≤ hs.length ∧ TabG (t.put j).1 (hs.take i ++ h :: hs.drop i) ∧ (t.put j).1.mask = t.mask ∧ (t.put j).1.led = t.led ∧ (t.put j).1.fill = hs.length + 1 := by
  intro j i
  have ile : i ≤ t.place.toList.length := (below_cut T.asc j).1
  have sz : t.place.toList.length = hs.length := T.ln
  have new : t.place[i]? ≠ some j := fun e => out (List.mem_of_getElem? ((Array.getElem?_toList ..).trans e))
  have pl : (t.put j).1.place.toList = t.place.toList.take i ++ j :: t.place.toList.drop i := put_place t j
  have many : (t.put j).1.place.size = hs.length + 1 := (congrArg List.length pl).trans ((len_ins _ ile j).trans (by rw [sz]))
  have more : ∀ x ∈ t.place.toList, x ∈ (t.put j).1.place.toList := fun x hx => pl ▸ mem_ins.2 (.inr hx)
  have none : (t.put j).1.dummies = #[] := put_dm T.cl j
  have fills : (t.put j).1.fill = hs.length + 1 := by
    unfold SetTable.fill
    rw [none, many]
    rfl
  refine ⟨rfl, sz ▸ ile, ⟨ris_insert T.asc new, none, many.trans (len_ins hs (sz ▸ ile) h).symm, T.mg, fun x hx => ?_, fun r u v g1 g2 => ?_⟩, rfl, rfl, fills⟩
  · rw [pl] at hx
    rcases mem_ins.1 hx with rfl | hx
    · exact way_in ..
    · exact T.wi x hx
  · rw [tins_get hs (sz ▸ ile)] at g1
    rw [pl, tins_get _ ile] at g2
    have old : ∀ r', hs[r']? = some u → t.place.toList[r']? = some v → ∃ k, way t.mask u k = v ∧ ∀ q < k, way t.mask u q ∈ (t.put j).1.place.toList := fun r' g3 g4 => by
      obtain ⟨k, e, f⟩ := T.met r' u v g3 g4
      exact ⟨k, e, fun q hq => more _ (f q hq)⟩
    by_cases lt : r < i
    · rw [if_pos lt] at g1 g2
      exact old r g1 g2
    · rw [if_neg lt] at g1 g2
      by_cases e : r = i
      · rw [if_pos e] at g1 g2
        cases g1
        cases g2
        exact ⟨N, rfl, fun q hq => more _ (full q hq)⟩
      · rw [if_neg e] at g1 g2
        exact old (r - 1) g1 g2
theorem free_meets {m : Nat} (g : MaskG m) (owner : Array (Option Nat)) (h : Int) {j : Nat} (jm : j ≤ m) (free : oAt owner j = none) :
    ∃ N, SetTable.layClean.free m owner (SetTable.turns m) (SetTable.bits h % (m + 1)) (SetTable.bits h) = some (way m h N) ∧ oAt owner (way m h N) = none ∧ ∀ q < N, oAt owner (way m h q) ≠ none := by
  obtain ⟨n, nm, e⟩ := g.run h jm
  generalize ec : off m (SetTable.bits h % (m + 1)) (SetTable.bits h) n = c
  have wj : way m h c = j := by
    show (nth m _ c).j = j
    rw [← ec, nth_off, itL_run]
    exact e
  obtain ⟨N, le, no, all⟩ := st_least (p := fun k => oAt owner (way m h k) = none) c (by rw [wj]; exact free)
  refine ⟨N, free_spec m owner _ n _ _ N (by unfold SetTable.turns; omega) (ec ▸ le) (fun q hq => ?_) ?_, no, all⟩
  · cases z : oAt owner (nth m (runAt m (SetTable.bits h % (m + 1)) (SetTable.bits h)) q).j with
    | none => exact absurd z (all q hq)
    | some _ => rfl
  · show (oAt owner (way m h N)).isNone = true
    rw [no]
    rfl
theorem own_more {m : Nat} (g : MaskG m) {done : List Int} {owner : Array (Option Nat)} (W : Own m done owner) (few : done.length ≤ m) (h : Int) :
    ∃ j, SetTable.layClean.free m owner (SetTable.turns m) (SetTable.bits h % (m + 1)) (SetTable.bits h) = some j ∧ Own m (done ++ [h]) (owner.setIfInBounds j (some done.length)) := by
  obtain ⟨ps, pl, pin⟩ := W.ps
  obtain ⟨j0, lt, out⟩ := st_missing ps (m + 1) (by omega)
  obtain ⟨N, e, no, all⟩ := free_meets g owner h (Nat.le_of_lt_succ lt) (Classical.byContradiction fun z => out (pin j0 (Nat.le_of_lt_succ lt) z))
  generalize ej : way m h N = j at e no
  have jm : j ≤ m := ej ▸ way_in m h N
  have self : oAt (owner.setIfInBounds j (some done.length)) j = some done.length := oAt_set_self _ (by rw [W.sz]; omega)
  have other : ∀ i, i ≠ j → oAt (owner.setIfInBounds j (some done.length)) i = oAt owner i := fun i ne => oAt_set_ne _ ne
  have stays : ∀ i, oAt owner i ≠ none → oAt (owner.setIfInBounds j (some done.length)) i ≠ none := fun i hi => by
    rw [other i fun z => hi (z ▸ no)]
    exact hi
  refine ⟨j, e, (Array.size_setIfInBounds ..).trans W.sz, fun i k im ek => ?_, fun k hk => ?_, ⟨j :: ps, by rw [List.length_cons, List.length_append, pl]; rfl, fun i im hi => ?_⟩⟩
  · by_cases c : i = j
    · subst c
      rw [self] at ek
      cases ek
      exact ⟨h, N, by rw [List.getElem?_append_right (Nat.le_refl _), Nat.sub_self]; rfl, ej, fun q hq => stays _ (all q hq)⟩
    · obtain ⟨u, K, e1, e2, e3⟩ := W.at_ i k im ((other i c).symm.trans ek)
      exact ⟨u, K, by rw [List.getElem?_append_left (List.getElem?_eq_some_iff.mp e1).1]; exact e1, e2, fun q hq => stays _ (e3 q hq)⟩
  · rw [List.length_append, List.length_singleton] at hk
    rcases Nat.lt_or_eq_of_le (Nat.le_of_lt_succ hk) with lt2 | rfl
    · obtain ⟨i, im, ei⟩ := W.all k lt2
      exact ⟨i, im, (other i fun z => by rw [z, no] at ei; cases ei).trans ei⟩
    · exact ⟨j, jm, self⟩
  · by_cases c : i = j
    · exact c ▸ List.mem_cons_self ..
    · exact List.mem_cons_of_mem _ (pin i im ((other i c) ▸ hi))
theorem lay_all {m : Nat} (g : MaskG m) : ∀ (rest done : List Int) (owner : Array (Option Nat)), Own m done owner → done.length + rest.length ≤ m →
    ∃ o2, rest.foldl (stepF m) (some (owner, done.length)) = some (o2, done.length + rest.length) ∧ Own m (done ++ rest) o2
  | [], done, owner, W, _ => ⟨owner, rfl, by rwa [List.append_nil]⟩
  | h :: rest, done, owner, W, few => by
    have few2 : done.length + rest.length + 1 ≤ m := few
    obtain ⟨j, e, W2⟩ := own_more g W (by omega) h
    have l2 : (done ++ [h]).length = done.length + 1 := List.length_append
    obtain ⟨o2, f, W3⟩ := lay_all g rest (done ++ [h]) _ W2 (by omega)
    rw [l2] at f
    refine ⟨o2, ?_, by rwa [List.append_assoc] at W3⟩
    rw [List.foldl_cons, stepF_some e, f, List.length_cons]
    congr 2
    omega
theorem relay_all (t : SetTable) {hs : Array Int} {wanted M : Nat} (hw : SetTable.sizeAbove wanted - 1 = M) (g : MaskG M) (few : hs.size ≤ M) :
    ∃ t2 order, t.relaid hs wanted = some (t2, order) ∧ order.toList.Perm (List.range hs.size) ∧ TabG t2 (order.toList.map fun i => hs.getD i 0) ∧ t2.mask = M ∧ t2.led = t.led := by
  obtain ⟨owner, f, W⟩ := lay_all g hs.toList [] _ (Own.init M) (by rw [Array.length_toList]; show 0 + hs.size ≤ M; omega)
  have e1 : t.relaid hs wanted = some (tabOf t M owner, ((liveOf M owner).map (·.2)).toArray) := by
    rw [relaid_eq, hw, layClean_eq]
    rw [show ([] : List Int).length = 0 from rfl] at f
    rw [f]
    rfl
  have rl := ris_live (fun j => owner.getD j none) (List.range (M + 1)) (by
    unfold Ris
    first | exact List.pairwise_lt_range | exact List.pairwise_lt_range _)
  have asc : Ris ((liveOf M owner).map (·.1)) := rl.1
  have inM : ∀ x ∈ (liveOf M owner).map (·.1), x ≤ M := fun x hx => Nat.le_of_lt_succ (List.mem_range.mp (rl.2 x hx))
  have live : ∀ {j k : Nat}, (j, k) ∈ liveOf M owner ↔ j ≤ M ∧ oAt owner j = some k := mem_live W.sz
  have up : (liveOf M owner).length ≤ hs.size := by
    obtain ⟨ps, pl, pin⟩ := W.ps
    have nd1 : ((liveOf M owner).map (·.1)).Nodup := List.Pairwise.imp (fun {a b} (lt : a < b) => Nat.ne_of_lt lt) asc
    have := nat_nodup_len ((liveOf M owner).map (·.1)) ps nd1 fun x hx => by
      obtain ⟨⟨y, k⟩, hq, rfl⟩ := List.mem_map.mp hx
      obtain ⟨b1, b2⟩ := live.1 hq
      exact pin y b1 (by rw [b2]; exact fun z => nomatch z)
    rwa [List.length_map, pl] at this
  have down : ∀ k < hs.size, k ∈ (liveOf M owner).map (·.2) := fun k hk => by
    obtain ⟨j, b1, b2⟩ := W.all k hk
    exact List.mem_map.mpr ⟨(j, k), live.2 ⟨b1, b2⟩, rfl⟩
  have len : (liveOf M owner).length = hs.size := by
    have := nat_nodup_len (List.range hs.size) ((liveOf M owner).map (·.2)) List.nodup_range fun k hk => down k (List.mem_range.mp hk)
    rw [List.length_range, List.length_map] at this
    omega
  refine ⟨_, _, e1, perm_range hs.size _ (by rw [List.length_map]; exact len) down, ⟨asc, rfl, ?_, g, inM, fun i h j g1 g2 => ?_⟩, rfl, rfl⟩
  · show ((liveOf M owner).map (·.1)).toArray.size = _
    simp
  · have g1' : (((liveOf M owner).map (·.2)).map fun i => hs.getD i 0)[i]? = some h := g1
    have g2' : ((liveOf M owner).map (·.1))[i]? = some j := g2
    rw [List.getElem?_map, List.getElem?_map] at g1'
    rw [List.getElem?_map] at g2'
    cases eq : (liveOf M owner)[i]? with
    | none =>
      rw [eq] at g2'
      cases g2'
    | some q =>
      obtain ⟨y, k⟩ := q
      rw [eq] at g1' g2'
      cases g2'
      obtain ⟨b1, b2⟩ := live.1 (List.mem_of_getElem? eq)
      obtain ⟨u, K, c1, c2, c3⟩ := W.at_ _ k b1 b2
      have eu : h = u := by
        cases g1'
        show hs.getD k 0 = u
        rw [Array.getD_eq_getD_getElem?, ← Array.getElem?_toList]
        rw [List.nil_append] at c1
        rw [c1]
        rfl
      subst eu
      refine ⟨K, c2, fun q hq => List.mem_map.mpr ?_⟩
      cases z : oAt owner (way M h q) with
      | none => exact absurd z (c3 q hq)
      | some x => exact ⟨(way M h q, x), live.2 ⟨way_in .., z⟩, rfl⟩
end
end Fb
set_option Elab.async false
set_option linter.all false
set_option maxRecDepth 100000
set_option maxHeartbeats 4000000
namespace Fb
open PySem PySem.Spec L2
open PyProof.Rows hiding St
section
variable {P : Program} {w : World} {A : Around} {E : Value → Shared → Prop} {s : Shared}
theorem key_mem {h : Heap} : ∀ {ks : List NestedKey} {vs : List Value}, NestedAll h ks vs → ∀ v ∈ vs, ∃ k, NestedIs h k v ∧ k.depth ≤ NestedKey.depthAll ks
  | [], _, .nil, v, m => nomatch m
  | k :: ks, _, .cons a b, v, m => by
    rw [NestedKey.depthAll]
    rcases List.mem_cons.mp m with rfl | m
    · exact ⟨k, a, Nat.le_max_left ..⟩
    · obtain ⟨k', x, d⟩ := key_mem b v m
      exact ⟨k', x, Nat.le_trans d (Nat.le_max_right ..)⟩
/-- no key is an object of a class statement -/
theorem key_class : ∀ (n : Nat) (k : NestedKey) (v : Value) {Q : Bool → Shared → Prop}, NestedIs s.heap k v → k.depth ≤ n → Q false s → wpAny (model P w) A (ofAClassStatement n v) Q E s
  | n, .none, _, Q, x, _, q => by
    cases x
    cases n <;> exact wpAny_pure q
  | n, .num i, _, Q, x, _, q => by
    cases x <;> cases n <;> exact wpAny_pure q
  | n, .text y, _, Q, x, _, q => by
    cases x
    cases n <;> exact wpAny_pure q
  | 0, .tup ks, _, Q, x, d, q => by
    rw [NestedKey.depth] at d
    omega
  | n + 1, .tup ks, _, Q, x, d, q => by
    rw [NestedKey.depth] at d
    cases x with
    | @tup b o vs m _ ho hc hd hk =>
      have mem := key_mem hk
      unfold ofAClassStatement
      refine wpAny_bind (wpAny_typeOf ⟨o, ho, hc⟩ ?_)
      dsimp only
      rw [if_pos (beq_self_eq_true _)]
      refine wpAny_bind (wpAny_pure ?_)
      simp only [Bool.not_true, Bool.false_eq_true, if_false]
      show wpAny _ _ (seqItems? (.ref b) >>= _) _ _ s
      refine wpAny_bind (wpAny_seqItems ho hd ?_)
      dsimp only
      refine wpAny_bind ?_
      show wpAny _ _ (forIn vs _ _) _ _ s
      rw [← Array.forIn_toList]
      refine wpAny_forIn_list _ (fun left r s1 => r.1 = none ∧ s = s1 ∧ ∀ v ∈ left, v ∈ vs.toList) _ ?_ ?_ _ _ ⟨rfl, rfl, fun _ m => m⟩
      · rintro v left r s1 ⟨e, rfl, al⟩
        obtain ⟨k, xk, dk⟩ := mem v (al v (List.mem_cons_self ..))
        refine wpAny_bind (key_class n k v xk (by omega) ?_)
        simp only [Bool.false_eq_true, if_false]
        exact wpAny_pure ⟨rfl, rfl, fun u m => al u (List.mem_cons_of_mem _ m)⟩
      · rintro ⟨r1, r2⟩ s1 ⟨e, rfl, _⟩
        cases e
        exact wpAny_pure q
/-- whether a key's hash is one by value: either -/
theorem key_byValue : ∀ (n : Nat) (k : NestedKey) (v : Value) {Q : Bool → Shared → Prop}, NestedIs s.heap k v → (∀ b, Q b s) → wpAny (model P w) A (hashByValue n v) Q E s
  | n, .none, _, Q, x, q => by
    cases x
    cases n <;> exact wpAny_pure (q _)
  | n, .num i, _, Q, x, q => by
    cases x <;> cases n <;> exact wpAny_pure (q _)
  | n, .text y, _, Q, x, q => by
    cases x
    cases n <;> exact wpAny_pure (q _)
  | 0, .tup ks, _, Q, x, q => by
    cases x
    exact wpAny_pure (q _)
  | n + 1, .tup ks, _, Q, x, q => by
    cases x with
    | @tup b o vs m _ ho hc hd hk =>
      have mem := key_mem hk
      unfold hashByValue
      refine wpAny_bind (wpAny_specialOf ⟨o, ho, hc⟩ F.slot_tuple_hash.lookup ?_)
      show wpAny _ _ (seqItems? (.ref b) >>= _) _ _ s
      refine wpAny_bind (wpAny_seqItems ho hd ?_)
      refine wpAny_bind ?_
      show wpAny _ _ (forIn vs _ _) _ _ s
      rw [← Array.forIn_toList]
      refine wpAny_forIn_list _ (fun left r s1 => r.1 = none ∧ s = s1 ∧ ∀ v ∈ left, v ∈ vs.toList) _ ?_ ?_ _ _ ⟨rfl, rfl, fun _ m => m⟩
      · rintro v left r s1 ⟨e, rfl, al⟩
        obtain ⟨k, xk, dk⟩ := mem v (al v (List.mem_cons_self ..))
        refine wpAny_bind (key_byValue n k v xk fun c => ?_)
        cases c
        · simp only [Bool.not_false, if_true]
          exact wpAny_pure (wpAny_pure (q _))
        · simp only [Bool.not_true, Bool.false_eq_true, if_false]
          exact wpAny_pure ⟨rfl, rfl, fun u m => al u (List.mem_cons_of_mem _ m)⟩
      · rintro ⟨r1, r2⟩ s1 ⟨e, rfl, _⟩
        cases e
        exact wpAny_pure (q _)
/-- an address and the key that stands there -/
abbrev Ent := Addr × NestedKey
def rowK (w : World) (p : Ent) : Int × Value := (p.2.hash w, .ref p.1)
def KeyE (h : Heap) (p : Ent) : Prop := NestedIs h p.2 (.ref p.1) ∧ p.2.depth ≤ 8
theorem KeyE.keep {h h' : Heap} {p : Ent} (x : KeyE h p) (k : ∀ b o, h.get? b = some o → h'.get? b = some o) : KeyE h' p := ⟨x.1.at (fun b o _ _ e _ => k b o e), x.2⟩
theorem KeyE.but {h h' : Heap} {p : Ent} {a : Addr} {o : Obj} {es : Array (Int × Value)} {ep : Nat} {t : SetTable} (x : KeyE h p) (ho : h.get? a = some o) (hd : o.data = .set es ep t) (sb : Heap.SameBut a h h') : KeyE h' p :=
  ⟨x.1.at (fun b u vs n e d => (sb.2 b (by
    rintro rfl
    rw [ho] at e
    cases e
    rw [hd] at d
    cases d)).trans e), x.2⟩
theorem KeyE.inj {h : Heap} {p q : Ent} (x : KeyE h p) (y : KeyE h q) (e : p.1 = q.1) : p = q := by
  obtain ⟨a, k⟩ := p
  obtain ⟨b, l⟩ := q
  cases (show a = b from e)
  rw [show k = l from NestedIs.inj _ _ _ x.1 y.1]
theorem KeyE.eq {x y : Ent} {Q : Bool → Shared → Prop} (hu : A.units + 8 < cLine) (hx : KeyE s.heap x) (hy : KeyE s.heap y) (q : Q (decide (x.2 = y.2)) s) : wpAny (model P w) A (eqBool (.ref x.1) (.ref y.1)) Q E s :=
  (nestedKind P w).eqBool hu hx hy q
theorem KeyE.quiet {x : Ent} {Q : Bool → Shared → Prop} (hx : KeyE s.heap x) (q : Q true s) : wpAny (model P w) A (eqIsQuiet 8 (.ref x.1)) Q E s := (nestedKind P w).quiet hx q
/-- a look among keys shows nothing -/
theorem key_unseen {x : Ent} {Q : Bool → Shared → Prop} (hx : KeyE s.heap x) {ys : List Value} (hy : ∀ y ∈ ys, ∃ p, y = Value.ref p.1 ∧ KeyE s.heap p) (q : Q false s) : wpAny (model P w) A (searchCouldBeSeen (.ref x.1) ys) Q E s := by
  unfold searchCouldBeSeen
  refine wpAny_bind ?_
  refine wpAny_forIn_list _ (fun left r s1 => r.1 = none ∧ s = s1 ∧ ∀ y ∈ left, y ∈ ys) _ ?_ ?_ _ _ ⟨rfl, rfl, fun _ m => m⟩
  · rintro y left r s1 ⟨e, rfl, al⟩
    obtain ⟨p, rfl, xp⟩ := hy y (al y (List.mem_cons_self ..))
    have al2 : ∀ z ∈ left, z ∈ ys := fun z m => al z (List.mem_cons_of_mem _ m)
    dsimp only
    by_cases very : (x.1 == p.1 || (carriedByValue (.ref x.1) && carriedByValue (.ref p.1))) = true
    · exact wp_if_pos very (wpAny_pure ⟨rfl, rfl, al2⟩)
    · refine wp_if_neg very ?_
      refine wpAny_bind (hx.quiet ?_)
      simp only [Bool.not_true, Bool.false_eq_true, if_false]
      refine wpAny_bind (xp.quiet ?_)
      simp only [Bool.not_true, Bool.false_eq_true, if_false]
      refine wpAny_bind (key_class 8 _ _ hx.1 hx.2 ?_)
      simp only [Bool.false_eq_true, if_false]
      refine wpAny_bind (key_class 8 _ _ xp.1 xp.2 ?_)
      simp only [Bool.false_eq_true, if_false]
      exact wpAny_pure ⟨rfl, rfl, al2⟩
  · rintro ⟨r1, r2⟩ s1 ⟨e, rfl, _⟩
    cases e
    exact wpAny_pure q
structure SetK (w : World) (h : Heap) (a : Addr) (L : List Ent) (es : Array (Int × Value)) (ep : Nat) (t : SetTable) : Prop where
  ob : ∃ o, h.get? a = some o ∧ o.ExactSet ∧ o.data = .set es ep t
  rows : es.toList = L.map (rowK w)
  tab : TabG t (L.map fun p => p.2.hash w)
  nd : (L.map Prod.snd).Nodup
  led : w.params.followText "set-order" = true ∨ t.led = true
  room : L.length * 5 < t.mask * 3
  few : L.length < 4000
variable {a : Addr} {L : List Ent} {es : Array (Int × Value)} {ep : Nat} {t : SetTable}
theorem rows_size (e : es.toList = L.map (rowK w)) : es.size = L.length := by
  rw [← Array.length_toList, e, List.length_map]
theorem tab_fits (e : es.toList = L.map (rowK w)) (T : t.place.size = L.length) (d : t.dummies = #[]) (m : L.length ≤ t.mask) : t.fits es.size = true := by
  have z := rows_size e
  unfold SetTable.fits SetTable.fill
  rw [d, Bool.and_eq_true]
  refine ⟨beq_iff_eq.mpr (T.trans z.symm), decide_eq_true ?_⟩
  show t.place.size + 0 ≤ t.mask
  omega
theorem SetK.places (R : SetK w s.heap a L es ep t) : t.place.size = L.length := by
  have := R.tab.ln
  rwa [List.length_map] at this
theorem SetK.fits (R : SetK w s.heap a L es ep t) : t.fits es.size = true :=
  tab_fits R.rows R.places R.tab.cl (by have := R.room; omega)
theorem SetK.whole (R : SetK w s.heap a L es ep t) : ¬ t.gaveWay = true := by
  rw [SetTable.gaveWay, R.tab.mg.odd]
  exact Bool.false_ne_true
theorem SetK.entry (R : SetK w s.heap a L es ep t) {i : Nat} {p : Ent} (e : L[i]? = some p) : es[i]? = some (rowK w p) := by
  rw [← Array.getElem?_toList, R.rows, List.getElem?_map, e]
  rfl
/-- the c-th step of a hash's way -/
abbrev stpK (m : Nat) (h : Int) (c : Nat) : SetTable.Probe := nth m (runAt m (SetTable.bits h % (m + 1)) (SetTable.bits h)) c
theorem stp_add (m : Nat) (h : Int) (c q : Nat) : nth m (stpK m h c) q = stpK m h (c + q) := (nth_add m c _ q).symm
theorem stp_clean (m : Nat) (h : Int) : ∀ c, (stpK m h c).dummy = none
  | 0 => rfl
  | c + 1 => by
    rw [stpK, nth_succ]
    have := stp_clean m h c
    unfold adv
    split <;> exact this
/-- the search for a key that is to be added, from the c-th step of its way on -/
theorem seek (R : SetK w s.heap a L es ep t) (kk : ∀ p ∈ L, KeyE s.heap p) {x : Ent} (hx : KeyE s.heap x) (hu : A.units + 8 < cLine) {N : Nat} (nf : N < 10 * SetTable.turns t.mask)
    (free : (stpK t.mask (x.2.hash w) N).j ∉ t.place.toList) (full : ∀ c, c < N → (stpK t.mask (x.2.hash w) c).j ∈ t.place.toList) {Q : SetFound → Shared → Prop}
    (there : x.2 ∈ L.map Prod.snd → Q (.there none) s) (new : x.2 ∉ L.map Prod.snd → Q (.free (stpK t.mask (x.2.hash w) N).j false) s) :
    ∀ (f c : Nat) (stand : Option SetTable.Probe), N < c + f → c ≤ N → stand.getD (t.probeStart (x.2.hash w)) = stpK t.mask (x.2.hash w) c →
      (∀ (i : Nat) (p : Ent), L[i]? = some p → p.2 = x.2 → ∃ c', c ≤ c' ∧ c' < N ∧ t.place.toList[i]? = some (stpK t.mask (x.2.hash w) c').j) →
      wpAny (model P w) A (setSearchFrom a (.ref x.1) (x.2.hash w) true f stand) Q E s := by
  intro f
  induction f with
  | zero =>
    intro c stand h1 h2
    omega
  | succ f ih =>
    intro c stand hf hc hst ahead
    obtain ⟨o, ho, ex, hd⟩ := R.ob
    generalize hh : x.2.hash w = h at *
    have at0 : ∀ (i : Nat) (p : Ent), L[i]? = some p → ((es[i]?).map (·.1)).getD 0 = p.2.hash w := fun i p e => by
      rw [R.entry e]
      rfl
    have step : ∀ q, (nth t.mask (stpK t.mask h c) q).j = (stpK t.mask h (c + q)).j := fun q => congrArg SetTable.Probe.j (stp_add ..)
    have sp := go_spec t R.tab.asc R.tab.cl (fun i => ((es[i]?).map (·.1)).getD 0) h (10 * SetTable.turns t.mask) (N - c) (stpK t.mask h c) (stp_clean ..) (by omega)
      (fun q hq => by rw [step]; exact full _ (by omega)) (by rw [step, show c + (N - c) = N by omega]; exact free)
    rw [setSearchFrom_succ]
    refine wpAny_bind (wpAny_setState_of ho hd R.fits ?_)
    dsimp only
    refine wp_if_neg R.whole ?_
    rcases sp with ⟨q, i, hq, hi, hash, before, go⟩ | ⟨before, go⟩
    · have go' : t.probe (fun i => ((es[i]?).map (·.1)).getD 0) h (stand.getD (t.probeStart h)) = some (.candidate (stpK t.mask h (c + q)).j i (stpK t.mask h (c + (q + 1)))) := by
        rw [hst, ← stp_add, ← stp_add]
        exact go
      rw [step] at hi
      rw [go']
      dsimp only
      have il : i < L.length := by
        have h1 := (List.getElem?_eq_some_iff.mp hi).1
        rw [Array.length_toList, R.places] at h1
        exact h1
      obtain ⟨p, hp⟩ : ∃ p, L[i]? = some p := ⟨_, List.getElem?_eq_getElem il⟩
      have pm := List.mem_of_getElem? hp
      have on : wpAny (model P w) A (searchRest a (.ref x.1) h true f es t (stpK t.mask h (c + q)).j i (stpK t.mask h (c + (q + 1)))) Q E s := by
        unfold searchRest
        rw [R.entry hp]
        dsimp only [rowK]
        refine wpAny_bind (wpAny_holding ((kk p pm).eq hu hx ?_))
        refine wpAny_bind (wpAny_setState_of ho hd R.fits ?_)
        dsimp only
        by_cases same : p.2 = x.2
        · refine wp_if_pos (by simp [same]) (wpAny_pure (there ?_))
          exact same ▸ List.mem_map_of_mem pm
        · have lv : t.slot (stpK t.mask h (c + q)).j = .live i := slot_live R.tab.asc hi
          refine wp_if_neg (by simp [same]) ?_
          rw [sameMem]
          dsimp only
          simp only [if_true, lv, R.entry hp]
          dsimp only [rowK]
          refine wpAny_bind (wpAny_isSame_ref_self (wpAny_bind (wpAny_pure ?_)))
          simp only [if_true]
          refine wp_if_neg (by simp [same]) ?_
          refine ih (c + (q + 1)) _ (by omega) (by omega) rfl fun i0 p0 e0 s0 => ?_
          obtain ⟨c', l1, l2, l3⟩ := ahead i0 p0 e0 s0
          refine ⟨c', ?_, l2, l3⟩
          rcases Nat.lt_trichotomy c' (c + q) with z | z | z
          · refine absurd ?_ (before (c' - c) i0 (by omega) (by rw [step, show c + (c' - c) = c' by omega]; exact l3))
            exact (at0 i0 p0 e0).trans ((congrArg (NestedKey.hash w) s0).trans hh)
          · subst z
            have lv2 := slot_live R.tab.asc l3
            rw [lv] at lv2
            cases lv2
            rw [hp] at e0
            cases e0
            exact absurd s0 same
          · omega
      by_cases led : t.led = true
      · exact wp_if_neg (by simp [led]) on
      · refine wp_if_pos (by simp [led]) ?_
        refine wpAny_bind (key_unseen hx (fun y hy => ?_) ?_)
        · obtain ⟨e, me, rfl⟩ := List.mem_map.mp hy
          have me2 : e ∈ es.toList := by
            have := (Array.mem_filter.mp (Array.mem_toList_iff.mp me)).1
            exact Array.mem_toList_iff.mpr this
          rw [R.rows] at me2
          obtain ⟨p2, m2, rfl⟩ := List.mem_map.mp me2
          exact ⟨p2, rfl, kk p2 m2⟩
        · exact wp_if_neg Bool.false_ne_true on
    · have go' : t.probe (fun i => ((es[i]?).map (·.1)).getD 0) h (stand.getD (t.probeStart h)) = some (.empty (stpK t.mask h N).j none) := by
        have e := step (N - c)
        rw [show c + (N - c) = N by omega] at e
        rw [hst, ← e]
        exact go
      rw [go']
      dsimp only
      refine wpAny_pure (new fun m => ?_)
      obtain ⟨p0, m0, s0⟩ := List.mem_map.mp m
      obtain ⟨i0, e0⟩ := List.getElem?_of_mem m0
      obtain ⟨c', l1, l2, l3⟩ := ahead i0 p0 e0 s0
      refine absurd ?_ (before (c' - c) i0 (by omega) (by rw [step, show c + (c' - c) = c' by omega]; exact l3))
      exact (at0 i0 p0 e0).trans ((congrArg (NestedKey.hash w) s0).trans hh)
theorem seek_new (R : SetK w s.heap a L es ep t) (kk : ∀ p ∈ L, KeyE s.heap p) {x : Ent} (hx : KeyE s.heap x) (hu : A.units + 8 < cLine) {Q : SetFound → Shared → Prop} (there : x.2 ∈ L.map Prod.snd → Q (.there none) s)
    (new : ∀ N, x.2 ∉ L.map Prod.snd → (stpK t.mask (x.2.hash w) N).j ∉ t.place.toList → (∀ c, c < N → (stpK t.mask (x.2.hash w) c).j ∈ t.place.toList) → Q (.free (stpK t.mask (x.2.hash w) N).j false) s) :
    wpAny (model P w) A (setSearch a (.ref x.1) (x.2.hash w) true) Q E s := by
  have room := R.room
  obtain ⟨N, nf, free, full⟩ := R.tab.free (by rw [List.length_map]; omega) (x.2.hash w)
  have small : 10 * SetTable.turns t.mask ≤ 90000 := by
    have := R.tab.mg.big
    unfold SetTable.turns
    omega
  unfold setSearch
  refine seek R kk hx hu nf free full there (fun n => new N n free full) 100000 0 none (by omega) (Nat.zero_le _) rfl fun i p hp hk => ?_
  have il : i < t.place.toList.length := by
    rw [Array.length_toList, R.places]
    exact (List.getElem?_eq_some_iff.mp hp).1
  obtain ⟨c, lt, e⟩ := R.tab.ahead (h := x.2.hash w) free (by rw [List.getElem?_map, hp, ← hk]; rfl) (List.getElem?_eq_getElem il)
  exact ⟨c, Nat.zero_le _, lt, by rw [List.getElem?_eq_getElem il, ← e]⟩
theorem range_pick {α : Type} : ∀ L : List α, (List.range L.length).filterMap (fun i => L[i]?) = L
  | [] => rfl
  | x :: L => by
    rw [List.length_cons, List.range_succ_eq_map, List.filterMap_cons_some (show (fun i => (x :: L)[i]?) 0 = some x from rfl), List.filterMap_map]
    exact congrArg (x :: ·) (range_pick L)
theorem pick_rows {α : Type} (f : α → Int × Value) (L : List α) (es : Array (Int × Value)) (order : Array Nat) (hr : es.toList = L.map f) (hp : order.toList.Perm (List.range L.length)) :
    ∃ M : List α, (order.filterMap fun i => es[i]?).toList = M.map f ∧ M.Perm L ∧ (M.map fun p => (f p).1) = order.toList.map fun i => (es.map (·.1)).getD i 0 := by
  have look : ∀ i, es[i]? = (L[i]?).map f := fun i => by rw [← Array.getElem?_toList, hr, List.getElem?_map]
  refine ⟨order.toList.filterMap fun i => L[i]?, ?_, ?_, ?_⟩
  · rw [Array.toList_filterMap, List.map_filterMap]
    exact congrArg (List.filterMap · _) (funext look)
  · have := hp.filterMap fun i => L[i]?
    rwa [range_pick] at this
  · have low : ∀ i ∈ order.toList, i < L.length := fun i m => List.mem_range.mp (hp.mem_iff.mp m)
    generalize order.toList = l at low
    induction l with
    | nil => rfl
    | cons i l ih =>
      have hi := low i (List.mem_cons_self ..)
      rw [List.filterMap_cons_some (List.getElem?_eq_getElem hi), List.map_cons, List.map_cons, ih fun j m => low j (List.mem_cons_of_mem _ m)]
      congr 1
      rw [Array.getD_eq_getD_getElem?, Array.getElem?_map, look, List.getElem?_eq_getElem hi]
      rfl
theorem relay_K {o : Obj} (ho : s.heap.get? a = some o) (ex : o.ExactSet) (hd : o.data = .set es ep t) (rows : es.toList = L.map (rowK w)) (pl : t.place.size = L.length) (dm : t.dummies = #[]) (le : L.length ≤ t.mask) (nd : (L.map Prod.snd).Nodup)
    (led : w.params.followText "set-order" = true ∨ t.led = true) (few : L.length < 4000) {wanted M : Nat} (hw : SetTable.sizeAbove wanted - 1 = M) (hM : MaskG M) (h128 : SetTable.sizeAbove wanted ≤ 8192) (room : L.length * 5 < M * 3) {Q : Unit → Shared → Prop}
    (q : ∀ h' L' es' ep' t', Heap.SameBut a s.heap h' → SetK w h' a L' es' ep' t' → L'.Perm L → Q () { s with heap := h' }) : wpAny (model P w) A (setRelay a wanted) Q E s := by
  have z := rows_size rows
  obtain ⟨t2, order, et, hp, T2, em, el⟩ := relay_all t (hs := es.map (·.1)) (wanted := wanted) hw hM (by rw [Array.size_map, z]; omega)
  rw [Array.size_map, z] at hp
  obtain ⟨L2, r1, r2, r3⟩ := pick_rows (rowK w) L es order rows hp
  rw [← r3] at T2
  have z2 : (order.filterMap fun i => es[i]?).size = es.size := by rw [rows_size r1, r2.length_eq, z]
  rw [setRelay_eq]
  refine wpAny_bind (wpAny_setState_of ho hd (tab_fits rows pl dm le) ?_)
  dsimp only
  refine wp_if_neg (by rw [sizeLine_eq]; omega) ?_
  rw [et]
  dsimp only
  refine wpAny_bind ?_
  refine wp_if_neg (by rw [z2]; simp) ?_
  refine wpAny_pure ?_
  dsimp only
  refine wpAny_storeSet_of ho hd ?_ (by rw [z2, z, sizeLine_eq]; omega)
  refine q _ L2 (order.filterMap fun i => es[i]?) (ep + 1) t2 (Heap.SameBut.update ..) ?_ r2
  exact ⟨⟨_, store_at ho hd, ⟨ex.1, ex.2.1, ex.2.2⟩, rfl⟩, r1, T2, (r2.map Prod.snd).nodup_iff.mpr nd, by rw [el]; exact led, by rw [r2.length_eq, em]; exact room, by rw [r2.length_eq]; exact few⟩
theorem add_K (R : SetK w s.heap a L es ep t) (kk : ∀ p ∈ L, KeyE s.heap p) {x : Ent} (hx : KeyE s.heap x) (hu : A.units + 8 < cLine) (few : L.length + 1 < 4000) {Q : Bool → Shared → Prop}
    (q : ∀ b h' L' es' ep' t', Heap.SameBut a s.heap h' → SetK w h' a L' es' ep' t' → (x.2 ∈ L.map Prod.snd → L' = L) → (x.2 ∉ L.map Prod.snd → L'.Perm (x :: L)) → Q b { s with heap := h' }) :
    wpAny (model P w) A (setAddHashed a (.ref x.1) (x.2.hash w)) Q E s := by
  obtain ⟨o, ho, ex, hd⟩ := R.ob
  have z := rows_size R.rows
  have room := R.room
  unfold setAddHashed
  refine wpAny_holding ?_
  rw [show (100000 : Nat) = 99999 + 1 from rfl, setAddHashedIn_succ]
  refine wpAny_bind (wpAny_setState_of ho hd R.fits ?_)
  dsimp only
  refine wp_if_neg (by simp [byScan, Value.scannable]) ?_
  refine wpAny_bind (seek_new R kk hx hu (fun m => ?_) fun N nm free full => ?_)
  · dsimp only
    exact wpAny_pure (q false s.heap L es ep t (Heap.SameBut.refl a s.heap) R (fun _ => rfl) fun n => absurd m n)
  · dsimp only
    refine wpAny_bind (wpAny_setState_of ho hd R.fits ?_)
    dsimp only
    obtain ⟨e2, le, T1, em, el, fill⟩ := R.tab.put (N := N) free full
    generalize ej : (stpK t.mask (x.2.hash w) N).j = j at *
    rw [show way t.mask (x.2.hash w) N = j from ej] at e2 le T1 em el fill
    generalize ept : t.put j = pt at e2 T1 em el fill
    obtain ⟨t1, i⟩ := pt
    dsimp only at e2 T1 em el fill ⊢
    rw [← e2] at T1 le
    have z1 : i ≤ L.length := by
      rw [List.length_map] at le
      exact le
    have ins : (SetTable.insertAt es i (x.2.hash w, Value.ref x.1)).toList = (L.take i ++ x :: L.drop i).map (rowK w) := by
      rw [SetTable.toList_insertAt, R.rows, List.map_append, List.map_cons, List.map_take, List.map_drop]
      rfl
    have pm : (L.take i ++ x :: L.drop i).Perm (x :: L) := put_perm L i x
    have T1' : TabG t1 ((L.take i ++ x :: L.drop i).map fun p => p.2.hash w) := by
      rw [List.map_append, List.map_cons, List.map_take, List.map_drop]
      exact T1
    generalize SetTable.insertAt es i (x.2.hash w, Value.ref x.1) = es1 at ins ⊢
    generalize L.take i ++ x :: L.drop i = L1 at ins pm T1'
    have len1 : L1.length = L.length + 1 := pm.length_eq
    have nd1 : (L1.map Prod.snd).Nodup := (pm.map Prod.snd).nodup_iff.mpr (List.nodup_cons.mpr ⟨nm, R.nd⟩)
    have ze : es1.size = L.length + 1 := (rows_size ins).trans len1
    -- either answer of hashByValue
    have on : ∀ t3 : SetTable, t3.place = t1.place → t3.dummies = t1.dummies → t3.mask = t1.mask → t3.led = t1.led → t3.tooFull = t1.tooFull → TabG t3 (L1.map fun p => p.2.hash w) →
        wpAny (model P w) A (do
          storeSet a es1 t3
          if !false && t3.tooFull then setRelay a (SetTable.grown (es.size + 1))
          return true) Q E s := by
      intro t3 e1 e2 e3 e4 e5 T3
      refine wpAny_bind (wpAny_storeSet_of ho hd ?_ (by rw [ze, sizeLine_eq]; omega))
      have sb : Heap.SameBut a s.heap (s.heap.update a (Obj.putSet es1 t3)) := Heap.SameBut.update ..
      have ho1 := store_at (es' := es1) (t' := t3) ho hd
      generalize s.heap.update a (Obj.putSet es1 t3) = h1 at sb ho1 ⊢
      have led1 : w.params.followText "set-order" = true ∨ t3.led = true := by
        rw [e4, el]
        exact R.led
      by_cases tf : t3.tooFull = true
      · have tf2 : (L.length + 1) * 5 ≥ t.mask * 3 := by
          have h := tf
          rw [e5] at h
          unfold SetTable.tooFull at h
          rw [decide_eq_true_eq, fill, List.length_map, em] at h
          exact h
        have pl1 : t3.place.size = L1.length := by
          have := T3.ln
          rwa [List.length_map] at this
        have two : (t.mask = 7 ∧ L.length = 4) ∨ (t.mask = 31 ∧ L.length = 18) ∨ (t.mask = 127 ∧ L.length = 76) ∨ (t.mask = 511 ∧ L.length = 306) ∨ (t.mask = 2047 ∧ L.length = 1228) := by
          rcases R.tab.mg.six with e | e | e | e | e | e
          · exact .inl ⟨e, by rw [e] at tf2 room; omega⟩
          · exact .inr (.inl ⟨e, by rw [e] at tf2 room; omega⟩)
          · exact .inr (.inr (.inl ⟨e, by rw [e] at tf2 room; omega⟩))
          · exact .inr (.inr (.inr (.inl ⟨e, by rw [e] at tf2 room; omega⟩)))
          · exact .inr (.inr (.inr (.inr ⟨e, by rw [e] at tf2 room; omega⟩)))
          · rw [e] at tf2
            omega
        have go : ∀ M, SetTable.sizeAbove (SetTable.grown (L.length + 1)) - 1 = M → MaskG M → SetTable.sizeAbove (SetTable.grown (L.length + 1)) ≤ 8192 → (L.length + 1) * 5 < M * 3 →
            wpAny (model P w) A (setRelay a (SetTable.grown (L.length + 1))) (fun _ s' => wpAny (model P w) A (pure true) Q E s') E { s with heap := h1 } := fun M g1 g2 g3 g4 =>
          relay_K (s := { s with heap := h1 }) ho1 ⟨ex.1, ex.2.1, ex.2.2⟩ rfl ins pl1 T3.cl (by rw [len1, e3, em]; omega) nd1 led1 (by omega) g1 g2 g3 (by rw [len1]; exact g4)
            fun h2 L2 es2 ep2 t4 sb2 R2 pm2 => wpAny_pure (q true h2 L2 es2 ep2 t4 (sb.trans sb2) R2 (fun m => absurd m nm) fun _ => pm2.trans pm)
        rw [z]
        refine wp_if_pos (by simp [tf]) (wpAny_bind ?_)
        rcases two with ⟨_, e⟩ | ⟨_, e⟩ | ⟨_, e⟩ | ⟨_, e⟩ | ⟨_, e⟩
        · exact go 31 (by rw [e]; decide +kernel) mg31 (by rw [e]; decide +kernel) (by omega)
        · exact go 127 (by rw [e]; decide +kernel) mg127 (by rw [e]; decide +kernel) (by omega)
        · exact go 511 (by rw [e]; decide +kernel) mg511 (by rw [e]; decide +kernel) (by omega)
        · exact go 2047 (by rw [e]; decide +kernel) mg2047 (by rw [e]; decide +kernel) (by omega)
        · exact go 8191 (by rw [e]; decide +kernel) mg8191 (by rw [e]; decide +kernel) (by omega)
      · refine wp_if_neg (by simp [tf]) ?_
        refine wpAny_pure (q true h1 L1 es1 (ep + 1) t3 sb ⟨⟨_, ho1, ⟨ex.1, ex.2.1, ex.2.2⟩, rfl⟩, ins, T3, nd1, led1, ?_, by omega⟩ (fun m => absurd m nm) fun _ => pm)
        have h := tf
        rw [e5] at h
        unfold SetTable.tooFull at h
        rw [decide_eq_true_eq, fill, List.length_map] at h
        rw [len1, e3]
        omega
    have on1 := on t1 rfl rfl rfl rfl rfl T1'
    have on2 := on { t1 with plain := false } rfl rfl rfl rfl rfl ⟨T1'.asc, T1'.cl, T1'.ln, T1'.mg, T1'.wi, T1'.met⟩
    by_cases pl : t1.plain = true
    · refine wp_if_pos pl (wpAny_bind (key_byValue 8 _ _ hx.1 fun b => ?_))
      cases b
      · exact on2
      · exact on1
    · refine wp_if_neg pl ?_
      exact on1
/-- what the set has behind the first i items -/
def Took (ks : List Ent) (i : Nat) (L : List Ent) : Prop := (∀ p ∈ L, p ∈ ks.take i) ∧ (∀ p ∈ ks.take i, p.2 ∈ L.map Prod.snd) ∧ L.length ≤ i
theorem Took.next {ks L L' : List Ent} {i : Nat} {x : Ent} (g : Took ks i L) (e : ks[i]? = some x) (old : x.2 ∈ L.map Prod.snd → L' = L) (new : x.2 ∉ L.map Prod.snd → L'.Perm (x :: L)) : Took ks (i + 1) L' := by
  obtain ⟨g1, g2, g3⟩ := g
  rw [Took, take_next e]
  rcases Classical.em (x.2 ∈ L.map Prod.snd) with m | m
  · rw [old m]
    refine ⟨fun p hp => List.mem_append_left _ (g1 p hp), fun p hp => ?_, Nat.le_succ_of_le g3⟩
    rcases List.mem_append.mp hp with hp | hp
    · exact g2 p hp
    · cases List.mem_singleton.mp hp
      exact m
  · have pm := new m
    refine ⟨fun p hp => ?_, fun p hp => ?_, ?_⟩
    · rcases List.mem_cons.mp (pm.mem_iff.mp hp) with rfl | hp
      · exact List.mem_append_right _ (List.mem_singleton.mpr rfl)
      · exact List.mem_append_left _ (g1 p hp)
    · refine (pm.map Prod.snd).mem_iff.mpr ?_
      rcases List.mem_append.mp hp with hp | hp
      · exact List.mem_cons_of_mem _ (g2 p hp)
      · cases List.mem_singleton.mp hp
        exact List.mem_cons_self ..
    · rw [pm.length_eq]
      exact Nat.succ_le_succ g3
theorem SetK.move {h h' : Heap} (R : SetK w h a L es ep t) (k : ∀ o, h.get? a = some o → h'.get? a = some o) : SetK w h' a L es ep t := by
  obtain ⟨o, ho, r⟩ := R.ob
  exact ⟨⟨o, k o ho, r⟩, R.rows, R.tab, R.nd, R.led, R.room, R.few⟩
abbrev newSet (w : World) : Obj := { cls := .type "set", dict := none, data := .set #[] 0 (.fresh 0 0 (!w.params.followText "set-order")) }
theorem setK_new {h : Heap} (ho : h.get? a = some (newSet w)) : SetK w h a [] #[] 0 (.fresh 0 0 (!w.params.followText "set-order")) := by
  refine ⟨⟨_, ho, ⟨rfl, rfl, rfl⟩, rfl⟩, rfl, ⟨.nil, rfl, rfl, mg7, fun _ m => (nomatch m), fun i h j e => ?_⟩, .nil, ?_, (by decide : 0 * 5 < 7 * 3), (by decide : 0 < 4000)⟩
  · rw [List.map_nil] at e
    cases e
  · show _ ∨ (!w.params.followText "set-order") = true
    cases w.params.followText "set-order"
    · exact .inr rfl
    · exact .inl rfl
theorem fill_K {I : Addr} {fp wr : List Addr} {G : Array GenState → Array GenState → Prop} {n : Nat} {Pv : Nat → Value → Prop} {St : Nat → Shared → Prop} {R : Result → Shared → Prop} (W : WalksS P w A.in1 I fp wr G n Pv St) (S : Addr) (out : S ∉ fp)
    (ks : List Ent) (hn : n = ks.length) (few : ks.length < 4000) (val : ∀ i v, Pv i v → ∃ p, ks[i]? = some p ∧ v = .ref p.1) (h0 : Heap) (hk : ∀ p ∈ ks, KeyE h0 p) (hS : h0.get? S = none) (hw : ∀ b ∈ wr, h0.get? b = none) (hu : A.in1.units + 8 < cLine) :
    ∀ (m i : Nat) (s : Shared), n - i = m → i ≤ n → St i s → (∀ b o, h0.get? b = some o → s.heap.get? b = some o) → (∃ L es ep t, SetK w s.heap S L es ep t ∧ Took ks i L) →
      (∀ s' L es ep t, Moved (S :: wr) G s s' → SetK w s'.heap S L es ep t → Took ks n L → (∀ b o, h0.get? b = some o → s'.heap.get? b = some o) → R (.ok (.ret .none)) s') →
      codeAny (model P w) A (.builtin "set.update.loop" ⟨[.ref S, .ref I], []⟩) R s := by
  have Sw : S ∉ wr := fun m => out (W.sub _ m)
  have up : ∀ b ∈ wr, b ∈ S :: wr := fun b m => List.mem_cons_of_mem _ m
  have on : ∀ {s s' : Shared}, Moved wr G s s' → (∀ b o, h0.get? b = some o → s.heap.get? b = some o) → ∀ b o, h0.get? b = some o → s'.heap.get? b = some o := fun mv k b o e =>
    mv.heap b o (fun m => by
      rw [hw b m] at e
      cases e) (k b o e)
  intro m
  induction m with
  | zero =>
    intro i s hm hi st k ⟨L, es, ep, t, hL, g⟩ q
    cases (show i = n by omega)
    refine codeAny_builtin F.entry_set_update_loop ?_
    rw [Around.under_plainId F.plain_set_update_loop _]
    show wpAny _ A.in1 (pyNext (.ref I) >>= _) _ _ s
    refine wpAny_bind (W.done s _ _ st fun s' mv => ?_)
    show wpAny _ A.in1 (ret Value.none) _ _ s'
    exact wpAny_pure (q s' L es ep t (mv.mono up) (hL.move fun o e => mv.heap S o Sw e) g (on mv k))
  | succ m ih =>
    intro i s hm hi st k ⟨L, es, ep, t, hL, g⟩ q
    have lt : i < n := by omega
    refine codeAny_builtin F.entry_set_update_loop ?_
    rw [Around.under_plainId F.plain_set_update_loop _]
    show wpAny _ A.in1 (pyNext (.ref I) >>= _) _ _ s
    refine wpAny_bind (W.item i s _ _ lt st fun v s' pv st' mv => ?_)
    obtain ⟨x, ex, rfl⟩ := val i v pv
    have k' := on mv k
    have kk : ∀ p ∈ ks, KeyE s'.heap p := fun p hp => (hk p hp).keep k'
    show wpAny _ A.in1 (holding [Value.ref x.1] (setAdd S (.ref x.1)) >>= _) _ _ s'
    refine wpAny_bind (wpAny_holding ?_)
    unfold setAdd
    refine wpAny_holding ?_
    refine wpAny_bind ((nestedKind P w).pyHash hu (kk x (List.mem_of_getElem? ex)) ?_)
    refine add_K (s := { s' with toks := s'.toks + x.2.draws }) (hL.move fun o e => mv.heap S o Sw e) (fun p hp => kk p (List.mem_of_mem_take (g.1 p hp))) (x := x) (kk x (List.mem_of_getElem? ex)) hu (by have := g.2.2; omega) fun b h' L' es' ep' t' sb R' old new => ?_
    have k2 : ∀ b o, h0.get? b = some o → h'.get? b = some o := fun b o e => (sb.2 b (by
      rintro rfl
      rw [hS] at e
      cases e)).trans (k' b o e)
    refine wpAny_pure ⟨plainId_quiet F.plain_set_update_loop _, ih (i + 1) _ (by omega) lt (W.frame _ s' _ _ st' (Nat.le_add_right ..) fun b mb o e => ?_) k2 ⟨L', es', ep', t', R', g.next ex old new⟩ fun s3 L3 es3 ep3 t3 mv3 R3 g3 k3 => ?_⟩
    · rw [sb.2 b fun z : b = S => out (z ▸ mb)]
      exact e
    · refine q s3 L3 es3 ep3 t3 (Moved.trans W.gtrans ((mv.mono up).then_heap (Nat.le_add_right ..) fun b o mb e => ?_) mv3) R3 g3 k3
      rw [sb.2 b fun z : b = S => mb (z ▸ List.mem_cons_self ..)]
      exact e
end
end Fb
set_option Elab.async false
set_option linter.all false
set_option maxRecDepth 100000
namespace Fb
open PySem PySem.Spec L2
open PyProof.Rows hiding St
section
variable {P : Program} {w : World} {A : Around} {E : Value → Shared → Prop} {s : Shared}
set_option maxHeartbeats 3200000 in
/-- set(xs) of a list of keys -/
theorem call_set_K {l : Addr} {items : Array Value} (ks : List Ent) {Q : Value → Shared → Prop} (hh : A.handled = none) (hl : s.heap.IsList l items) (its : items.toList = ks.map fun p => Value.ref p.1) (hk : ∀ p ∈ ks, KeyE s.heap p) (few : ks.length < 4000)
    (hu : A.units + 12 < cLine) (q : ∀ h' tk L es ep t, SetK w h' s.heap.objs.size L es ep t → Took ks ks.length L → (∀ b o, s.heap.get? b = some o → h'.get? b = some o) → Q (.ref s.heap.objs.size) { s with heap := h', toks := tk }) :
    wpAny (model P w) A (call (.type "set") [.ref l]) Q E s := by
  have zi : items.size = ks.length := by rw [← Array.length_toList, its, List.length_map]
  obtain ⟨c, tl, hmro⟩ := F.called_set.mro
  have hmade := F.called_set.made
  have hsub := F.called_set.sub
  refine wpAny_call (codeAny_of_tree ?_)
  show wpAny _ _ (callAny (.type "set") _) _ _ _
  refine wpAny_pure ⟨Code.quiet_builtin _ (by decide +kernel), codeAny_builtin F.entry_type_call ?_⟩
  rw [Around.under_plain (weight_type_call_type "set" [.ref l] []) rfl]
  have n1 := F.called_set.notType
  have n2 := F.called_set.canCreate
  have n3 := F.typeCall_set_1 (.ref l)
  repeat any_goals first | assumption | wp_step
  refine codeAny_mono (code_set_led1 (.ref l) (E := E) (Q₁ := fun v s1 => v = .ref s.heap.objs.size ∧ s1 = { s with heap := s.heap.push (newSet w) }) ⟨rfl, rfl⟩) fun r s1 hr => ?_
  have none_at : ∀ b, s.heap.objs.size ≤ b → s.heap.get? b = none := fun b hb => by
    cases e : s.heap.get? b with
    | none => rfl
    | some o =>
      exact absurd (Nat.lt_of_lt_of_le (Heap.lt_size e) hb) (Nat.lt_irrefl _)
  rcases r with r | fl
  · exact hr
  cases fl with
  | ret v =>
    obtain ⟨rfl, rfl⟩ := hr
    have at1 : (s.heap.push (newSet w)).get? s.heap.objs.size = some (newSet w) := Heap.get?_push_size _ rfl
    have hT : Shared.TypeIs { s with heap := s.heap.push (newSet w) } (.ref s.heap.objs.size) "set" := ⟨_, at1, rfl⟩
    have hli := F.called_set.init.lookup
    have hbi := F.called_set.init.bind (.ref s.heap.objs.size)
    repeat any_goals first | assumption | wp_step
    refine codeAny_mono (codeAny_call_builtin (R := wants (fun r s2 => r = .none ∧ ∃ h' tk L es ep t, s2 = { s with heap := h', toks := tk } ∧ SetK w h' s.heap.objs.size L es ep t ∧ Took ks ks.length L ∧ ∀ b o, s.heap.get? b = some o → h'.get? b = some o) E)
      F.called_set.init.plain F.entry_set_init (check_set_init_1 hT ?_)) fun r2 s2 hr2 => ?_
    · obtain ⟨ol, hol, hcl, nl, hdl⟩ := hl
      obtain ⟨ocls, odict, odata, oslots⟩ := ol
      dsimp only at hcl hdl
      subst hcl
      subst hdl
      have hol' := Heap.get?_push_of_some (newSet w) hol
      have f1 := F.sub_list_set
      have f2 := F.sub_list_frozenset
      have f3 : (Value.type "list" == Value.type "dict") = false := by decide
      have hl1 : (s.heap.push (newSet w)).IsList l items := ⟨_, hol', rfl, nl, rfl⟩
      unfold Builtin.«set.__init__» noKeywords Builtin.Frozenset.updateFrom
      generalize ePI : pyIter = PI
      wp_walk
      subst ePI
      refine wpAny_pyIter_list hl1 ?_
      refine wpAny_bind (wpAny_runValue ?_)
      have lt := Heap.lt_size hol
      have z1 : (s.heap.push (newSet w)).objs.size = s.heap.objs.size + 1 := Heap.size_push ..
      have hlI : l ≠ (s.heap.push (newSet w)).objs.size := by
        rw [z1]
        exact Nat.ne_of_lt (Nat.lt_succ_of_lt lt)
      have out : s.heap.objs.size ∉ [(s.heap.push (newSet w)).objs.size, l] := by
        rw [z1]
        simp only [List.mem_cons, List.not_mem_nil, or_false, not_or]
        exact ⟨Nat.ne_of_lt (Nat.lt_succ_self _), Nat.ne_of_gt lt⟩
      refine fill_K ((Walks.list (show A.in1.in1.in1.handled = none by simp [hh]) _ l hlI items).toS) s.heap.objs.size out ks zi few (fun i v e => ?_) s.heap hk (none_at _ (Nat.le_refl _)) (fun b mb => none_at b ?_) (by simpa using (by omega : A.units + 3 + 8 < cLine)) (items.size - 0) 0 _ (by omega) (Nat.zero_le _)
        ⟨⟨_, Heap.get?_push_size _ rfl, rfl, rfl⟩, hl1.push _⟩ (fun b o e => Heap.get?_push_of_some _ (Heap.get?_push_of_some _ e)) ⟨[], #[], 0, _, setK_new (Heap.get?_push_of_some _ at1), ⟨fun _ m => (nomatch m), fun p m => (by simp at m), Nat.le_refl _⟩⟩ ?_
      · have e' : items.toList[i]? = some v := by rw [Array.getElem?_toList]; exact e
        rw [its, List.getElem?_map] at e'
        cases ep : ks[i]? with
        | none =>
          rw [ep] at e'
          cases e'
        | some p =>
          rw [ep] at e'
          cases e'
          exact ⟨p, rfl, rfl⟩
      · cases List.mem_singleton.mp mb
        rw [z1]
        exact Nat.le_succ _
      · intro s3 L es ep t mv R g k
        obtain ⟨h3, g3, d3, t3, o3⟩ := s3
        cases (show g3 = s.gens from mv.gens)
        cases (show d3 = s.drawn from mv.drawn)
        cases (show o3 = s.os from mv.os)
        refine wpAny_pure ?_
        show wpAny _ _ (ret Value.none) _ _ _
        rw [zi] at g
        exact wpAny_pure ⟨rfl, h3, t3, L, es, ep, t, rfl, R, g, k⟩
    · rcases r2 with r2 | fl2
      · exact hr2
      cases fl2 with
      | ret v2 =>
        obtain ⟨rfl, h', tk, L, es, ep, t, rfl, R, g, k⟩ := hr2
        repeat any_goals first | assumption | wp_step
        exact q _ _ _ _ _ _ R g k
      | _ => exact hr2.elim
  | _ => exact hr.elim
end
end Fb
set_option Elab.async false
set_option linter.all false
set_option maxRecDepth 100000
set_option maxHeartbeats 4000000
namespace Fb
open PySem PySem.Spec L2
open PyProof.Rows hiding St
section
variable {P : Program} {w : World} {A : Around} {E : Value → Shared → Prop} {s : Shared}
theorem perm_lift {α β : Type} {f : α → β} : ∀ {vs ws : List β}, vs.Perm ws → ∀ L : List α, ws = L.map f → ∃ M : List α, M.Perm L ∧ vs = M.map f := by
  intro vs ws h
  induction h with
  | nil =>
    intro L e
    cases L with
    | nil => exact ⟨[], .refl _, rfl⟩
    | cons => cases e
  | cons x _ ih =>
    intro L e
    cases L with
    | nil => cases e
    | cons y L =>
      rw [List.map_cons] at e
      injection e with e1 e2
      obtain ⟨M, p, rfl⟩ := ih L e2
      exact ⟨y :: M, p.cons y, by rw [e1]; rfl⟩
  | swap x y l =>
    intro L e
    rcases L with _ | ⟨u, _ | ⟨v, L⟩⟩
    · cases e
    · cases e
    · rw [List.map_cons, List.map_cons] at e
      injection e with e1 e2
      injection e2 with e2 e3
      exact ⟨v :: u :: L, .swap .., by rw [e1, e2, e3]; rfl⟩
  | trans _ _ i1 i2 =>
    intro L e
    obtain ⟨M, p, e2⟩ := i2 L e
    obtain ⟨N, q, e3⟩ := i1 M e2
    exact ⟨N, q.trans p, e3⟩
theorem alike_of {ds es : List PyData} (h : PySem.W.AllAlike ds) (m : ∀ d ∈ es, d ∈ ds) : PySem.W.AllAlike es := fun d hd e he => h d (m d hd) e (m e he)
theorem sortable_of {ds es : List PyData} (h : PySem.W.Sortable ds) (m : ∀ d ∈ es, d ∈ ds) : PySem.W.Sortable es := h.imp (fun h d hd => h d (m d hd)) fun h d hd => h d (m d hd)
theorem each_map2 {α β γ : Type} {R : α → γ → Prop} (f : β → α) (g : β → γ) : ∀ {l : List β}, (∀ x ∈ l, R (f x) (g x)) → PySem.W.EachIs R (l.map f) (l.map g)
  | [], _ => .nil
  | x :: l, h => .cons (h x (List.mem_cons_self ..)) (each_map2 f g fun y m => h y (List.mem_cons_of_mem _ m))
theorem each_self {α β : Type} {R : α → β → Prop} (f : β → α) : ∀ {l : List β}, (∀ x ∈ l, R (f x) x) → PySem.W.EachIs R (l.map f) l
  | [], _ => .nil
  | x :: l, h => .cons (h x (List.mem_cons_self ..)) (each_self f fun y m => h y (List.mem_cons_of_mem _ m))
theorem each_is_map {α β : Type} (f : β → α) : ∀ {as : List α} {l : List β}, PySem.W.EachIs (fun a b => a = f b) as l → as = l.map f
  | _, _, .nil => rfl
  | _, _, .cons h t => by rw [h, each_is_map f t]; rfl
variable {a : Addr} {L : List Ent} {es : Array (Int × Value)} {ep : Nat} {t : SetTable}
abbrev sortK (enc : Ent → PyData) (L : List Ent) : List Ent := L.mergeSort (PySem.W.dataLe false enc)
theorem sorted_K {enc : Ent → PyData} {Q : Value → Shared → Prop} (R : SetK w s.heap a L es ep t) (hh : A.handled = none) (rd : ∀ p ∈ L, ∃ as, Reads s.heap (.ref p.1) (enc p) as) (al : PySem.W.AllAlike (L.map enc)) (so : PySem.W.Sortable (L.map enc)) (hu : ∀ p ∈ L, A.units + 2 + (enc p).depth < cLine)
    (q : ∀ s' l (M : List Ent) (c : Nat), (∀ b o, s.heap.get? b = some o → s'.heap.get? b = some o) → s'.gens = s.gens → s'.os = s.os → s.heap.objs.size ≤ l → M.Perm L → s'.heap.get? l = some (seqObj "list" ((sortK enc M).map fun p => Value.ref p.1).toArray c) → Q (.ref l) s') :
    wpAny (model P w) A (call (.builtin "sorted") [.ref a]) Q E s := by
  obtain ⟨o, ho, ex, hd⟩ := R.ob
  have z := rows_size R.rows
  have few := R.few
  refine PyProof.Rows.call_function_entry_kw kind_sorted plain_sorted entry_sorted (args_sorted1 _) ?_
  unfold Builtin.«sorted»
  refine wpAny_bind (m := checkCount "sorted" 1 1 _) (wpAny_pure ?_)
  refine wpAny_bind (collect_set (A := A.in1) hh ⟨o, ho, ex.1, hd⟩ R.fits (by unfold scanBound; omega) R.tab.asc R.led fun s1 vs k1 z1 g1 o1 pm => ?_)
  have ev : es.toList.map (·.2) = L.map fun p => Value.ref p.1 := by
    rw [R.rows, List.map_map]
    rfl
  rw [ev] at pm
  obtain ⟨M, pM, rfl⟩ := perm_lift pm L rfl
  have mM : ∀ p ∈ M, p ∈ L := fun p m => pM.mem_iff.mp m
  have lM : M.length < 4000 := by rw [pM.length_eq]; exact few
  have sz : (M.map fun p => Value.ref p.1).length ≤ sizeLine := by
    rw [List.length_map, sizeLine_eq]
    omega
  generalize ev2 : (M.map fun p => Value.ref p.1) = vs at *
  refine wpAny_bind (wpAny_newList ?_ sz)
  have at1 : (s1.heap.push (seqObj "list" vs.toArray 0)).get? s1.heap.objs.size = some (seqObj "list" vs.toArray 0) := Heap.get?_push_size _ rfl
  have keep : ∀ b u, s.heap.get? b = some u → (PySem.W.sortingHeap (s1.heap.push (seqObj "list" vs.toArray 0)) s1.heap.objs.size vs).get? b = some u := fun b u e => by
    have e1 := k1 b u e
    exact PySem.W.sortingHeap_old (Nat.ne_of_lt (Heap.lt_size e1)) (Heap.get?_push_of_some _ e1)
  have mm : ∀ d ∈ M.map enc, d ∈ L.map enc := fun d m => by
    obtain ⟨p, mp, rfl⟩ := List.mem_map.mp m
    exact List.mem_map_of_mem (mM p mp)
  have rds : ∀ p ∈ M, ∃ as, Reads (PySem.W.sortingHeap (s1.heap.push (seqObj "list" vs.toArray 0)) s1.heap.objs.size vs) (.ref p.1) (enc p) as := fun p m => by
    obtain ⟨as, r⟩ := rd p (mM p m)
    exact ⟨as, PyProof.Rows.Reads.keeps keep r⟩
  have alM := alike_of al mm
  have e1 : PySem.W.EachIs (fun v d => ∃ as, Reads (PySem.W.sortingHeap (s1.heap.push (seqObj "list" vs.toArray 0)) s1.heap.objs.size vs) v d as) vs (M.map enc) := by
    have e := each_map2 (R := fun v d => ∃ as, Reads (PySem.W.sortingHeap (s1.heap.push (seqObj "list" vs.toArray 0)) s1.heap.objs.size vs) v d as) (fun p : Ent => Value.ref p.1) enc rds
    rwa [ev2] at e
  have e2 : PySem.W.EachIs (fun v p => ∃ as, Reads (PySem.W.sortingHeap (s1.heap.push (seqObj "list" vs.toArray 0)) s1.heap.objs.size vs) v (enc p) as) vs M := by
    have e := each_self (R := fun v p => ∃ as, Reads (PySem.W.sortingHeap (s1.heap.push (seqObj "list" vs.toArray 0)) s1.heap.objs.size vs) v (enc p) as) (fun p : Ent => Value.ref p.1) rds
    rwa [ev2] at e
  have e3 : PySem.W.EachIs (fun v (p : Ent) => v = Value.ref p.1) vs M := by
    have e := each_self (R := fun v p => v = Value.ref p.1) (fun p : Ent => Value.ref p.1) (l := M) fun _ _ => rfl
    rwa [ev2] at e
  refine wpAny_bind (wpAny_holding (PyProof.Rows.wpAny_call_entry_kw slot_list_sort ⟨_, at1, rfl⟩ entry_list_sort ?_ (args_list_sort _)))
  refine PySem.W.list_sort_vals (s := { s1 with heap := s1.heap.push (seqObj "list" vs.toArray 0) }) at1 (PySem.W.SortsAt.data (s := { s1 with heap := PySem.W.sortingHeap (s1.heap.push (seqObj "list" vs.toArray 0)) s1.heap.objs.size vs }) e1 alM (sortable_of so mm) fun d m => ?_) sz ⟨_, rfl, ?_⟩
  · obtain ⟨p, mp, rfl⟩ := List.mem_map.mp m
    exact hu p (mM p mp)
  · have out := PySem.W.sortVals_data (R := fun v (p : Ent) => v = Value.ref p.1) false e3 e2 alM
    obtain ⟨c, hc⟩ := sortedHeap_at (vs := vs) (out := ((sortK enc M).map fun p => Value.ref p.1).toArray) at1
    rw [each_is_map _ out]
    refine wpAny_pure ⟨_, rfl, q _ s1.heap.objs.size M c (fun b u e => ?_) g1 o1 z1 pM hc⟩
    have e' := k1 b u e
    have lt := Heap.lt_size e'
    refine (sortedHeap_old (Nat.ne_of_lt lt) ?_).trans (Heap.get?_push_of_some _ e')
    rw [size_push']
    exact Nat.lt_succ_of_lt lt
/-- the tuple at p.1 is the key p.2 -/
def KeyO (K : PySem.W.Frag) (H : Hp) (p : Ent) : Prop := Dp K H (.ref p.1) p.2.data ∧ p.2.depth ≤ 8
mutual
theorem key_depth : ∀ k : NestedKey, k.data.depth = k.depth
  | .none => rfl
  | .num _ => rfl
  | .text _ => rfl
  | .tup ks => congrArg (· + 1) (keys_depth ks)
theorem keys_depth : ∀ ks : List NestedKey, PyData.depthAll (NestedKey.datas ks) = NestedKey.depthAll ks
  | [] => rfl
  | k :: ks => by
    rw [NestedKey.datas, PyData.depthAll, NestedKey.depthAll, key_depth k, keys_depth ks]
end
mutual
theorem key_is {X : Cx} {pins : List (Addr × Obj)} {σ : L2.St} {H : Hp} (I : Inv X pins σ H s) : ∀ (k : NestedKey) (v : V) (u : Value), Dp X.K H v k.data → RelV v u → NestedIs s.heap k u
  | .none, _, _, h, r => by
    cases h
    cases r
    exact .none
  | .num i, _, _, h, r => by
    cases h
    obtain ⟨t, rfl⟩ := r
    exact .int i t
  | .text x, _, _, h, r => by
    cases h
    obtain ⟨t, rfl⟩ := r
    exact .text x t
  | .tup ks, _, _, h, r => by
    rw [NestedKey.data] at h
    cases h with
    | tup hs ha =>
      cases r
      obtain ⟨its, rv, ⟨o, ho, hc, n, hd⟩, _⟩ := I.tuple hs
      exact .tup ho hc hd (keys_are I ks _ its ha rv)
theorem keys_are {X : Cx} {pins : List (Addr × Obj)} {σ : L2.St} {H : Hp} (I : Inv X pins σ H s) : ∀ (ks : List NestedKey) (vs : List V) (us : List Value), DpAll X.K H vs (NestedKey.datas ks) → Vals vs us → NestedAll s.heap ks us
  | [], _, _, h, r => by
    cases h
    cases r
    exact .nil
  | k :: ks, _, _, h, r => by
    rw [NestedKey.datas] at h
    cases h with
    | cons h1 h2 =>
      cases r with
      | cons r1 r2 => exact .cons (key_is I k _ _ h1 r1) (keys_are I ks _ _ h2 r2)
end
theorem KeyO.at {X : Cx} {pins : List (Addr × Obj)} {σ : L2.St} {H : Hp} {p : Ent} (h : KeyO X.K H p) (I : Inv X pins σ H s) : KeyE s.heap p := ⟨key_is I _ _ _ h.1 rfl, h.2⟩
theorem KeyO.same {K : PySem.W.Frag} {H H' : Hp} {p : Ent} (h : KeyO K H p) (e : Same H H') : KeyO K H' p := ⟨dp_mono e _ h.1, h.2⟩
/-- a set of keys -/
def SetKO (w : World) (a : Addr) (L : List Ent) : HO := .ext fun h => ∃ es ep t, SetK w h a L es ep t
theorem setKO_ok {H : Hp} {h : Heap} {a : Addr} {L : List Ent} {es : Array (Int × Value)} {ep : Nat} {t : SetTable} (R : SetK w h a L es ep t) : ObjOk P w H h a (SetKO w a L) := by
  obtain ⟨o, ho, _⟩ := R.ob
  exact ⟨⟨es, ep, t, R⟩, ⟨o, ho⟩, fun h1 h2 ⟨es', ep', t', R'⟩ k => ⟨es', ep', t', R'.move fun o' e => k o' e⟩⟩
def rSetK (K : PySem.W.Frag) (w : World) : List V → Hp → VK → Prop := fun vs H Q => ∃ (l : Addr) (ks : List Ent), vs = [V.ref l] ∧ SqL K H l (ks.map fun p => V.ref p.1) ∧ (∀ p ∈ ks, KeyO K H p) ∧ ks.length < 4000 ∧
  ∀ a L, H a = none → (∀ p ∈ L, p ∈ ks) → (∀ p ∈ ks, p.2 ∈ L.map Prod.snd) → (L.map Prod.snd).Nodup → Q (.ref a) (upd H a (SetKO w a L))
theorem ent_refs : ∀ {ks : List Ent} {us : List Value}, Vals (ks.map fun p => V.ref p.1) us → us = ks.map fun p => Value.ref p.1
  | [], _, .nil => rfl
  | p :: ks, _, .cons r t => by
    cases r
    rw [ent_refs t]
    rfl
theorem refs_ent : ∀ ks : List Ent, Vals (ks.map fun p => V.ref p.1) (ks.map fun p => Value.ref p.1)
  | [] => .nil
  | p :: ks => .cons rfl (refs_ent ks)
theorem cr_setK {X : Cx} {K : PySem.W.Frag} (eK : X.K = K) (ew : X.w = w) (hc : X.calm = true) (hu : X.A.units + 64 < cLine) : CallR X (.type "set") (rSetK K w) := by
  rintro pins s σ H vs us Q I r ⟨l, ks, rfl, hl, hk, few, q⟩
  subst eK
  subst ew
  rw [Vals.ref1 r]
  obtain ⟨its, rv, pl, _⟩ := I.list hl
  have free : H s.heap.objs.size = none := I.hok.fresh (Nat.le_refl _)
  refine call_set_K (P := X.prog) (w := X.w) ks (I.ok.hd hc) pl.isList (ent_refs (by simpa using rv)) (fun p m => (hk p m).at I) few (by omega) fun h' tk L es ep t R g k => ?_
  refine ⟨.ref s.heap.objs.size, _, I.laid (t' := tk) k (Nat.le_refl _) (setKO_ok R), rfl, q _ L free (fun p m => List.mem_of_mem_take (g.1 p m)) (fun p m => g.2.1 p ?_) R.nd⟩
  rw [List.take_length]
  exact m
abbrev entD (p : Ent) : PyData := p.2.data
def rSortK (K : PySem.W.Frag) (w : World) : List V → Hp → VK → Prop := fun vs H Q => ∃ (a : Addr) (L : List Ent), vs = [V.ref a] ∧ H a = some (SetKO w a L) ∧ (∀ p ∈ L, KeyO K H p) ∧ PySem.W.AllAlike (L.map entD) ∧ PySem.W.Sortable (L.map entD) ∧
  ∀ (M : List Ent) (l : Addr), M.Perm L → H l = none → Q (.ref l) (upd H l (.lst ((sortK entD M).map fun p => V.ref p.1)))
theorem cr_sortK {X : Cx} {K : PySem.W.Frag} (eK : X.K = K) (ew : X.w = w) (hc : X.calm = true) (hu : X.A.units + 64 < cLine) : CallR X (.builtin "sorted") (rSortK K w) := by
  rintro pins s σ H vs us Q I r ⟨a, L, rfl, ha, hk, al, so, q⟩
  subst eK
  subst ew
  obtain ⟨es, ep, t, R⟩ := (I.hok a _ ha).1
  rw [Vals.ref1 r]
  refine sorted_K (enc := entD) R (I.ok.hd hc) (fun p m => Dp.reads I _ _ _ (hk p m).1 rfl) al so (fun p m => ?_) fun s' l M c k g o z pm at1 => ?_
  · have := (hk p m).2
    have e := key_depth p.2
    show _ + p.2.data.depth < _
    omega
  · have free : H l = none := I.hok.fresh z
    have len : ((sortK entD M).map fun p => V.ref p.1).length ≤ sizeLine := by
      have := R.few
      rw [List.length_map, List.length_mergeSort, pm.length_eq, sizeLine_eq]
      omega
    have J : Inv X pins σ (upd H l (.lst ((sortK entD M).map fun p => V.ref p.1))) { s with heap := s'.heap, gens := s'.gens, drawn := s'.drawn, toks := s'.toks } :=
      I.call (ch := []) (Un.laid k z free) (I.hok.laid k z ⟨len, _, c, refs_ent _, at1⟩) (by rw [g]; exact I.bare) fun _ m => nomatch m
    have e : s' = { s with heap := s'.heap, gens := s'.gens, drawn := s'.drawn, toks := s'.toks } := by
      cases s'
      cases s
      cases o
      rfl
    rw [e]
    exact ⟨.ref l, _, J, rfl, q M l pm free⟩
end
end Fb
set_option Elab.async false
set_option linter.all false
set_option maxRecDepth 100000
set_option maxHeartbeats 4000000
namespace Fb
open PySem PySem.Spec L2
open PyProof.Rows hiding St
def cnt (z : Str) (l : List Str) : Nat := l.countP fun y => decide (y = z)
theorem room_cnt {k : Nat} {A : Around} (hr : Room k A) : A.units + 8 < cLine := by
  have := hr.units
  omega
theorem room_set2 {k : Nat} {A : Around} (hr : Room k A) : A.units + 64 < cLine := by
  have := hr.units
  omega
theorem dp_strs {K : PySem.W.Frag} {H : Hp} (l : List Str) : DpAll K H (l.map V.str) (l.map PyData.str) := dpAll_map fun _ _ => .str _
theorem plain_strs : ∀ l : List Str, PyData.plainAll (l.map .str) = true
  | [] => rfl
  | z :: l => by
    rw [List.map_cons, PyData.plainAll, plain_strs l]
    rfl
theorem depth_strs : ∀ l : List Str, PyData.depthAll (l.map .str) = 0
  | [] => rfl
  | z :: l => by
    rw [List.map_cons, PyData.depthAll, depth_strs l]
    rfl
theorem cnt_eqv (z : Str) (l : List Str) : ((l.map PyData.str).countP fun y => PyData.eqv y (.str z)) = cnt z l := by
  rw [List.countP_map]
  refine List.countP_congr fun y _ => ?_
  show PyData.eqv (.str y) (.str z) = true ↔ _
  simp [PyData.eqv]
/-- t.count(x), a tuple of texts -/
theorem mt_countS {X : Cx} {K : PySem.W.Frag} (eK : X.K = K) (hu : X.A.units + 8 < cLine) : MtR X "tuple.count" (fun x vs H Q => ∃ (t : Addr) (l : List Str) (z : Str), x = .ref t ∧ vs = [.str z] ∧ SqT K H t (l.map V.str) ∧ Q (.int ((cnt z l : Nat) : Int)) H) := by
  rintro pins s σ H x vs v us Q I rx rv ⟨t, l, z, rfl, rfl, hs, q⟩
  subst eK
  cases rx
  obtain ⟨u, rfl, ru⟩ := rv.one
  obtain ⟨its, r, ht, _⟩ := I.tuple hs
  obtain ⟨as, rs⟩ := Dp.readsAll I _ _ its (dp_strs l) r
  obtain ⟨bs, rz⟩ := Dp.reads I (.str z) _ u (.str z) ru
  refine PySem.SeqAt.count_tuple_data ht (by simpa using rs) rz (plain_strs l) rfl ?_ ?_
  · rw [depth_strs]
    omega
  · rw [cnt_eqv]
    exact ⟨.int _, H, I.tok _, ⟨_, rfl⟩, q⟩
def FrzT (H : Hp) (a : Addr) (xs : List V) : Prop := ∃ o : Obj, H a = some (.frz o (.tup xs)) ∧ o.dict = none
theorem FrzT.sq {K : PySem.W.Frag} {H : Hp} {a : Addr} {xs : List V} (h : FrzT H a xs) : SqT K H a xs := by
  obtain ⟨o, h, _⟩ := h
  exact .inl (.inr ⟨o, h⟩)
theorem FrzT.mono {H H' : Hp} {a : Addr} {xs : List V} (h : FrzT H a xs) (e : Same H H') : FrzT H' a xs := by
  obtain ⟨o, h, d⟩ := h
  exact ⟨o, e _ _ h, d⟩
section
variable {X : Cx} {K : PySem.W.Frag}
/-- tuple(xs) of a list -/
def rTupF (K : PySem.W.Frag) : List V → Hp → VK → Prop := fun vs H Q => ∃ (p : Addr) (ys : List V), vs = [.ref p] ∧ SqL K H p ys ∧ ∀ (l : Addr) (o : HO), H l = none → (∀ H0 : Hp, FrzT (upd H0 l o) l ys) → Q (.ref l) (upd H l o)
theorem cr_tupF (eK : X.K = K) : CallR X (.type "tuple") (rTupF K) := by
  rintro pins s σ H vs us Q I r ⟨p, ys, rfl, hs, q⟩
  subst eK
  rw [Vals.ref1 r]
  obtain ⟨its, r', pl, hz⟩ := I.list hs
  have hlen := r'.length
  refine call_tuple_list pl.isList (fun h' kp => ?_) (by rw [List.size_toArray]; omega)
  have I1 : Inv X pins σ H { s with heap := h' } := I.kept (t' := s.toks) kp
  have at1 : (h'.push { cls := .type "tuple", data := .seq its.toArray }).get? h'.objs.size = some { cls := .type "tuple", data := .seq its.toArray } := Heap.get?_push_size _ rfl
  exact ⟨.ref h'.objs.size, _, I1.laid (t' := s.toks) (fun b o e => Heap.get?_push_of_some _ e) (Nat.le_refl _) (show ObjOk X.prog X.w _ _ _ (.frz _ (.tup ys)) from ⟨at1, hz, its, r', IsTup.new _ _⟩), rfl,
    q _ _ (I1.hok.fresh (Nat.le_refl _)) fun H0 => ⟨_, upd_same, rfl⟩⟩
variable {o e : Expr} {es : List Expr} {to : TE} {t : TA} {name : Str} {apos cpos : Pos} {id : String} {r : V → List V → Hp → VK → Prop}
def tTM (r : V → List V → Hp → VK → Prop) (to : TE) (t : TA) : TE := fun σ H Q => to σ H fun x H1 => (∃ a ys, x = .ref a ∧ FrzT H1 a ys) ∧ t σ H1 fun xs H2 => r x xs H2 Q
theorem pe_tm (slot : Slot "tuple" name id) (ty : typeOf (.builtin id) = pure (.type "method_descriptor")) (m : MtR X id r) (ho : PE X o to) (ha : PA X (e :: es) t) (hb : attributeBase o name X.env (eval o X.env) = eval o X.env := by rfl)
    (few : ((backTo cpos (starEach (e :: es) X.env)).all (fun x => !x.1) && (backToKw cpos (keywordEach [] X.env)).all (fun x => x.1.isSome) && decide ((e :: es).length + ([] : List Keyword).length + (if ([] : List Keyword).isEmpty then 0 else 1) < 30)) = true := by rfl)
    (line : (apos.endLine == cpos.line) = true := by rfl) (st : starEach (e :: es) X.env = (false, eval e X.env) :: starEach es X.env := by rfl) (pl : (backTo cpos (starEach es X.env)).any (·.1) = false := by rfl) : PE X (.Call (.Attribute o name apos) (e :: es) [] cpos) (tTM r to t) := by
  refine ⟨fun pins s σ H Q I h => wpAny_Call_method_late hb few line rfl (thn (ho.run pins s σ H _ I h) ?_)⟩
  rintro v s1 ⟨x, H1, I1, r1, ⟨a, ys, rfl, ob, hx, hd⟩, q⟩
  cases r1
  obtain ⟨e1, _, its, rv, o2, e2, c2, _⟩ := (show ObjOk X.prog X.w H1 s1.heap a (.frz ob (.tup ys)) from I1.hok a _ hx)
  refine ⟨"tuple", id, PySem.F.plainAttrs_tuple, slot, ty, ⟨o2, e2, c2⟩, fun b z => ?_, ?_⟩
  · cases z
    exact ⟨ob, e1, hd⟩
  · have hA := ha.run cpos pins s1 σ H1 _ I1 q
    rw [st] at hA ⊢
    refine Calls.callWith_builtin ?_ (Calls.evalArgs_plain (thn hA fun us s2 ⟨vs, H2, I2, r2, q2⟩ => m pins s2 σ H2 (.ref a) vs _ us Q I2 rfl r2 q2))
    show (false || (backTo cpos (starEach es X.env)).any (·.1)) = false
    rw [pl]
    rfl
end
abbrev OpR := Int × List Str
def lotD (l : List Str) : PyData := .tuple (l.map .str)
def openD (r : OpR) : PyData := .tuple [.int r.1, lotD r.2]
def OpenV (K : PySem.W.Frag) (H : Hp) (v : V) (r : OpR) : Prop := ∃ t u, v = .ref t ∧ SqT K H t [.int r.1, .ref u] ∧ SqT K H u (r.2.map V.str)
theorem OpenV.dp {K : PySem.W.Frag} {H : Hp} {v : V} {r : OpR} (h : OpenV K H v r) : Dp K H v (openD r) := by
  obtain ⟨t, u, rfl, h1, h2⟩ := h
  exact .tup h1 (.cons (.int _) (.cons (.tup h2 (dp_strs _)) .nil))
theorem OpenV.mono {K : PySem.W.Frag} {H H' : Hp} {v : V} {r : OpR} (h : OpenV K H v r) (e : Same H H') : OpenV K H' v r := by
  obtain ⟨t, u, rfl, h1, h2⟩ := h
  exact ⟨t, u, rfl, same_tup e h1, same_tup e h2⟩
/-- the same, the lot's object known -/
def RowV (K : PySem.W.Frag) (H : Hp) (v : V) (r : OpR) : Prop := ∃ t u, v = .ref t ∧ SqT K H t [.int r.1, .ref u] ∧ FrzT H u (r.2.map V.str)
theorem RowV.op {K : PySem.W.Frag} {H : Hp} {v : V} {r : OpR} (h : RowV K H v r) : OpenV K H v r := by
  obtain ⟨t, u, rfl, h1, h2⟩ := h
  exact ⟨t, u, rfl, h1, h2.sq⟩
theorem RowV.mono {K : PySem.W.Frag} {H H' : Hp} {v : V} {r : OpR} (h : RowV K H v r) (e : Same H H') : RowV K H' v r := by
  obtain ⟨t, u, rfl, h1, h2⟩ := h
  exact ⟨t, u, rfl, same_tup e h1, h2.mono e⟩
def covM (a b : OpR) : Bool := decide (a.1 ≤ b.1) && a.2.all fun n => decide (cnt n a.2 ≤ cnt n b.2)
theorem str_get {l : List Str} {i : Nat} {x : V} (h : (l.map V.str)[i]? = some x) : ∃ z, l[i]? = some z ∧ x = .str z := by
  rw [List.getElem?_map] at h
  cases e : l[i]? with
  | none =>
    rw [e] at h
    cases h
  | some z =>
    rw [e] at h
    cases h
    exact ⟨z, rfl, rfl⟩
end Fb
namespace Fb
open PySem PySem.Spec L2
open PyProof.Rows hiding St
/-- values that are rows -/
inductive RowsO (K : PySem.W.Frag) (H : Hp) : List V → List OpR → Prop
  | nil : RowsO K H [] []
  | cons {v : V} {r : OpR} {vs : List V} {rs : List OpR} : RowV K H v r → RowsO K H vs rs → RowsO K H (v :: vs) (r :: rs)
theorem RowsO.len {K : PySem.W.Frag} {H : Hp} : ∀ {vs : List V} {rs : List OpR}, RowsO K H vs rs → vs.length = rs.length
  | _, _, .nil => rfl
  | _, _, .cons _ t => congrArg Nat.succ t.len
theorem RowsO.mono {K : PySem.W.Frag} {H H' : Hp} (e : Same H H') : ∀ {vs : List V} {rs : List OpR}, RowsO K H vs rs → RowsO K H' vs rs
  | _, _, .nil => .nil
  | _, _, .cons a t => .cons (a.mono e) (t.mono e)
theorem RowsO.get {K : PySem.W.Frag} {H : Hp} : ∀ {vs : List V} {rs : List OpR}, RowsO K H vs rs → ∀ {i : Nat} {v : V}, vs[i]? = some v → ∃ r, rs[i]? = some r ∧ RowV K H v r
  | _, _, .nil, _, _, h => by cases h
  | _, _, .cons a t, 0, _, h => by
    cases h
    exact ⟨_, rfl, a⟩
  | _, _, .cons a t, i + 1, v, h => t.get (i := i) h
theorem RowsO.snoc {K : PySem.W.Frag} {H : Hp} : ∀ {vs : List V} {rs : List OpR} {v : V} {r : OpR}, RowsO K H vs rs → RowV K H v r → RowsO K H (vs ++ [v]) (rs ++ [r])
  | _, _, _, _, .nil, h => .cons h .nil
  | _, _, _, _, .cons a t, h => .cons a (t.snoc h)
end Fb
namespace Fb
open PySem PySem.Spec L2
open PyProof.Rows hiding St
theorem FrzT.upd {H : Hp} {q a : Addr} {ys xs : List V} {o : HO} (hq : H q = some (.lst ys)) (h : FrzT H a xs) : FrzT (upd H q o) a xs := by
  obtain ⟨ob, h, d⟩ := h
  refine ⟨ob, ?_, d⟩
  rw [upd_ne fun e => by
    rw [e, hq] at h
    cases h]
  exact h
theorem RowV.upd {K : PySem.W.Frag} {H : Hp} {q : Addr} {ys : List V} {o : HO} {v : V} {r : OpR} (hq : H q = some (.lst ys)) (h : RowV K H v r) : RowV K (upd H q o) v r := by
  obtain ⟨t, u, rfl, h1, h2⟩ := h
  exact ⟨t, u, rfl, sqt_upd hq h1, h2.upd hq⟩
theorem RowsO.upd {K : PySem.W.Frag} {H : Hp} {q : Addr} {ys : List V} {o : HO} (hq : H q = some (.lst ys)) : ∀ {vs : List V} {rs : List OpR}, RowsO K H vs rs → RowsO K (upd H q o) vs rs
  | _, _, .nil => .nil
  | _, _, .cons a t => .cons (a.upd hq) (t.upd hq)
theorem rowsO_of {K : PySem.W.Frag} {H : Hp} : ∀ {ps : List (V × OpR)}, (∀ p ∈ ps, RowV K H p.1 p.2) → RowsO K H (ps.map Prod.fst) (ps.map Prod.snd)
  | [], _ => .nil
  | p :: ps, h => .cons (h p (List.mem_cons_self ..)) (rowsO_of fun q m => h q (List.mem_cons_of_mem _ m))
theorem rowsO_pairs {K : PySem.W.Frag} {H : Hp} : ∀ {vs : List V} {rs : List OpR}, RowsO K H vs rs → ∃ ps : List (V × OpR), vs = ps.map Prod.fst ∧ rs = ps.map Prod.snd ∧ ∀ p ∈ ps, RowV K H p.1 p.2
  | _, _, .nil => ⟨[], rfl, rfl, fun p m => nomatch m⟩
  | _, _, .cons (v := v) (r := r) a t => by
    obtain ⟨ps, rfl, rfl, h⟩ := rowsO_pairs t
    refine ⟨(v, r) :: ps, rfl, rfl, fun p m => ?_⟩
    rcases List.mem_cons.mp m with rfl | m
    · exact a
    · exact h p m
def strLe : Str → Str → Bool := PySem.W.dataLe false PyData.str
def sortL (l : List Str) : List Str := l.mergeSort strLe
abbrev strZ (l : List Str) : List (V × PyData) := l.map fun z => (V.str z, PyData.str z)
theorem strZ_fst (l : List Str) : (strZ l).map Prod.fst = l.map V.str := by
  rw [List.map_map]
  rfl
theorem sort_strs (l : List Str) : (sortD (strZ l)).map Prod.fst = (sortL l).map V.str := by
  have h : (l.mergeSort strLe).map (fun z => (V.str z, PyData.str z)) = (strZ l).mergeSort (PySem.W.dataLe false Prod.snd) := List.map_mergeSort fun a _ b _ => rfl
  rw [sortD, ← h, List.map_map]
  rfl
theorem alike_strs : ∀ l m : List Str, PySem.W.alikeAll (l.map .str) (m.map .str) = true
  | [], _ => by simp [PySem.W.alikeAll]
  | _ :: _, [] => by simp [PySem.W.alikeAll]
  | x :: l, y :: m => by
    show PySem.W.alikeAll (.str x :: l.map .str) (.str y :: m.map .str) = true
    rw [PySem.W.alikeAll, alike_strs l m]
    simp [PySem.W.alike]
theorem strZ_ok {K : PySem.W.Frag} {H : Hp} (l : List Str) : (∀ z ∈ strZ l, Dp K H z.1 z.2 ∧ z.2.depth ≤ 60) ∧ PySem.W.AllAlike ((strZ l).map Prod.snd) ∧ PySem.W.Sortable ((strZ l).map Prod.snd) := by
  refine ⟨fun z m => ?_, fun d hd e he => ?_, .inr fun d hd => ?_⟩
  · obtain ⟨x, _, rfl⟩ := List.mem_map.mp m
    exact ⟨.str x, Nat.zero_le _⟩
  · rw [List.map_map] at hd he
    obtain ⟨x, _, rfl⟩ := List.mem_map.mp hd
    obtain ⟨y, _, rfl⟩ := List.mem_map.mp he
    simp [PySem.W.alike]
  · rw [List.map_map] at hd
    obtain ⟨x, _, rfl⟩ := List.mem_map.mp hd
    exact ⟨(fun e => nomatch e), fun xs e => nomatch e⟩
theorem sort_pairs {α : Type} (enc : α → PyData) (ps : List (V × α)) : ∃ qs : List (V × α), qs.Perm ps ∧ (sortD (ps.map fun p => (p.1, enc p.2))).map Prod.fst = qs.map Prod.fst ∧ qs.map Prod.snd = (ps.map Prod.snd).mergeSort (PySem.W.dataLe false enc) := by
  refine ⟨ps.mergeSort fun p q => PySem.W.dataLe false enc p.2 q.2, List.mergeSort_perm .., ?_, List.map_mergeSort fun a _ b _ => rfl⟩
  have h : (ps.mergeSort fun p q => PySem.W.dataLe false enc p.2 q.2).map (fun p => (p.1, enc p.2)) = (ps.map fun p => (p.1, enc p.2)).mergeSort (PySem.W.dataLe false Prod.snd) := List.map_mergeSort fun a _ b _ => rfl
  rw [sortD, ← h, List.map_map]
  rfl
def canon (r : OpR) : OpR := (r.1, sortL r.2)
def sizD (r : OpR) : PyData := .tuple [.int r.1, .int r.2.length, lotD r.2]
def sizLe : OpR → OpR → Bool := PySem.W.dataLe false sizD
def opLe : OpR → OpR → Bool := PySem.W.dataLe false openD
def opS (k : List OpR) (r : OpR) : List OpR := if (k.any fun o => covM o r) = true then k else k ++ [r]
def opnM (rs : List OpR) : List OpR := ((rs.map canon).mergeSort sizLe).foldl opS []
def outM (rs : List OpR) : List OpR := (opnM rs).mergeSort opLe
theorem opS_t {k : List OpR} {r : OpR} (h : (k.any fun o => covM o r) = true) : opS k r = k := if_pos h
theorem opS_f {k : List OpR} {r : OpR} (h : (k.any fun o => covM o r) = false) : opS k r = k ++ [r] := if_neg (by rw [h]; exact Bool.false_ne_true)
theorem opS_sub : ∀ (l k : List OpR), ∀ r ∈ l.foldl opS k, r ∈ k ∨ r ∈ l
  | [], _, _, h => .inl h
  | x :: l, k, r, h => by
    rw [List.foldl_cons] at h
    rcases opS_sub l _ r h with h | h
    · cases c : k.any fun o => covM o x with
      | true =>
        rw [opS_t c] at h
        exact .inl h
      | false =>
        rw [opS_f c] at h
        rcases List.mem_append.mp h with h | h
        · exact .inl h
        · rw [List.mem_singleton.mp h]
          exact .inr (List.mem_cons_self ..)
    · exact .inr (List.mem_cons_of_mem _ h)
/-- a sized row -/
def SizV (K : PySem.W.Frag) (H : Hp) (v : V) (r : OpR) : Prop := ∃ t u, v = .ref t ∧ SqT K H t [.int r.1, .int r.2.length, .ref u] ∧ FrzT H u (r.2.map V.str)
theorem SizV.mono {K : PySem.W.Frag} {H H' : Hp} {v : V} {r : OpR} (h : SizV K H v r) (e : Same H H') : SizV K H' v r := by
  obtain ⟨t, u, rfl, h1, h2⟩ := h
  exact ⟨t, u, rfl, same_tup e h1, h2.mono e⟩
theorem SizV.upd {K : PySem.W.Frag} {H : Hp} {q : Addr} {ys : List V} {o : HO} {v : V} {r : OpR} (hq : H q = some (.lst ys)) (h : SizV K H v r) : SizV K (upd H q o) v r := by
  obtain ⟨t, u, rfl, h1, h2⟩ := h
  exact ⟨t, u, rfl, sqt_upd hq h1, h2.upd hq⟩
theorem SizV.dp {K : PySem.W.Frag} {H : Hp} {v : V} {r : OpR} (h : SizV K H v r) : Dp K H v (sizD r) := by
  obtain ⟨t, u, rfl, h1, h2⟩ := h
  exact .tup h1 (.cons (.int _) (.cons (.int _) (.cons (.tup h2.sq (dp_strs _)) .nil)))
theorem depth_lot (l : List Str) : (lotD l).depth = 1 := by
  show PyData.depthAll _ + 1 = 1
  rw [depth_strs]
theorem siz_ok {K : PySem.W.Frag} {H : Hp} {ps : List (V × OpR)} (h : ∀ p ∈ ps, SizV K H p.1 p.2) : (∀ z ∈ ps.map fun p => (p.1, sizD p.2), Dp K H z.1 z.2 ∧ z.2.depth ≤ 60) ∧ PySem.W.AllAlike ((ps.map fun p => (p.1, sizD p.2)).map Prod.snd) ∧ PySem.W.Sortable ((ps.map fun p => (p.1, sizD p.2)).map Prod.snd) := by
  refine ⟨fun z m => ?_, fun d hd e he => ?_, .inl fun d hd => ?_⟩
  · obtain ⟨p, mp, rfl⟩ := List.mem_map.mp m
    refine ⟨(h p mp).dp, ?_⟩
    have := depth_lot p.2.2
    simp only [sizD, PyData.depth, PyData.depthAll] at *
    omega
  · rw [List.map_map] at hd he
    obtain ⟨x, _, rfl⟩ := List.mem_map.mp hd
    obtain ⟨y, _, rfl⟩ := List.mem_map.mp he
    simp [sizD, lotD, PySem.W.alike, PySem.W.alikeAll, alike_strs]
  · rw [List.map_map] at hd
    obtain ⟨x, _, rfl⟩ := List.mem_map.mp hd
    exact ⟨_, _, rfl⟩
theorem op_ok {K : PySem.W.Frag} {H : Hp} {ps : List (V × OpR)} (h : ∀ p ∈ ps, RowV K H p.1 p.2) : (∀ z ∈ ps.map fun p => (p.1, openD p.2), Dp K H z.1 z.2 ∧ z.2.depth ≤ 60) ∧ PySem.W.AllAlike ((ps.map fun p => (p.1, openD p.2)).map Prod.snd) ∧ PySem.W.Sortable ((ps.map fun p => (p.1, openD p.2)).map Prod.snd) := by
  refine ⟨fun z m => ?_, fun d hd e he => ?_, .inl fun d hd => ?_⟩
  · obtain ⟨p, mp, rfl⟩ := List.mem_map.mp m
    refine ⟨(h p mp).op.dp, ?_⟩
    have := depth_lot p.2.2
    simp only [openD, PyData.depth, PyData.depthAll] at *
    omega
  · rw [List.map_map] at hd he
    obtain ⟨x, _, rfl⟩ := List.mem_map.mp hd
    obtain ⟨y, _, rfl⟩ := List.mem_map.mp he
    simp [openD, lotD, PySem.W.alike, PySem.W.alikeAll, alike_strs]
  · rw [List.map_map] at hd
    obtain ⟨x, _, rfl⟩ := List.mem_map.mp hd
    exact ⟨_, _, rfl⟩
theorem pairs_fst {α : Type} (f : α → PyData) (ps : List (V × α)) : (ps.map fun p => (p.1, f p.2)).map Prod.fst = ps.map Prod.fst := by
  rw [List.map_map]
  rfl
theorem fst_rows {R : V → OpR → Prop} {rs : List OpR} {xs : List V} (len : xs.length = rs.length) (h : ∀ (i : Nat) (v : V), xs[i]? = some v → ∃ r, rs[i]? = some r ∧ R v r) : ∃ ps : List (V × OpR), xs = ps.map Prod.fst ∧ rs = ps.map Prod.snd ∧ ∀ p ∈ ps, R p.1 p.2 := by
  refine ⟨xs.zip rs, (List.map_fst_zip (by omega)).symm, (List.map_snd_zip (by omega)).symm, fun p m => ?_⟩
  obtain ⟨i, e⟩ := List.getElem?_of_mem m
  obtain ⟨g1, g2⟩ := List.getElem?_zip_eq_some.mp e
  obtain ⟨r, k1, k2⟩ := h i _ g1
  rw [g2] at k1
  cases k1
  exact k2
end Fb
namespace Fb
open PySem PySem.Spec L2
open PyProof.Rows hiding St
theorem sortD_K {X : Cx} {K : PySem.W.Frag} (eK : X.K = K) {k : Nat} (hr : Room k X.A) : CallR X (.builtin "sorted") (rSortD K) := eK ▸ cr_sortD hr
end Fb
namespace Fb
end Fb
namespace Fb
open PySem PySem.Spec L2
open PyProof.Rows hiding St
end Fb
namespace Fb
open PySem PySem.Spec L2
theorem two_no {a b m : Str} {x y : V} (h1 : ¬ m = a) (h2 : ¬ m = b) : (putF a x (putF b y [])).lookup m = none := by
  rw [lookup_putF, if_neg h1, lookup_putF, if_neg h2]
  rfl
end Fb
namespace Fb
open PySem PySem.Spec L2
theorem OpenV.upd {K : PySem.W.Frag} {H : Hp} {q : Addr} {ys : List V} {o : HO} {v : V} {r : OpR} (hq : H q = some (.lst ys)) (h : OpenV K H v r) : OpenV K (upd H q o) v r := by
  obtain ⟨t, u, rfl, h1, h2⟩ := h
  exact ⟨t, u, rfl, sqt_upd hq h1, sqt_upd hq h2⟩
end Fb
namespace Fb
open PySem PySem.Spec L2
theorem op_catA_K {X : Cx} {K : PySem.W.Frag} (e : X.K = K) : L2.OpR X (binaryOp .Add) (rCatA K) := e ▸ op_catA
theorem cat_any {K : PySem.W.Frag} {H : Hp} {a b : Addr} {xs ys : List V} {Q : VK} (s1 : SqT K H a xs) (s2 : SqT K H b ys) (z : xs.length + ys.length ≤ 90000) (q : ∀ H' c, Same H H' → SqT K H' c (xs ++ ys) → Q (.ref c) H') : rCatA K (.ref a) (.ref b) H Q := by
  refine ⟨a, b, xs, ys, rfl, rfl, s1, s2, size5' (by omega), fun e => ?_, fun _ e => ?_, fun _ _ p np => q _ p (grow np) (SqT.of upd_same)⟩
  · subst e
    exact q H b (Same.refl _) s2
  · subst e
    exact q H a (Same.refl _) (by rw [List.append_nil]; exact s1)
end Fb
namespace Fb
open PySem PySem.Spec L2
def RowN (K : PySem.W.Frag) (n : Nat) (H : Hp) (v : V) : Prop := ∃ l, TupI K H v l ∧ l.length = n
theorem RowN.mono {K : PySem.W.Frag} {n : Nat} {H H' : Hp} {v : V} (h : RowN K n H v) (e : Same H H') : RowN K n H' v := by
  obtain ⟨l, h, z⟩ := h
  exact ⟨l, h.mono e, z⟩
theorem RowN.upd {K : PySem.W.Frag} {n : Nat} {H : Hp} {q : Addr} {ys : List V} {o : HO} {v : V} (hq : H q = some (.lst ys)) (h : RowN K n H v) : RowN K n (upd H q o) v := by
  obtain ⟨l, h, z⟩ := h
  exact ⟨l, tupI_upd hq h, z⟩
end Fb
set_option Elab.async false
set_option linter.all false
set_option maxRecDepth 100000
set_option maxHeartbeats 4000000
namespace Fb
open PySem PySem.Spec
/-- a sorted list has one form -/
theorem sorted_one {α : Type} {R : α → α → Prop} : ∀ {l m : List α}, (∀ a ∈ l, ∀ b ∈ l, R a b → R b a → a = b) → l.Pairwise R → m.Pairwise R → l.Nodup → m.Nodup → (∀ x, x ∈ l ↔ x ∈ m) → l = m
  | [], [], _, _, _, _, _, _ => rfl
  | [], b :: m, _, _, _, _, _, h => nomatch (h b).mpr (List.mem_cons_self ..)
  | a :: l, [], _, _, _, _, _, h => nomatch (h a).mp (List.mem_cons_self ..)
  | a :: l, b :: m, anti, p, q, n1, n2, h => by
    obtain ⟨p1, p2⟩ := List.pairwise_cons.mp p
    obtain ⟨q1, q2⟩ := List.pairwise_cons.mp q
    obtain ⟨k1, k2⟩ := List.nodup_cons.mp n1
    obtain ⟨j1, j2⟩ := List.nodup_cons.mp n2
    have e : a = b := by
      rcases List.mem_cons.mp ((h a).mp (List.mem_cons_self ..)) with e | m1
      · exact e
      rcases List.mem_cons.mp ((h b).mpr (List.mem_cons_self ..)) with e | m2
      · exact e.symm
      exact anti a (List.mem_cons_self ..) b (List.mem_cons_of_mem _ m2) (p1 b m2) (q1 a m1)
    subst e
    congr 1
    refine sorted_one (fun x hx y hy => anti x (List.mem_cons_of_mem _ hx) y (List.mem_cons_of_mem _ hy)) p2 q2 k2 j2 fun x => ⟨fun m1 => ?_, fun m1 => ?_⟩
    · rcases List.mem_cons.mp ((h x).mp (List.mem_cons_of_mem _ m1)) with rfl | m2
      · exact absurd m1 k1
      · exact m2
    · rcases List.mem_cons.mp ((h x).mpr (List.mem_cons_of_mem _ m1)) with rfl | m2
      · exact absurd m1 j1
      · exact m2
section
variable {α : Type} (cov : α → α → Bool) (le : α → α → Bool)
def thS (k : List α) (r : α) : List α := if (k.any fun o => cov o r) = true then k else k ++ [r]
theorem thS_t {k : List α} {r : α} (h : (k.any fun o => cov o r) = true) : thS cov k r = k := if_pos h
theorem thS_f {k : List α} {r : α} (h : (k.any fun o => cov o r) = false) : thS cov k r = k ++ [r] := if_neg (by rw [h]; exact Bool.false_ne_true)
theorem thS_inv (D : α → Prop) (rfl1 : ∀ a, D a → cov a a = true) (tr : ∀ a b c, D a → D b → D c → cov a b = true → cov b c = true → cov a c = true) (bef : ∀ a b, D a → D b → cov a b = true → a ≠ b → le b a = false) :
    ∀ (s p k : List α), (∀ x ∈ p ++ s, D x) → (p ++ s).Pairwise (fun a b => le a b = true) → k.Sublist p → k.Nodup → (∀ x, x ∈ k ↔ x ∈ p ∧ ∀ y ∈ p, cov y x = true → y = x) → (∀ y ∈ p, ∃ m ∈ k, cov m y = true) →
      (s.foldl (thS cov) k).Sublist (p ++ s) ∧ (s.foldl (thS cov) k).Nodup ∧ (∀ x, x ∈ s.foldl (thS cov) k ↔ x ∈ p ++ s ∧ ∀ y ∈ p ++ s, cov y x = true → y = x) ∧ ∀ y ∈ p ++ s, ∃ m ∈ s.foldl (thS cov) k, cov m y = true
  | [], p, k, _, _, sub, nd, mem, cv => by
    rw [List.append_nil]
    exact ⟨sub, nd, mem, cv⟩
  | r :: s, p, k, hD, pw, sub, nd, mem, cv => by
    have ea : p ++ r :: s = (p ++ [r]) ++ s := by rw [List.append_assoc]; rfl
    have Dp : ∀ x ∈ p, D x := fun x m => hD x (List.mem_append_left _ m)
    have Dr : D r := hD r (List.mem_append_right _ (List.mem_cons_self ..))
    have ler : ∀ x ∈ p, le x r = true := fun x m => (List.pairwise_append.mp pw).2.2 x m r (List.mem_cons_self ..)
    have keep : ∀ x, x ∈ k → ∀ y ∈ p ++ [r], cov y x = true → y = x := fun x m y my c => by
      have mx := (mem x).mp m
      rcases List.mem_append.mp my with my | my
      · exact mx.2 y my c
      · cases List.mem_singleton.mp my
        by_cases e : r = x
        · exact e
        · have := bef r x Dr (Dp x mx.1) c e
          rw [ler x mx.1] at this
          cases this
    rw [List.foldl_cons, ea]
    cases c : k.any fun o => cov o r with
    | true =>
      rw [thS_t cov c]
      obtain ⟨o, mo, co⟩ := List.any_eq_true.mp c
      refine thS_inv D rfl1 tr bef s (p ++ [r]) k (by rw [← ea]; exact hD) (by rw [← ea]; exact pw) (sub.trans (List.sublist_append_left ..)) nd (fun x => ⟨fun m => ⟨List.mem_append_left _ ((mem x).mp m).1, keep x m⟩, fun m => ?_⟩) fun y my => ?_
      · rcases List.mem_append.mp m.1 with m1 | m1
        · exact (mem x).mpr ⟨m1, fun y my => m.2 y (List.mem_append_left _ my)⟩
        · cases List.mem_singleton.mp m1
          have := m.2 o (List.mem_append_left _ ((mem o).mp mo).1) co
          subst this
          exact mo
      · rcases List.mem_append.mp my with my | my
        · exact cv y my
        · cases List.mem_singleton.mp my
          exact ⟨o, mo, co⟩
    | false =>
      rw [thS_f cov c]
      have no : ∀ o ∈ k, cov o r = false := fun o mo => by
        cases h : cov o r with
        | false => rfl
        | true =>
          rw [List.any_eq_true.mpr ⟨o, mo, h⟩] at c
          cases c
      have nr : r ∉ k := fun m => by
        have := no r m
        rw [rfl1 r Dr] at this
        cases this
      refine thS_inv D rfl1 tr bef s (p ++ [r]) (k ++ [r]) (by rw [← ea]; exact hD) (by rw [← ea]; exact pw) (sub.append (List.Sublist.refl _)) ?_ (fun x => ⟨fun m => ?_, fun m => ?_⟩) fun y my => ?_
      · refine List.nodup_append.mpr ⟨nd, List.nodup_cons.mpr ⟨(fun m => nomatch m), .nil⟩, fun a ma b mb => ?_⟩
        cases List.mem_singleton.mp mb
        intro e
        exact nr (e ▸ ma)
      · rcases List.mem_append.mp m with m1 | m1
        · exact ⟨List.mem_append_left _ ((mem x).mp m1).1, keep x m1⟩
        · cases List.mem_singleton.mp m1
          refine ⟨List.mem_append_right _ (List.mem_singleton.mpr rfl), fun y my cy => ?_⟩
          rcases List.mem_append.mp my with my | my
          · obtain ⟨o, mo, co⟩ := cv y my
            have := no o mo
            rw [tr o y r (Dp o ((mem o).mp mo).1) (Dp y my) Dr co cy] at this
            cases this
          · exact List.mem_singleton.mp my
      · rcases List.mem_append.mp m.1 with m1 | m1
        · exact List.mem_append_left _ ((mem x).mpr ⟨m1, fun y my => m.2 y (List.mem_append_left _ my)⟩)
        · exact List.mem_append_right _ m1
      · rcases List.mem_append.mp my with my | my
        · obtain ⟨o, mo, co⟩ := cv y my
          exact ⟨o, List.mem_append_left _ mo, co⟩
        · cases List.mem_singleton.mp my
          exact ⟨r, List.mem_append_right _ (List.mem_singleton.mpr rfl), rfl1 r Dr⟩
end
end Fb
namespace Fb
open PySem PySem.Spec
/-- the law's own: those that no other one is above -/
def minF {α : Type} [DecidableEq α] (cov : α → α → Bool) (S : List α) : List α := S.filter fun x => !(S.any fun y => !(decide (y = x)) && cov y x)
theorem minF_mem {α : Type} [DecidableEq α] {cov : α → α → Bool} {S : List α} (x : α) : x ∈ minF cov S ↔ x ∈ S ∧ ∀ y ∈ S, cov y x = true → y = x := by
  unfold minF
  rw [List.mem_filter]
  refine and_congr Iff.rfl ⟨fun h y my c => ?_, fun h => ?_⟩
  · by_cases e : y = x
    · exact e
    · have : (S.any fun y => !(decide (y = x)) && cov y x) = true := List.any_eq_true.mpr ⟨y, my, by rw [decide_eq_false e, c]; rfl⟩
      rw [this] at h
      cases h
  · have : (S.any fun y => !(decide (y = x)) && cov y x) = false := by
      rw [List.any_eq_false]
      intro y my c
      rw [Bool.and_eq_true] at c
      rw [decide_eq_true (h y my c.2)] at c
      cases c.1
    rw [this]
    rfl
theorem is_minF {α : Type} [DecidableEq α] {cov : α → α → Bool} {R : α → α → Prop} {L S ls : List α} (anti : ∀ a ∈ ls, ∀ b ∈ ls, R a b → R b a → a = b) (p1 : L.Pairwise R) (n1 : L.Nodup) (m1 : ∀ x, x ∈ L ↔ x ∈ ls ∧ ∀ y ∈ ls, cov y x = true → y = x) (p2 : S.Pairwise R) (n2 : S.Nodup) (m2 : ∀ x, x ∈ S ↔ x ∈ ls) : L = minF cov S := by
  refine sorted_one (fun a ma b mb => anti a ((m1 a).mp ma).1 b ((m1 b).mp mb).1) p1 (p2.filter _) n1 (n2.filter _) fun x => ?_
  rw [m1, minF_mem, m2]
  exact and_congr Iff.rfl ⟨fun h y my => h y ((m2 y).mp my), fun h y my => h y ((m2 y).mpr my)⟩
theorem le_tot {α : Type} (k : α → PyData) : PySem.W.TotalLe (PySem.W.dataLe false k) := by
  unfold PySem.W.dataLe
  exact PySem.W.sortLe_total _ _ _
end Fb
namespace Fb
open PySem PySem.Spec
theorem nat_lex : ∀ {a b : List Nat}, ¬ a < b → ¬ b < a → a = b
  | [], [], _, _ => rfl
  | [], b :: bs, h, _ => absurd (List.nil_lt_cons b bs) h
  | a :: as, [], _, h => absurd (List.nil_lt_cons a as) h
  | a :: as, b :: bs, h1, h2 => by
    rw [List.cons_lt_cons_iff] at h1 h2
    have e : a = b := by
      rcases Nat.lt_trichotomy a b with h | h | h
      · exact absurd (.inl h) h1
      · exact h
      · exact absurd (.inl h) h2
    subst e
    rw [nat_lex (fun h => h1 (.inr ⟨rfl, h⟩)) fun h => h2 (.inr ⟨rfl, h⟩)]
theorem str_lex {x y : Str} (h1 : PySem.W.dataLt (.str x) (.str y) = false) (h2 : PySem.W.dataLt (.str y) (.str x) = false) : x = y := by
  rw [PySem.W.dataLt_str] at h1 h2
  exact PySem.W.str_of_cps (nat_lex (of_decide_eq_false h1) (of_decide_eq_false h2))
theorem strLe_tot : PySem.W.TotalLe strLe := le_tot PyData.str
theorem strLe_anti {x y : Str} (h1 : strLe x y = true) (h2 : strLe y x = true) : x = y := by
  have h1 : (!PySem.W.dataLt (.str y) (.str x)) = true := h1
  have h2 : (!PySem.W.dataLt (.str x) (.str y)) = true := h2
  exact str_lex (by simpa using h2) (by simpa using h1)
theorem eqv_str {x y : Str} : PyData.eqv (.str x) (.str y) = true ↔ x = y := by simp [PyData.eqv]
theorem lot_lex : ∀ {l m : List Str}, PySem.W.rowLt (l.map .str) (m.map .str) = false → PySem.W.rowLt (m.map .str) (l.map .str) = false → l = m
  | [], [], _, _ => rfl
  | [], y :: m, h, _ => by
    have e : PySem.W.rowLt [] (PyData.str y :: m.map .str) = true := by
      unfold PySem.W.rowLt
      rw [PySem.W.toks_all_cons]
      simp only [PySem.W.keyToksAll]
      rw [PyProof.Rows.lex_diff (O := PyProof.Rows.itemOrd) (by simp)]
      rfl
    have h : PySem.W.rowLt [] (PyData.str y :: m.map .str) = false := h
    rw [e] at h
    cases h
  | x :: l, [], _, h => by
    have e : PySem.W.rowLt [] (PyData.str x :: l.map .str) = true := by
      unfold PySem.W.rowLt
      rw [PySem.W.toks_all_cons]
      simp only [PySem.W.keyToksAll]
      rw [PyProof.Rows.lex_diff (O := PyProof.Rows.itemOrd) (by simp)]
      rfl
    have h : PySem.W.rowLt [] (PyData.str x :: l.map .str) = false := h
    rw [e] at h
    cases h
  | x :: l, y :: m, h1, h2 => by
    have h1 : PySem.W.rowLt (PyData.str x :: l.map .str) (PyData.str y :: m.map .str) = false := h1
    have h2 : PySem.W.rowLt (PyData.str y :: m.map .str) (PyData.str x :: l.map .str) = false := h2
    unfold PySem.W.rowLt at h1 h2
    rw [PySem.W.dataLt_cons (by simp [PySem.W.alike])] at h1 h2
    by_cases e : x = y
    · subst e
      rw [if_pos (eqv_str.mpr rfl)] at h1 h2
      rw [lot_lex (l := l) (m := m) h1 h2]
    · rw [if_neg (fun c => e (eqv_str.mp c))] at h1
      rw [if_neg (fun c => e (eqv_str.mp c).symm)] at h2
      exact absurd (str_lex h1 h2) e
theorem lots_eqv : ∀ {l m : List Str}, PyData.eqvAll (l.map .str) (m.map .str) = true → l = m
  | [], [], _ => rfl
  | [], y :: m, h => by
    rw [List.map_nil, List.map_cons] at h
    simp [PyData.eqvAll] at h
  | x :: l, [], h => by
    rw [List.map_nil, List.map_cons] at h
    simp [PyData.eqvAll] at h
  | x :: l, y :: m, h => by
    rw [List.map_cons, List.map_cons, PySem.W.eqv_all_cons, Bool.and_eq_true] at h
    rw [eqv_str.mp h.1, lots_eqv h.2]
theorem eqv_strs : ∀ l : List Str, PyData.eqvAll (l.map .str) (l.map .str) = true := fun l => PySem.W.eqvAll_refl_alike _ (alike_strs l l)
theorem opLe_tot : PySem.W.TotalLe opLe := le_tot openD
theorem sizLe_tot : PySem.W.TotalLe sizLe := le_tot sizD
theorem opLe_anti {a b : OpR} (h1 : opLe a b = true) (h2 : opLe b a = true) : a = b := by
  have h1 : (!PySem.W.dataLt (openD b) (openD a)) = true := h1
  have h2 : (!PySem.W.dataLt (openD a) (openD b)) = true := h2
  have h1 : PySem.W.dataLt (openD b) (openD a) = false := by simpa using h1
  have h2 : PySem.W.dataLt (openD a) (openD b) = false := by simpa using h2
  obtain ⟨p, l⟩ := a
  obtain ⟨q, m⟩ := b
  unfold openD at h1 h2
  have al : ∀ l m : List Str, PySem.W.alike (lotD l) (lotD m) = true := fun l m => by
    simp [lotD, PySem.W.alike, alike_strs]
  rw [PySem.W.dataLt_pair (by simp [PySem.W.alike]) (al _ _), PySem.W.dataLt_int] at h1 h2
  have one : ∀ l m : List Str, PyData.eqv (lotD l) (lotD m) = true → l = m := fun l m h => by
    unfold lotD at h
    rw [PyData.eqv] at h
    exact lots_eqv h
  have ei : ∀ x y : Int, (PyData.eqv (.int x) (.int y) = true) = (x = y) := fun x y => by simp [PyData.eqv]
  simp only [ei] at h1 h2
  by_cases e : p = q
  · subst e
    rw [if_pos rfl] at h1 h2
    have : l = m := by
      by_cases c : PyData.eqv (lotD m) (lotD l) = true
      · exact (one _ _ c).symm
      · by_cases c2 : PyData.eqv (lotD l) (lotD m) = true
        · exact one _ _ c2
        · rw [if_neg c] at h1
          rw [if_neg c2] at h2
          unfold lotD at h1 h2
          rw [PySem.W.dataLt_tuple] at h1 h2
          exact lot_lex h2 h1
    rw [this]
  · rw [if_neg (fun c => e c.symm)] at h1
    rw [if_neg e] at h2
    have := of_decide_eq_false h1
    have := of_decide_eq_false h2
    omega
theorem sizLe_no {a b : OpR} (h : a.1 < b.1 ∨ (a.1 = b.1 ∧ a.2.length < b.2.length)) : sizLe b a = false := by
  show (!PySem.W.dataLt (sizD a) (sizD b)) = false
  suffices e : PySem.W.dataLt (sizD a) (sizD b) = true by rw [e]; rfl
  unfold sizD
  rw [PySem.W.dataLt_tuple, PySem.W.dataLt_cons (by simp [PySem.W.alike]), PySem.W.dataLt_int]
  simp only [PyData.eqv, beq_iff_eq]
  rcases h with h | ⟨h1, h2⟩
  · rw [if_neg (by omega)]
    exact decide_eq_true h
  · rw [if_pos h1, PySem.W.dataLt_cons (by simp [PySem.W.alike]), PySem.W.dataLt_int]
    simp only [PyData.eqv, beq_iff_eq]
    rw [if_neg (by omega)]
    exact decide_eq_true (by omega)
end Fb
namespace Fb
open PySem PySem.Spec
theorem cnt_eq (z : Str) (l : List Str) : cnt z l = l.count z := by
  unfold cnt List.count
  exact List.countP_congr fun y _ => by simp
/-- a lot within another one -/
theorem sub_lot : ∀ {l m : List Str}, (∀ z, l.count z ≤ m.count z) → l.length ≤ m.length ∧ (l.length = m.length → l.Perm m)
  | [], m, _ => ⟨Nat.zero_le _, fun e => by
    have : m = [] := List.eq_nil_of_length_eq_zero e.symm
    rw [this]⟩
  | x :: l, m, h => by
    have hx := h x
    rw [List.count_cons_self] at hx
    have mx : x ∈ m := List.count_pos_iff.mp (by omega)
    have pm : m.Perm (x :: m.erase x) := List.perm_cons_erase mx
    have ih := sub_lot (l := l) (m := m.erase x) fun z => by
      have hz := h z
      rw [pm.count_eq z, List.count_cons, List.count_cons] at hz
      omega
    have lm := pm.length_eq
    rw [List.length_cons] at lm
    refine ⟨by rw [List.length_cons, lm]; omega, fun e => ?_⟩
    rw [List.length_cons, lm] at e
    exact ((ih.2 (by omega)).cons x).trans pm.symm
theorem cov_iff (a b : OpR) : covM a b = true ↔ a.1 ≤ b.1 ∧ ∀ z, a.2.count z ≤ b.2.count z := by
  unfold covM
  rw [Bool.and_eq_true, decide_eq_true_eq, List.all_eq_true]
  refine and_congr Iff.rfl ⟨fun h z => ?_, fun h z _ => decide_eq_true ?_⟩
  · by_cases m : z ∈ a.2
    · have := of_decide_eq_true (h z m)
      rwa [cnt_eq, cnt_eq] at this
    · rw [List.count_eq_zero_of_not_mem m]
      exact Nat.zero_le _
  · rw [cnt_eq, cnt_eq]
    exact h z
/-- the lot stands in order -/
def Cn (r : OpR) : Prop := r.2.Pairwise fun a b => strLe a b = true
theorem sortL_pw (l : List Str) : (sortL l).Pairwise fun a b => strLe a b = true := PySem.W.sort_pairwise strLe_tot l
theorem canon_cn (r : OpR) : Cn (canon r) := sortL_pw r.2
/-- lists in order that are one another's items -/
theorem sorted_perm : ∀ {l m : List Str}, l.Pairwise (fun a b => strLe a b = true) → m.Pairwise (fun a b => strLe a b = true) → l.Perm m → l = m
  | [], m, _, _, p => (List.Perm.nil_eq p)
  | x :: l, [], _, _, p => nomatch p.length_eq
  | x :: l, y :: m, p, q, h => by
    obtain ⟨p1, p2⟩ := List.pairwise_cons.mp p
    obtain ⟨q1, q2⟩ := List.pairwise_cons.mp q
    have e : x = y := by
      rcases List.mem_cons.mp (h.mem_iff.mp (List.mem_cons_self ..)) with e | m1
      · exact e
      rcases List.mem_cons.mp (h.mem_iff.mpr (List.mem_cons_self ..)) with e | m2
      · exact e.symm
      exact strLe_anti (p1 y m2) (q1 x m1)
    subst e
    rw [sorted_perm p2 q2 ((List.perm_cons x).mp h)]
theorem cov_bef {a b : OpR} (ha : Cn a) (hb : Cn b) (h : covM a b = true) (n : a ≠ b) : sizLe b a = false := by
  obtain ⟨h1, h2⟩ := (cov_iff a b).mp h
  obtain ⟨s1, s2⟩ := sub_lot h2
  refine sizLe_no ?_
  by_cases e : a.1 = b.1
  · refine .inr ⟨e, ?_⟩
    by_cases e2 : a.2.length = b.2.length
    · exact absurd (Prod.ext e (sorted_perm ha hb (s2 e2))) n
    · omega
  · exact .inl (by omega)
theorem open_is {ls S : List OpR} (p2 : S.Pairwise fun a b => opLe a b = true) (n2 : S.Nodup) (m2 : ∀ x, x ∈ S ↔ x ∈ ls.map canon) : outM ls = minF covM S := by
  have pw := PySem.W.sort_pairwise sizLe_tot (ls.map canon)
  have ms : ∀ x, x ∈ (ls.map canon).mergeSort sizLe ↔ x ∈ ls.map canon := fun x => List.mem_mergeSort
  have cn : ∀ x ∈ ls.map canon, Cn x := fun x m => by
    obtain ⟨r, _, rfl⟩ := List.mem_map.mp m
    exact canon_cn r
  obtain ⟨sub, nd, mem, _⟩ := thS_inv covM sizLe Cn (fun a _ => (cov_iff a a).mpr ⟨Int.le_refl _, fun _ => Nat.le_refl _⟩) (fun a b c _ _ _ h1 h2 => (cov_iff a c).mpr ⟨Int.le_trans ((cov_iff a b).mp h1).1 ((cov_iff b c).mp h2).1, fun z => Nat.le_trans (((cov_iff a b).mp h1).2 z) (((cov_iff b c).mp h2).2 z)⟩)
    (fun a b ha hb h n => cov_bef ha hb h n) ((ls.map canon).mergeSort sizLe) [] [] (fun x m => cn x ((ms x).mp m)) pw (List.Sublist.refl _) .nil (fun x => ⟨(fun m => nomatch m), fun m => nomatch m.1⟩) (fun y m => nomatch m)
  have e : ((ls.map canon).mergeSort sizLe).foldl (thS covM) [] = opnM ls := rfl
  rw [e] at sub nd mem
  have po : (outM ls).Perm (opnM ls) := List.mergeSort_perm _ _
  refine is_minF (R := fun a b => opLe a b = true) (ls := ls.map canon) (fun a _ b _ => opLe_anti) (PySem.W.sort_pairwise opLe_tot _) (po.nodup_iff.mpr nd) (fun x => ?_) p2 n2 m2
  rw [po.mem_iff, mem x]
  exact and_congr (ms x) ⟨fun h y my => h y ((ms y).mpr my), fun h y my => h y ((ms y).mp my)⟩
end Fb
namespace Fb
open PySem PySem.Spec L2
open PyProof.Rows hiding St
theorem imgs {α β : Type} (f : α → β) {rs : List α} : ∀ {S : List β}, (∀ p ∈ S, p ∈ rs.map f) → ∃ ss : List α, S = ss.map f ∧ ∀ r ∈ ss, r ∈ rs
  | [], _ => ⟨[], rfl, fun r m => nomatch m⟩
  | p :: S, h => by
    obtain ⟨r, mr, rfl⟩ := List.mem_map.mp (h p (List.mem_cons_self ..))
    obtain ⟨ss, rfl, hs⟩ := imgs f (S := S) fun q m => h q (List.mem_cons_of_mem _ m)
    refine ⟨r :: ss, rfl, fun q m => ?_⟩
    rcases List.mem_cons.mp m with rfl | m
    · exact mr
    · exact hs q m
theorem kept_of {α : Type} (key : α → NestedKey) (inj : ∀ a b, key a = key b → a = b) {rs : List (Addr × α)} {L M : List Ent} (sub : ∀ p ∈ L, p ∈ rs.map fun r => (r.1, key r.2)) (all : ∀ p ∈ rs.map (fun r => (r.1, key r.2)), p.2 ∈ L.map Prod.snd) (nd : (L.map Prod.snd).Nodup) (pm : M.Perm L) :
    ∃ ss : List (Addr × α), sortK entD M = ss.map (fun r => (r.1, key r.2)) ∧ (∀ r ∈ ss, r ∈ rs) ∧ (ss.map Prod.snd).Pairwise (fun a b => PySem.W.dataLe false (fun x => (key x).data) a b = true) ∧ (ss.map Prod.snd).Nodup ∧ ∀ x, x ∈ ss.map Prod.snd ↔ x ∈ rs.map Prod.snd := by
  have ps : (sortK entD M).Perm L := (List.mergeSort_perm _ _).trans pm
  obtain ⟨ss, es, hs⟩ := imgs (fun r : Addr × α => ((r.1, key r.2) : Ent)) (rs := rs) (S := sortK entD M) fun p m => sub p (ps.mem_iff.mp m)
  have ek : (sortK entD M).map Prod.snd = (ss.map Prod.snd).map key := by
    rw [es, List.map_map, List.map_map]
    rfl
  have pw := PySem.W.sort_pairwise (le_tot entD) M
  rw [show M.mergeSort (PySem.W.dataLe false entD) = ss.map (fun r => ((r.1, key r.2) : Ent)) from es, List.pairwise_map] at pw
  refine ⟨ss, es, hs, List.pairwise_map.mpr pw, ?_, fun x => ⟨fun m => ?_, fun m => ?_⟩⟩
  · have := (ps.map Prod.snd).nodup_iff.mpr nd
    rw [ek] at this
    exact nodup_of_map this
  · obtain ⟨r, mr, rfl⟩ := List.mem_map.mp m
    exact List.mem_map_of_mem (hs r mr)
  · obtain ⟨r, mr, rfl⟩ := List.mem_map.mp m
    have h1 := all _ (List.mem_map_of_mem (f := fun r : Addr × α => ((r.1, key r.2) : Ent)) mr)
    have h2 := ((ps.map Prod.snd).mem_iff).mpr h1
    rw [ek] at h2
    obtain ⟨y, my, ey⟩ := List.mem_map.mp h2
    rw [← inj _ _ ey]
    exact my
theorem filt_range {α β : Type} (d : α) (p : α → Bool) (f : α → β) : ∀ l : List α, ((List.range l.length).filter fun i => p (l.getD i d)).map (fun i => f (l.getD i d)) = (l.filter p).map f
  | [] => rfl
  | a :: l => by
    have ih := filt_range d p f l
    rw [List.length_cons, List.range_succ_eq_map, List.filter_cons, List.filter_cons]
    have e : ((List.map Nat.succ (List.range l.length)).filter fun i => p ((a :: l).getD i d)).map (fun i => f ((a :: l).getD i d)) = (l.filter p).map f := by
      rw [List.filter_map, List.map_map, ← ih]
      rfl
    show List.map _ (if p a = true then _ else _) = _
    split
    · rw [List.map_cons, e]
      rfl
    · exact e
theorem minF_pairs {α : Type} [DecidableEq α] (cov : α → α → Bool) (ss : List (Addr × α)) : (ss.filter fun r => !(ss.any fun y => !(decide (y.2 = r.2)) && cov y.2 r.2)).map Prod.snd = minF cov (ss.map Prod.snd) := by
  unfold minF
  rw [List.filter_map]
  congr 1
  refine List.filter_congr fun r _ => ?_
  show _ = (!((ss.map Prod.snd).any fun y => !(decide (y = r.2)) && cov y r.2))
  rw [List.any_map]
  rfl
def opK (r : OpR) : NestedKey := .tup [.num r.1, .tup (r.2.map .text)]
theorem datas_text : ∀ l : List Str, NestedKey.datas (l.map .text) = l.map .str
  | [] => rfl
  | x :: l => by
    rw [List.map_cons, NestedKey.datas, datas_text l]
    rfl
theorem data_op (r : OpR) : (opK r).data = openD r := by
  show PyData.tuple [.int r.1, .tuple (NestedKey.datas (r.2.map .text))] = _
  rw [datas_text]
  rfl
theorem text_inj : ∀ {l m : List Str}, l.map NestedKey.text = m.map NestedKey.text → l = m
  | [], [], _ => rfl
  | [], y :: m, h => nomatch h
  | x :: l, [], h => nomatch h
  | x :: l, y :: m, h => by
    rw [List.map_cons, List.map_cons] at h
    injection h with h1 h2
    injection h1 with h1
    rw [h1, text_inj h2]
theorem op_inj (a b : OpR) (h : opK a = opK b) : a = b := by
  obtain ⟨p, l⟩ := a
  obtain ⟨q, m⟩ := b
  unfold opK at h
  injection h with h
  injection h with h1 h2
  injection h2 with h2 _
  injection h1 with h1
  injection h2 with h2
  have e1 : p = q := h1
  have e2 : l = m := text_inj h2
  rw [e1, e2]
theorem depth_text : ∀ l : List Str, NestedKey.depthAll (l.map .text) = 0
  | [] => rfl
  | x :: l => by
    rw [List.map_cons, NestedKey.depthAll, depth_text l]
    rfl
theorem key_op {K : PySem.W.Frag} {H : Hp} {r : Addr × OpR} (h : OpenV K H (.ref r.1) r.2) : KeyO K H (r.1, opK r.2) := by
  refine ⟨?_, ?_⟩
  · show Dp K H (.ref r.1) (opK r.2).data
    rw [data_op]
    exact h.dp
  · show max 0 (max (NestedKey.depthAll (r.2.2.map .text) + 1) 0) + 1 ≤ 8
    rw [depth_text]
    decide
theorem eqv_lots (a b : List Str) : PyData.eqvAll (a.map .str) (b.map .str) = decide (a = b) := by
  by_cases e : a = b
  · subst e
    rw [eqv_strs, decide_eq_true rfl]
  · rw [decide_eq_false e]
    cases h : PyData.eqvAll (a.map .str) (b.map .str) with
    | false => rfl
    | true => exact absurd (lots_eqv h) e
theorem eqv_op (a b : OpR) : PyData.eqv (openD a) (openD b) = decide (a = b) := by
  obtain ⟨p, l⟩ := a
  obtain ⟨q, m⟩ := b
  unfold openD lotD
  simp only [PyData.eqv, PyData.eqvAll]
  rw [eqv_lots]
  by_cases h1 : p = q <;> by_cases h2 : l = m <;> simp [h1, h2]
end Fb
namespace Fb
theorem nodup_len {α : Type} : ∀ {l m : List α}, l.Nodup → (∀ x ∈ l, x ∈ m) → l.length ≤ m.length
  | [], m, _, _ => Nat.zero_le _
  | x :: l, m, n, h => by
    obtain ⟨n1, n2⟩ := List.nodup_cons.mp n
    obtain ⟨s, t, rfl⟩ := List.append_of_mem (h x (List.mem_cons_self ..))
    have := nodup_len (m := s ++ t) n2 fun y my => by
      rcases List.mem_append.mp (h y (List.mem_cons_of_mem _ my)) with z | z
      · exact List.mem_append_left _ z
      · rcases List.mem_cons.mp z with rfl | z
        · exact absurd my n1
        · exact List.mem_append_right _ z
    rw [List.length_append] at this ⊢
    rw [List.length_cons, List.length_cons]
    omega
end Fb
namespace Fb
open PySem PySem.Spec L2
open PyProof.Rows hiding St
structure MinC {α : Type} (cov : α → α → Bool) (A X : List α) : Prop where
  mem : ∀ x, x ∈ X ↔ x ∈ A ∧ ∀ y ∈ A, cov y x = true → y = x
  cv : ∀ y ∈ A, ∃ m ∈ X, cov m y = true
theorem cov_trans {a b c : OpR} (h1 : covM a b = true) (h2 : covM b c = true) : covM a c = true :=
  (cov_iff a c).mpr ⟨Int.le_trans ((cov_iff a b).mp h1).1 ((cov_iff b c).mp h2).1, fun z => Nat.le_trans (((cov_iff a b).mp h1).2 z) (((cov_iff b c).mp h2).2 z)⟩
theorem out_min (ls : List OpR) : MinC covM (ls.map canon) (outM ls) ∧ (outM ls).Nodup ∧ (outM ls).Pairwise fun a b => opLe a b = true := by
  have pw := PySem.W.sort_pairwise sizLe_tot (ls.map canon)
  have ms : ∀ x, x ∈ (ls.map canon).mergeSort sizLe ↔ x ∈ ls.map canon := fun x => List.mem_mergeSort
  have cn : ∀ x ∈ ls.map canon, Cn x := fun x m => by
    obtain ⟨r, _, rfl⟩ := List.mem_map.mp m
    exact canon_cn r
  obtain ⟨sub, nd, mem, cv⟩ := thS_inv covM sizLe Cn (fun a _ => (cov_iff a a).mpr ⟨Int.le_refl _, fun _ => Nat.le_refl _⟩) (fun a b c _ _ _ => cov_trans) (fun a b ha hb h n => cov_bef ha hb h n) ((ls.map canon).mergeSort sizLe) [] [] (fun x m => cn x ((ms x).mp m)) pw (List.Sublist.refl _) .nil
    (fun x => ⟨(fun m => nomatch m), fun m => nomatch m.1⟩) (fun y m => nomatch m)
  have e : ((ls.map canon).mergeSort sizLe).foldl (thS covM) [] = opnM ls := rfl
  rw [e] at sub nd mem cv
  have po : (outM ls).Perm (opnM ls) := List.mergeSort_perm _ _
  refine ⟨⟨fun x => ?_, fun y my => ?_⟩, po.nodup_iff.mpr nd, PySem.W.sort_pairwise opLe_tot _⟩
  · rw [po.mem_iff, mem x]
    exact and_congr (ms x) ⟨fun h y my => h y ((ms y).mpr my), fun h y my => h y ((ms y).mp my)⟩
  · obtain ⟨m, mm, c⟩ := cv y ((ms y).mpr my)
    exact ⟨m, po.mem_iff.mpr mm, c⟩
theorem canon_canon (r : OpR) : canon (canon r) = canon r := by
  unfold canon
  rw [show sortL (sortL r.2) = sortL r.2 from List.mergeSort_of_pairwise (sortL_pw r.2)]
end Fb
namespace Fb
open PySem PySem.Spec L2
open PyProof.Rows hiding St
theorem rowsO_dp {K : PySem.W.Frag} {H : Hp} : ∀ {vs : List V} {rs : List OpR}, RowsO K H vs rs → DpAll K H vs (rs.map openD)
  | _, _, .nil => .nil
  | _, _, .cons a t => .cons a.op.dp (rowsO_dp t)
theorem out_len {rs : List OpR} (h : ∀ r ∈ rs, r.2.length ≤ 1000) : (∀ r ∈ outM rs, r.2.length ≤ 1000) ∧ (outM rs).length ≤ rs.length := by
  obtain ⟨a, b, _⟩ := out_min rs
  refine ⟨fun r m => ?_, ?_⟩
  · obtain ⟨x, mx, rfl⟩ := List.mem_map.mp ((a.mem r).mp m).1
    show (sortL x.2).length ≤ 1000
    rw [show (sortL x.2).length = x.2.length from List.length_mergeSort _]
    exact h x mx
  · have := nodup_len b fun x m => ((a.mem x).mp m).1
    rwa [List.length_map] at this
theorem opens_dp {K : PySem.W.Frag} {H : Hp} {ps : List (V × OpR)} (h : ∀ p ∈ ps, OpenV K H p.1 p.2) : DpAll K H (ps.map Prod.fst) ((ps.map Prod.snd).map openD) := by
  rw [List.map_map]
  exact dpAll_map fun p m => (h p m).dp
theorem opn_nil : opnM [] = [] := by
  unfold opnM
  rw [List.map_nil, List.mergeSort_nil]
  rfl
end Fb
namespace Fb
open PySem PySem.Spec L2
open PyProof.Rows hiding St
/-- a list of rows of n numbers -/
def RwL (K : PySem.W.Frag) (n : Nat) (H : Hp) (R : Addr) (ls : List (List Int)) : Prop := ∃ xs, H R = some (.lst xs) ∧ RowsV K H xs ls ∧ ∀ l ∈ ls, l.length = n
/-- a list of rows of a price and a lot -/
def OpL (K : PySem.W.Frag) (H : Hp) (R : Addr) (rs : List OpR) : Prop := ∃ ps : List (V × OpR), H R = some (.lst (ps.map Prod.fst)) ∧ (∀ p ∈ ps, OpenV K H p.1 p.2 ∧ p.2.2.length ≤ 1000) ∧ ps.map Prod.snd = rs
theorem RwL.mono {K : PySem.W.Frag} {n : Nat} {H H' : Hp} {R : Addr} {ls : List (List Int)} (h : RwL K n H R ls) (e : Same H H') : RwL K n H' R ls := by
  obtain ⟨xs, h1, h2, h3⟩ := h
  exact ⟨xs, e _ _ h1, h2.mono e, h3⟩
theorem OpL.mono {K : PySem.W.Frag} {H H' : Hp} {R : Addr} {rs : List OpR} (h : OpL K H R rs) (e : Same H H') : OpL K H' R rs := by
  obtain ⟨ps, h1, h2, h3⟩ := h
  exact ⟨ps, e _ _ h1, fun p m => ⟨(h2 p m).1.mono e, (h2 p m).2⟩, h3⟩
theorem RwL.dp {K : PySem.W.Frag} {n : Nat} {H : Hp} {R : Addr} {ls : List (List Int)} (h : RwL K n H R ls) : Dp K H (.ref R) (.list (ls.map rowD)) := by
  obtain ⟨xs, h1, h2, _⟩ := h
  exact .lst (SqL.of h1) h2
theorem OpL.dp {K : PySem.W.Frag} {H : Hp} {R : Addr} {rs : List OpR} (h : OpL K H R rs) : Dp K H (.ref R) (.list (rs.map openD)) := by
  obtain ⟨ps, h1, h2, rfl⟩ := h
  exact .lst (SqL.of h1) (opens_dp fun p m => (h2 p m).1)
theorem eqv_nil {α : Type} (f : α → PyData) (ls : List α) : PyData.eqv (.list (ls.map f)) (.list []) = ls.isEmpty := by
  rw [eqv_list_nil]
  cases ls <;> rfl
theorem RwL.app {K : PySem.W.Frag} {n : Nat} {H : Hp} {A B : Addr} {ls ms : List (List Int)} (h1 : RwL K n H A ls) (h2 : RwL K n H B ms) (z : ls.length + ms.length ≤ 1000) {Q : VK} (q : ∀ H' c, Same H H' → RwL K n H' c (ls ++ ms) → Q (.ref c) H') : rCat (.ref A) (.ref B) H Q := by
  obtain ⟨xs, a1, a2, a3⟩ := h1
  obtain ⟨ys, b1, b2, b3⟩ := h2
  refine ⟨A, B, xs, ys, rfl, rfl, a1, b1, size5' (by rw [a2.len, b2.len]; omega), fun p np => q _ p (grow np) ⟨_, upd_same, (a2.mono (grow np)).app (b2.mono (grow np)), fun l m => ?_⟩⟩
  rcases List.mem_append.mp m with m | m
  · exact a3 l m
  · exact b3 l m
theorem OpL.app {K : PySem.W.Frag} {H : Hp} {A B : Addr} {ls ms : List OpR} (h1 : OpL K H A ls) (h2 : OpL K H B ms) (z : ls.length + ms.length ≤ 1000) {Q : VK} (q : ∀ H' c, Same H H' → OpL K H' c (ls ++ ms) → Q (.ref c) H') : rCat (.ref A) (.ref B) H Q := by
  obtain ⟨ps, a1, a2, rfl⟩ := h1
  obtain ⟨qs, b1, b2, rfl⟩ := h2
  rw [List.length_map, List.length_map] at z
  refine ⟨A, B, _, _, rfl, rfl, a1, b1, size5' (by rw [List.length_map, List.length_map]; omega), fun p np => q _ p (grow np) ⟨ps ++ qs, by rw [upd_same, List.map_append], fun x m => ?_, List.map_append ..⟩⟩
  rcases List.mem_append.mp m with m | m
  · exact ⟨(a2 x m).1.mono (grow np), (a2 x m).2⟩
  · exact ⟨(b2 x m).1.mono (grow np), (b2 x m).2⟩
end Fb
namespace Fb
open PySem PySem.Spec L2
end Fb
set_option Elab.async false
set_option linter.all false
set_option maxRecDepth 100000
set_option maxHeartbeats 4000000
namespace Fb
open PySem PySem.Spec L2
open PyProof.Rows hiding St
open LamX (ExtN Tabs TabB)
def AloneP (t : Ln) (S : List Ln) (roof : Int) : Prop := ∃ n d : Int, 0 < n ∧ 0 < d ∧ n ≤ roof * d ∧ ∀ u ∈ S, u ≠ t → vA t n d < vA u n d
structure Chn (roof : Int) (S : List Ln) : Prop where
  fall : S.Pairwise fun x y => y.2 < x.2
  al : ∀ t ∈ S, AloneP t S roof
theorem mid_lt {a b c e n d : Int} (h : a * e < c * b) (hn : n = a + c) (hd : d = b + e) : a * d < b * n ∧ e * n < c * d := by
  subst hn hd
  rw [Int.mul_add, Int.mul_add, Int.mul_add, Int.mul_add]
  have e1 := Int.mul_comm a b
  have e2 := Int.mul_comm b c
  have e3 := Int.mul_comm e a
  have e4 := Int.mul_comm e c
  omega
theorem va_lt (t u : Ln) (n d : Int) : vA t n d < vA u n d ↔ (t.1 - u.1) * d < (u.2 - t.2) * n := by
  unfold vA
  rw [Int.sub_mul, Int.sub_mul]
  omega
theorem good_alone {roof : Int} (hr : 1 ≤ roof) {S : List Ln} (g : Good roof S.reverse) : ∀ t ∈ S, AloneP t S roof := by
  intro t ht
  obtain ⟨pre, suf, e⟩ := List.append_of_mem (List.mem_reverse.mpr ht)
  have fin : ∀ n d : Int, 0 < n → 0 < d → n ≤ roof * d → (∀ z ∈ suf, vA t n d < vA z n d) → (∀ z ∈ pre, vA t n d < vA z n d) → AloneP t S roof := fun n d h1 h2 h3 h4 h5 => by
    refine ⟨n, d, h1, h2, h3, fun u hu ne => ?_⟩
    have hu := List.mem_reverse.mpr hu
    rw [e] at hu
    rcases List.mem_append.mp hu with hu | hu
    · exact h5 u hu
    · rcases List.mem_cons.mp hu with hu | hu
      · exact absurd hu ne
      · exact h4 u hu
  rw [e] at g
  have gt := good_at g
  rcases List.eq_nil_or_concat pre with rfl | ⟨p, u, rfl⟩
  · cases suf with
    | nil => exact fin 1 1 (by decide) (by decide) (by omega) (fun z h => nomatch h) (fun z h => nomatch h)
    | cons s r =>
      have b := blw_lt gt.2.1
      refine fin roof 1 (by omega) (by decide) (by omega) (chain_down (by decide) gt fun s' r' es => ?_) (fun z h => nomatch h)
      cases es
      unfold vA
      omega
  · have gu : Good roof (u :: t :: suf) := good_at (pre := p) (by rw [List.concat_eq_append, List.append_assoc] at g; exact g)
    have b1 := gu.1
    have b2 := blw_lt gu.2.1
    rw [List.concat_eq_append] at g fin
    cases suf with
    | nil =>
      have d0 : (0 : Int) < t.2 - u.2 + 1 := by
        have := b1.2
        omega
      have m := Int.mul_le_mul_of_nonneg_right (show (1 : Int) ≤ roof from hr) (Int.le_of_lt d0)
      refine fin 1 (t.2 - u.2 + 1) (by decide) d0 (by omega) (fun z h => nomatch h) (chain_up d0 g fun u' p' es => ?_).2
      obtain ⟨_, e2⟩ := List.append_inj' es rfl
      cases e2
      rw [va_lt]
      have := b1.1
      have m2 := Int.mul_le_mul_of_nonneg_right (show t.1 - u.1 ≤ -1 by omega) (Int.le_of_lt d0)
      have e3 : (u.2 - t.2) * 1 = u.2 - t.2 := Int.mul_one _
      omega
    | cons s r =>
      have c1 := gt.1
      have c2 := blw_lt gt.2.1
      have nv := nev_lt (gu.2.2.1 s r rfl)
      obtain ⟨k1, k2⟩ := mid_lt (a := t.1 - s.1) (b := s.2 - t.2) (c := u.1 - t.1) (e := t.2 - u.2) nv rfl rfl
      have a1 := b1.1
      have a2 := b1.2
      have a3 := c1.1
      have a4 := c1.2
      have d0 : (0 : Int) < s.2 - t.2 + (t.2 - u.2) := by omega
      refine fin (t.1 - s.1 + (u.1 - t.1)) (s.2 - t.2 + (t.2 - u.2)) (by omega) d0 ?_ (chain_down d0 gt fun s' r' es => ?_) (chain_up d0 g fun u' p' es => ?_).2
      · rw [Int.mul_add, Int.mul_sub, Int.mul_sub]
        have e1 := Int.mul_comm roof s.2
        have e2 := Int.mul_comm roof t.2
        have e3 := Int.mul_comm roof u.2
        omega
      · cases es
        rw [va_lt]
        exact k1
      · obtain ⟨_, e2⟩ := List.append_inj' es rfl
        cases e2
        rw [va_lt]
        have := Int.neg_lt_neg k2
        rw [← Int.neg_mul, ← Int.neg_mul] at this
        rw [show t.1 - u.1 = -(u.1 - t.1) by omega, show u.2 - t.2 = -(t.2 - u.2) by omega]
        exact this
theorem chn_of_good {roof : Int} (hr : 1 ≤ roof) {S : List Ln} (g : Good roof S.reverse) : Chn roof S :=
  ⟨(List.pairwise_reverse.mp (good_rows g)).imp fun h => h.2, good_alone hr g⟩
theorem Chn.bf {roof : Int} {S : List Ln} (h : Chn roof S) : Rows S := by
  have key : S.Pairwise fun x y => x ∈ S ∧ y ∈ S ∧ y.2 < x.2 := List.Pairwise.and_mem.mp h.fall |>.imp fun ⟨a, b, c⟩ => ⟨a, b, c⟩
  refine key.imp fun {x y} ⟨hx, hy, lt⟩ => ⟨?_, lt⟩
  obtain ⟨n, d, n0, d0, _, k⟩ := h.al x hx
  have k := (va_lt x y n d).mp (k y hy fun e => by rw [e] at lt; omega)
  have m := Int.mul_lt_mul_of_pos_right (show y.2 - x.2 < 0 by omega) n0
  rw [Int.zero_mul] at m
  have : (x.1 - y.1) * d < 0 * d := by omega
  have := Int.lt_of_mul_lt_mul_right this (Int.le_of_lt d0)
  omega
end Fb
set_option Elab.async false
set_option linter.all false
set_option maxRecDepth 100000
set_option maxHeartbeats 4000000
namespace Fb
open PySem PySem.Spec L2
open PyProof.Rows hiding St
open LamX (ExtN Tabs TabB)
inductive Tr
  | leaf (k : Nat)
  | node (b : Bool) (l r : Tr)
def Tr.dat : Tr → PyData
  | .leaf k => .int k
  | .node b l r => .tuple [.str (if b = true then "best" else "then"), l.dat, r.dat]
def Tr.lvs : Tr → Nat
  | .leaf _ => 1
  | .node _ l r => l.lvs + r.lvs
def Tr.ok : Tr → Prop
  | .leaf k => k < 3
  | .node _ l r => l.ok ∧ r.ok
theorem Tr.pos : ∀ t : Tr, 0 < t.lvs
  | .leaf _ => Nat.one_pos
  | .node _ l r => Nat.add_pos_left (Tr.pos l) _
def Tr.raw (lots : Nat → List Ln) : Tr → List Ln
  | .leaf k => lots k
  | .node b l r => if b = true then l.raw lots ++ r.raw lots else sumsM (l.raw lots) (r.raw lots)
theorem mem_sums {A B : List Ln} {x : Ln} : x ∈ sumsM A B ↔ ∃ p ∈ A, ∃ q ∈ B, x = (p.1 + q.1, p.2 + q.2) := by
  unfold sumsM
  rw [List.mem_flatMap]
  constructor
  · rintro ⟨p, hp, hx⟩
    obtain ⟨q, hq, rfl⟩ := List.mem_map.mp hx
    exact ⟨p, hp, q, hq, rfl⟩
  · rintro ⟨p, hp, q, hq, rfl⟩
    exact ⟨p, hp, List.mem_map.mpr ⟨q, hq, rfl⟩⟩
/-- rows of m leaves -/
def BdN (m : Nat) (r : Ln) : Prop := 0 ≤ r.1 ∧ r.1 ≤ 1000000 * (m : Int) ∧ 0 ≤ r.2 ∧ r.2 ≤ 5 * (m : Int)
theorem BdN.h {m : Nat} {r : Ln} (h : BdN m r) (z : m ≤ 5) : BdH r := by
  obtain ⟨a, b, c, d⟩ := h
  exact ⟨a, by omega, c, by omega⟩
structure TO (R S : List Ln) : Prop where
  sub : ∀ x ∈ S, x ∈ R
  cov : ∀ q ∈ R, ∃ r ∈ S, r.1 ≤ q.1 ∧ r.2 ≤ q.2
  rows : Rows S
structure LO (roof : Int) (R S : List Ln) : Prop where
  sub : ∀ x ∈ S, x ∈ R
  cov : ∀ n d : Int, 0 ≤ n → 0 < d → n ≤ roof * d → ∀ q ∈ R, ∃ t ∈ S, vA t n d ≤ vA q n d
  chn : Chn roof S
theorem TO.best {R1 R2 S1 S2 : List Ln} (h1 : TO R1 S1) (h2 : TO R2 S2) : TO (R1 ++ R2) (thinP (S1 ++ S2)) := by
  obtain ⟨a, b, c⟩ := thinP_ok (S1 ++ S2)
  refine ⟨fun x hx => ?_, fun q hq => ?_, b⟩
  · rcases List.mem_append.mp (a x hx) with h | h
    · exact List.mem_append_left _ (h1.sub x h)
    · exact List.mem_append_right _ (h2.sub x h)
  · have : ∃ r ∈ S1 ++ S2, r.1 ≤ q.1 ∧ r.2 ≤ q.2 := by
      rcases List.mem_append.mp hq with h | h
      · obtain ⟨r, hr, k⟩ := h1.cov q h
        exact ⟨r, List.mem_append_left _ hr, k⟩
      · obtain ⟨r, hr, k⟩ := h2.cov q h
        exact ⟨r, List.mem_append_right _ hr, k⟩
    obtain ⟨r, hr, k1, k2⟩ := this
    obtain ⟨y, hy, j1, j2⟩ := c r hr
    exact ⟨y, hy, by omega, by omega⟩
theorem TO.then {R1 R2 S1 S2 : List Ln} (h1 : TO R1 S1) (h2 : TO R2 S2) : TO (sumsM R1 R2) (thinP (sumsM S1 S2)) := by
  obtain ⟨a, b, c⟩ := thinP_ok (sumsM S1 S2)
  refine ⟨fun x hx => ?_, fun z hz => ?_, b⟩
  · obtain ⟨p, hp, q, hq, rfl⟩ := mem_sums.mp (a x hx)
    exact mem_sums.mpr ⟨p, h1.sub p hp, q, h2.sub q hq, rfl⟩
  · obtain ⟨p, hp, q, hq, rfl⟩ := mem_sums.mp hz
    obtain ⟨p', hp', a1, a2⟩ := h1.cov p hp
    obtain ⟨q', hq', b1, b2⟩ := h2.cov q hq
    obtain ⟨y, hy, j1, j2⟩ := c (p'.1 + q'.1, p'.2 + q'.2) (mem_sums.mpr ⟨p', hp', q', hq', rfl⟩)
    refine ⟨y, hy, ?_, ?_⟩ <;> dsimp only at * <;> omega
theorem TO.ne {R S : List Ln} (h : TO R S) (n : R ≠ []) : S ≠ [] := fun e => by
  cases R with
  | nil => exact n rfl
  | cons q r =>
    obtain ⟨y, hy, _⟩ := h.cov q (List.mem_cons_self ..)
    rw [e] at hy
    cases hy
theorem LO.ne {roof : Int} (h0 : 1 ≤ roof) {R S : List Ln} (h : LO roof R S) (n : R ≠ []) : S ≠ [] := fun e => by
  cases R with
  | nil => exact n rfl
  | cons q r =>
    obtain ⟨y, hy, _⟩ := h.cov 0 1 (by decide) (by decide) (by omega) q (List.mem_cons_self ..)
    rw [e] at hy
    cases hy
theorem vA_sum (p q : Ln) (n d : Int) : vA (p.1 + q.1, p.2 + q.2) n d = vA p n d + vA q n d := by
  unfold vA
  dsimp only
  rw [Int.add_mul, Int.add_mul]
  omega
theorem LO.best {roof : Int} (h0 : 1 ≤ roof) {R1 R2 S1 S2 S : List Ln} (h1 : LO roof R1 S1) (h2 : LO roof R2 S2) (e : lowestM roof (S1 ++ S2) = some S) : LO roof (R1 ++ R2) S := by
  obtain ⟨_, a, g, c⟩ := lowest_ok e
  refine ⟨fun x hx => ?_, fun n d n0 d0 le q hq => ?_, chn_of_good h0 g⟩
  · rcases List.mem_append.mp (a x hx) with h | h
    · exact List.mem_append_left _ (h1.sub x h)
    · exact List.mem_append_right _ (h2.sub x h)
  · have : ∃ r ∈ S1 ++ S2, vA r n d ≤ vA q n d := by
      rcases List.mem_append.mp hq with h | h
      · obtain ⟨r, hr, k⟩ := h1.cov n d n0 d0 le q h
        exact ⟨r, List.mem_append_left _ hr, k⟩
      · obtain ⟨r, hr, k⟩ := h2.cov n d n0 d0 le q h
        exact ⟨r, List.mem_append_right _ hr, k⟩
    obtain ⟨r, hr, k⟩ := this
    obtain ⟨y, hy, j⟩ := c n d n0 d0 le r hr
    exact ⟨y, hy, Int.le_trans j k⟩
theorem LO.then {roof : Int} (h0 : 1 ≤ roof) {R1 R2 S1 S2 S : List Ln} (h1 : LO roof R1 S1) (h2 : LO roof R2 S2) (e : lowestM roof (sumsM S1 S2) = some S) : LO roof (sumsM R1 R2) S := by
  obtain ⟨_, a, g, c⟩ := lowest_ok e
  refine ⟨fun x hx => ?_, fun n d n0 d0 le z hz => ?_, chn_of_good h0 g⟩
  · obtain ⟨p, hp, q, hq, rfl⟩ := mem_sums.mp (a x hx)
    exact mem_sums.mpr ⟨p, h1.sub p hp, q, h2.sub q hq, rfl⟩
  · obtain ⟨p, hp, q, hq, rfl⟩ := mem_sums.mp hz
    obtain ⟨p', hp', a1⟩ := h1.cov n d n0 d0 le p hp
    obtain ⟨q', hq', b1⟩ := h2.cov n d n0 d0 le q hq
    obtain ⟨y, hy, j⟩ := c n d n0 d0 le (p'.1 + q'.1, p'.2 + q'.2) (mem_sums.mpr ⟨p', hp', q', hq', rfl⟩)
    refine ⟨y, hy, Int.le_trans j ?_⟩
    rw [vA_sum, vA_sum]
    omega
theorem Rows.fall {S : List Ln} (h : Rows S) : S.Pairwise fun x y => y.2 < x.2 := h.imp fun k => k.2
/-- m is the least that a line of S has at n / d -/
def LeastAt (S : List Ln) (n d m : Int) : Prop := (∃ x ∈ S, m = vA x n d) ∧ ∀ y ∈ S, m ≤ vA y n d
theorem LeastAt.one {S W : List Ln} {n d a b : Int} (h1 : LeastAt S n d a) (h2 : LeastAt W n d b) (i : ∀ y ∈ W, ∃ x ∈ S, vA x n d ≤ vA y n d) (j : ∀ y ∈ S, ∃ x ∈ W, vA x n d ≤ vA y n d) : a = b := by
  obtain ⟨⟨x, hx, rfl⟩, k1⟩ := h1
  obtain ⟨⟨y, hy, rfl⟩, k2⟩ := h2
  obtain ⟨x', hx', c1⟩ := i y hy
  obtain ⟨y', hy', c2⟩ := j x hx
  have := k1 x' hx'
  have := k2 y' hy'
  omega
theorem TO.at {R S : List Ln} (h : TO R S) {n d : Int} (n0 : 0 ≤ n) (d0 : 0 < d) : (∀ y ∈ R, ∃ x ∈ S, vA x n d ≤ vA y n d) ∧ ∀ y ∈ S, ∃ x ∈ R, vA x n d ≤ vA y n d := by
  refine ⟨fun y hy => ?_, fun y hy => ⟨y, h.sub y hy, Int.le_refl _⟩⟩
  obtain ⟨r, hr, a, b⟩ := h.cov y hy
  have m1 := Int.mul_le_mul_of_nonneg_right a (Int.le_of_lt d0)
  have m2 := Int.mul_le_mul_of_nonneg_right b n0
  refine ⟨r, hr, ?_⟩
  unfold vA
  omega
end Fb
set_option Elab.async false
set_option linter.all false
set_option maxRecDepth 100000
namespace Fb
open PySem PySem.Spec L2
open PyProof.Rows hiding St
section
variable {P : Program} {w : World} {A : Around} {E : Value → Shared → Prop} {s : Shared}
end
section
variable {w : World}
end
end Fb
set_option Elab.async false
set_option linter.all false
set_option maxRecDepth 100000
set_option maxHeartbeats 4000000
namespace Fb
open PySem PySem.Spec L2
open PyProof.Rows hiding St
open LamX (ExtN Tabs TabB)
def dfw (w1 w2 : Str) (top : Int) (t : Addr) : List (Str × V) := putF "stay" (.ref t) (putF "top" (.int top) (putF "slope" (.str w2) (putF "wish" (.str w1) [])))
def DialW (C : Addr) (H : Hp) (p : Addr) (top : Int) : Prop := ∃ dx t w1 w2, H p = some (.ins C dx (dfw w1 w2 top t))
theorem DialW.mono {C : Addr} {H H' : Hp} {p : Addr} {top : Int} (h : DialW C H p top) (e : Same H H') : DialW C H' p top := by
  obtain ⟨dx, t, w1, w2, h⟩ := h
  exact ⟨dx, t, w1, w2, e _ _ h⟩
theorem dfw_no (w1 w2 : Str) (top : Int) (t : Addr) {m : Str} (h1 : ¬ m = "stay") (h2 : ¬ m = "top") (h3 : ¬ m = "slope") (h4 : ¬ m = "wish") : (dfw w1 w2 top t).lookup m = none := by
  unfold dfw
  rw [lookup_putF, if_neg h1, lookup_putF, if_neg h2, lookup_putF, if_neg h3, lookup_putF, if_neg h4]
  rfl
def TradeW (C : Addr) (H : Hp) (p : Addr) : Prop := ∃ dx fs, H p = some (.ins C dx fs) ∧ fs.lookup ("best" : Str) = none ∧ fs.lookup ("then" : Str) = none
theorem TradeW.mono {C : Addr} {H H' : Hp} {p : Addr} (h : TradeW C H p) (e : Same H H') : TradeW C H' p := by
  obtain ⟨dx, fs, h, k⟩ := h
  exact ⟨dx, fs, e _ _ h, k⟩
abbrev NmS (z : Str) : Prop := nameB (.str z) = true
theorem NmS.len {z : Str} (h : NmS z) : z.length ≤ 8 := by
  have h : (decide (1 ≤ z.length) && decide (z.length ≤ 8) && z.cps.toList.all letC) = true := h
  rw [Bool.and_eq_true, Bool.and_eq_true] at h
  exact of_decide_eq_true h.1.2
theorem tr_leaf {K : PySem.W.Frag} {H : Hp} {v : V} {k : Nat} (h : Dp K H v (Tr.leaf k).dat) : v = .int k := by
  cases h
  rfl
theorem tr_node {K : PySem.W.Frag} {H : Hp} {v : V} {b : Bool} {l r : Tr} (h : Dp K H v (Tr.node b l r).dat) : ∃ A x y, v = .ref A ∧ SqT K H A [.str (if b = true then "best" else "then"), x, y] ∧ Dp K H x l.dat ∧ Dp K H y r.dat := by
  cases h with
  | tup s al =>
    cases al with
    | cons h1 al =>
      cases al with
      | cons h2 al =>
        cases al with
        | cons h3 al =>
          cases al
          cases h1
          exact ⟨_, _, _, rfl, s, h2, h3⟩
theorem node_tr {K : PySem.W.Frag} {H : Hp} {A : Addr} {x y : V} {b : Bool} {l r : Tr} (s : SqT K H A [.str (if b = true then "best" else "then"), x, y]) (h1 : Dp K H x l.dat) (h2 : Dp K H y r.dat) : Dp K H (.ref A) (Tr.node b l r).dat :=
  .tup s (.cons (.str _) (.cons h1 (.cons h2 .nil)))
theorem leaf_tr {K : PySem.W.Frag} {H : Hp} (k : Nat) : Dp K H (.int k) (Tr.leaf k).dat := .int _
/-- a list of rows -/
def RwN (K : PySem.W.Frag) (H : Hp) (D : Addr) (S : List Ln) : Prop := ∃ us, H D = some (.lst us) ∧ RowsV K H us (S.map tol)
theorem RwN.mono {K : PySem.W.Frag} {H H' : Hp} {D : Addr} {S : List Ln} (h : RwN K H D S) (e : Same H H') : RwN K H' D S := by
  obtain ⟨us, h1, h2⟩ := h
  exact ⟨us, e _ _ h1, h2.mono e⟩
/-- the three values at the leaves -/
structure Vals3 (K : PySem.W.Frag) (H : Hp) (L : Addr) (base : Nat → List Ln) : Prop where
  ex : ∃ vs : List V, H L = some (.lst vs) ∧ vs.length = 3 ∧ ∀ k v, vs[k]? = some v → Dp K H v (lnD (some (base k)))
theorem Vals3.mono {K : PySem.W.Frag} {H H' : Hp} {L : Addr} {base : Nat → List Ln} (h : Vals3 K H L base) (e : Same H H') : Vals3 K H' L base := by
  obtain ⟨vs, h1, h2, h3⟩ := h.ex
  exact ⟨vs, e _ _ h1, h2, fun k v g => dp_mono e _ (h3 k v g)⟩
/-- three lists of rows -/
structure Lots3 (K : PySem.W.Frag) (H : Hp) (L : Addr) (base : Nat → List Ln) : Prop where
  ex : ∃ vs : List V, H L = some (.lst vs) ∧ vs.length = 3 ∧ ∀ k v, vs[k]? = some v → ∃ D, v = .ref D ∧ RwN K H D (base k)
theorem Lots3.mono {K : PySem.W.Frag} {H H' : Hp} {L : Addr} {base : Nat → List Ln} (h : Lots3 K H L base) (e : Same H H') : Lots3 K H' L base := by
  obtain ⟨vs, h1, h2, h3⟩ := h.ex
  exact ⟨vs, e _ _ h1, h2, fun k v g => by
    obtain ⟨D, e1, r⟩ := h3 k v g
    exact ⟨D, e1, r.mono e⟩⟩
theorem at2 {x y z : V} {xs : List V} : atI (x :: y :: z :: xs) 2 = some z := (show atI (x :: y :: z :: xs) ((2 : Nat) : Int) = some z from atI_nat rfl)
/-- a setting -/
def SetB (roof m : Int) (p : Ln) : Prop := 0 ≤ p.1 ∧ 0 < p.2 ∧ p.1 ≤ roof * p.2 ∧ p.2 ≤ m
theorem SetB.bd {roof m : Int} {p : Ln} (h : SetB roof m p) (r0 : 1 ≤ roof) (r1 : roof ≤ 1000000) (m1 : m ≤ 10000) : 0 ≤ p.1 ∧ p.1 ≤ 10000000000 ∧ 0 < p.2 ∧ p.2 ≤ 10000 := by
  obtain ⟨a, b, c, d⟩ := h
  have := Int.mul_le_mul (show roof ≤ 1000000 from r1) (show p.2 ≤ 10000 by omega) (by omega) (by decide)
  exact ⟨a, by omega, b, by omega⟩
end Fb
set_option Elab.async false
set_option linter.all false
set_option maxRecDepth 100000
set_option maxHeartbeats 4000000
namespace Fb
open PySem PySem.Spec L2
open PyProof.Rows hiding St
open LamX (ExtN Tabs TabB)
/-- a growing list of lines -/
def GrowL (K : PySem.W.Frag) (G : Hp) (D : Addr) (n : Nat) (base : Nat → List Ln) : Prop := ∃ ys : List V, G D = some (.lst ys) ∧ ys.length = n ∧ ∀ k v, ys[k]? = some v → ∃ A xs, v = .ref A ∧ SqT K G A xs ∧ RowsV K G xs ((base k).map tol)
theorem GrowL.vals {K : PySem.W.Frag} {G : Hp} {D : Addr} {base : Nat → List Ln} (h : GrowL K G D 3 base) : Vals3 K G D base := by
  obtain ⟨ys, h1, h2, h3⟩ := h
  exact ⟨ys, h1, h2, fun k v g => by
    obtain ⟨A, xs, rfl, s, r⟩ := h3 k v g
    exact ln_dp s r⟩
/-- one more at the end, behind a call that may change tables -/
theorem GrowL.snoc {K : PySem.W.Frag} {G G' : Hp} {D A : Addr} {n : Nat} {base : Nat → List Ln} {xs : List V} {S : List Ln} (h : GrowL K G D n base) (e : Same (noT G) G') (s : SqT K G' A xs) (r : RowsV K G' xs (S.map tol)) :
    ∃ acc, G' D = some (.lst acc) ∧ acc.length = n ∧ GrowL K (upd G' D (.lst (acc ++ [.ref A]))) D (n + 1) (fun k => if k = n then S else base k) := by
  obtain ⟨ys, h1, h2, h3⟩ := h
  have h4 := e _ _ (noT_at h1 (fun _ e => nomatch e))
  refine ⟨ys, h4, h2, ys ++ [.ref A], upd_same, by rw [List.length_append, h2]; rfl, fun k v g => ?_⟩
  by_cases c : k < n
  · rw [List.getElem?_append_left (by omega)] at g
    obtain ⟨A2, xs2, rfl, s2, r2⟩ := h3 k v g
    refine ⟨A2, xs2, rfl, sqt_upd h4 (same_tup e (noT_sqt s2)), ?_⟩
    show RowsV K _ xs2 ((if k = n then S else base k).map tol)
    rw [if_neg (by omega)]
    exact ((noT_rows r2).mono e).upd h4
  · rw [List.getElem?_append_right (by omega)] at g
    have : k - ys.length = 0 := by
      cases z : k - ys.length with
      | zero => rfl
      | succ m =>
        rw [z] at g
        cases g
    rw [this] at g
    cases g
    refine ⟨A, xs, rfl, sqt_upd h4 s, ?_⟩
    show RowsV K _ xs ((if k = n then S else base k).map tol)
    rw [if_pos (by omega)]
    exact r.upd h4
end Fb
set_option Elab.async false
set_option linter.all false
set_option maxRecDepth 100000
set_option maxHeartbeats 4000000
namespace Fb
open PySem PySem.Spec L2
open PyProof.Rows hiding St
open C8 (Cal Met Mak Def cal0 met0 mak0 pe_c pe_mk pe_mt pe_mt0 fnScope fnBody fnArgs)
/-- o.m(e, .., k = v, ..): n positional values beside the object, keywords by their values' number -/
def tMethN (C : Addr) (m : Str) (n j : Nat) (sp : Sp) (gV : List V → List V → List V) (E : XK) (ta : TE) (t tk : TA) : TE := fun σ H Q => ta σ H fun x H1 => ∃ a dx fs, x = .ref a ∧ H1 a = some (.ins C dx fs) ∧ fs.lookup m = none ∧
  t σ H1 fun vs H2 => tk σ H2 fun zs H3 => vs.length = n ∧ zs.length = j ∧ sp (gV (.ref a :: vs) zs) H3 Q E
section
variable {X : Cx} {CX : CXT} {k n : Nat} {f C : Addr} {fd : FuncData} {ps ks : List Str} {sp : Sp} {E : XK} {m : Str} {pos apos : Pos} {o e : Expr} {es : List Expr} {kws : List Keyword} {ta : TE} {t tk : TA} {g : List Value → List Value → List Value} {gV : List V → List V → List V}
theorem pe_methN0 {pl : Sem Bool} (he : PE X o ta) (c : Cls X.K C) (hm : Meth X.K C m f) (F : FnOk X.prog X.w X.K X.mg X.base CX k f fd ps sp) (hr : Room k X.A) (hb : KBn X.K fd ps 1 ks g gV) (hx : Passes CX X E)
    (hkw : PK X kws tk) (hall : (backToKw pos (keywordEach kws X.env)).all (·.1.isSome) = true := by rfl) (hks : (backToKw pos (keywordEach kws X.env)).filterMap (·.1) = ks := by rfl)
    (hpl : ((backTo pos (starEach [] X.env)).any (·.1) || (backToKw pos (keywordEach kws X.env)).any (·.1.isNone)) = false := by rfl)
    (ht : eval (.Call (.Attribute o m apos) [] kws pos) X.env = (do
      let ov ← eval o X.env
      standAt apos.atName
      let (f, first) ← holding [ov] (getMethod ov m pl)
      callWith pos f first (backTo pos (starEach [] X.env)) (backToKw pos (keywordEach kws X.env))) := by rfl) :
    PE X (.Call (.Attribute o m apos) [] kws pos) (tMethN C m 0 ks.length sp gV E ta tNil tk) := by
  constructor
  intro pins s σ H Q I h
  refine PySem.W.methodCall_KW (pl := pl) (thn (he.run pins s σ H _ I h) ?_) ht
  rintro u s1 ⟨x, H1, I1, rx, a, dx, fs, ex, ea, l, q⟩
  subst ex
  obtain rfl : u = Value.ref a := rx
  refine getmeth_ok I1 ea c hm l ?_
  refine PySem.W.callWith_KW0 (first := [.ref a]) (h₀ := X.base) I.ok.mod.kin hm.kp hall (thn (hkw.run pos pins s1 σ H1 _ I1 q) ?_) hpl
  rintro ws s2 ⟨zs, H2, I2, rz, l1, l2, q2⟩
  refine ⟨I2.kIn, ?_⟩
  rw [hks]
  exact run_fnN (us := [.ref a]) (vs := [.ref a]) F hr hb hx I2 (.cons rfl .nil) rz rfl l2 q2
end
/-- a method that may be called with n positional values beside the object and these keywords -/
structure MetK (P : Program) (w : World) (K : PySem.W.Frag) (mg : Str → Option Value) (base : Heap) (k : Nat) (C : Addr) (m : Str) (sp : Sp) (n : Nat) (ks : List Str) (gV : List V → List V → List V) : Prop where
  ex : ∃ (f : Addr) (fd : FuncData) (ps : List Str) (g : List Value → List Value → List Value), Cls K C ∧ Meth K C m f ∧ FnOk P w K mg base C8.CX0 k f fd ps sp ∧ KBn K fd ps (n + 1) ks g gV
section
variable {X : Cx} {k j n : Nat} {C : Addr} {m : Str} {sp : Sp} {ks : List Str} {gV : List V → List V → List V} {pos apos : Pos} {o e : Expr} {es : List Expr} {kws : List Keyword} {ta : TE} {t tk : TA}
theorem pe_mtk0 {pl : Sem Bool} (c : MetK X.prog X.w X.K X.mg X.base k C m sp 0 ks gV) (hr : Room j X.A) (hk : k ≤ j) (he : PE X o ta) (hkw : PK X kws tk)
    (hall : (backToKw pos (keywordEach kws X.env)).all (·.1.isSome) = true := by rfl) (hks : (backToKw pos (keywordEach kws X.env)).filterMap (·.1) = ks := by rfl)
    (hpl : ((backTo pos (starEach [] X.env)).any (·.1) || (backToKw pos (keywordEach kws X.env)).any (·.1.isNone)) = false := by rfl)
    (ht : eval (.Call (.Attribute o m apos) [] kws pos) X.env = (do
      let ov ← eval o X.env
      standAt apos.atName
      let (f, first) ← holding [ov] (getMethod ov m pl)
      callWith pos f first (backTo pos (starEach [] X.env)) (backToKw pos (keywordEach kws X.env))) := by rfl) :
    PE X (.Call (.Attribute o m apos) [] kws pos) (tMethN C m 0 ks.length sp gV C8.E0 ta tNil tk) := by
  obtain ⟨f, fd, ps, g, hc, hm, F, b⟩ := c.ex
  exact pe_methN0 (pl := pl) he hc hm F (hr.mono hk) b C8.pass0 hkw hall hks hpl ht
end
end Fb
set_option Elab.async false
set_option linter.all false
set_option maxRecDepth 100000
set_option maxHeartbeats 4000000
namespace Fb
open PySem PySem.Spec L2
open PyProof.Rows hiding St
/-- the sums of rows, lots sorted -/
def opsM (A B : List OpR) : List OpR := A.flatMap fun p => B.map fun q => canon (p.1 + q.1, p.2 ++ q.2)
theorem mem_ops {A B : List OpR} {x : OpR} : x ∈ opsM A B ↔ ∃ p ∈ A, ∃ q ∈ B, x = canon (p.1 + q.1, p.2 ++ q.2) := by
  unfold opsM
  rw [List.mem_flatMap]
  constructor
  · rintro ⟨p, hp, hx⟩
    obtain ⟨q, hq, rfl⟩ := List.mem_map.mp hx
    exact ⟨p, hp, q, hq, rfl⟩
  · rintro ⟨p, hp, q, hq, rfl⟩
    exact ⟨p, hp, List.mem_map.mpr ⟨q, hq, rfl⟩⟩
theorem canon_count (r : OpR) (z : Str) : (canon r).2.count z = r.2.count z := (List.mergeSort_perm _ _).count_eq z
theorem canon_perm (r : OpR) : (canon r).2.Perm r.2 := List.mergeSort_perm _ _
/-- S tells the rows of R: some of them, each covered by one of S, thinned -/
structure OO (R S : List OpR) : Prop where
  cn : ∀ r ∈ R, canon r = r
  sub : ∀ x ∈ S, x ∈ R
  cov : ∀ r ∈ R, ∃ x ∈ S, covM x r = true
theorem cov_refl (a : OpR) : covM a a = true := (cov_iff a a).mpr ⟨Int.le_refl _, fun _ => Nat.le_refl _⟩
theorem map_canon {R : List OpR} (h : ∀ r ∈ R, canon r = r) : R.map canon = R := by
  conv => rhs; rw [← List.map_id R]
  exact List.map_congr_left fun r m => h r m
theorem OO.out {R : List OpR} (h : ∀ r ∈ R, canon r = r) : OO R (outM R) := by
  obtain ⟨⟨mem, cv⟩, _, _⟩ := out_min R
  rw [map_canon h] at mem cv
  exact ⟨h, fun x m => ((mem x).mp m).1, cv⟩
theorem OO.best {R1 R2 S1 S2 : List OpR} (a : OO R1 S1) (b : OO R2 S2) : OO (R1 ++ R2) (outM (S1 ++ S2)) := by
  have cn : ∀ r ∈ S1 ++ S2, canon r = r := fun r m => by
    rcases List.mem_append.mp m with m | m
    · exact a.cn r (a.sub r m)
    · exact b.cn r (b.sub r m)
  have o := OO.out cn
  refine ⟨fun r m => ?_, fun x m => ?_, fun r m => ?_⟩
  · rcases List.mem_append.mp m with m | m
    · exact a.cn r m
    · exact b.cn r m
  · rcases List.mem_append.mp (o.sub x m) with m | m
    · exact List.mem_append_left _ (a.sub x m)
    · exact List.mem_append_right _ (b.sub x m)
  · rcases List.mem_append.mp m with m | m
    · obtain ⟨x, mx, c⟩ := a.cov r m
      obtain ⟨y, my, d⟩ := o.cov x (List.mem_append_left _ mx)
      exact ⟨y, my, cov_trans d c⟩
    · obtain ⟨x, mx, c⟩ := b.cov r m
      obtain ⟨y, my, d⟩ := o.cov x (List.mem_append_right _ mx)
      exact ⟨y, my, cov_trans d c⟩
theorem cov_sum {p q x y : OpR} (h1 : covM x p = true) (h2 : covM y q = true) : covM (canon (x.1 + y.1, x.2 ++ y.2)) (canon (p.1 + q.1, p.2 ++ q.2)) = true := by
  obtain ⟨a1, a2⟩ := (cov_iff _ _).mp h1
  obtain ⟨b1, b2⟩ := (cov_iff _ _).mp h2
  refine (cov_iff _ _).mpr ⟨Int.add_le_add a1 b1, fun z => ?_⟩
  rw [canon_count, canon_count]
  show (x.2 ++ y.2).count z ≤ (p.2 ++ q.2).count z
  rw [List.count_append, List.count_append]
  exact Nat.add_le_add (a2 z) (b2 z)
theorem OO.then {R1 R2 S1 S2 : List OpR} (a : OO R1 S1) (b : OO R2 S2) : OO (opsM R1 R2) (outM (opsM S1 S2)) := by
  have cn : ∀ {A B : List OpR}, ∀ r ∈ opsM A B, canon r = r := fun r m => by
    obtain ⟨p, _, q, _, rfl⟩ := mem_ops.mp m
    exact canon_canon _
  have o := OO.out (cn (A := S1) (B := S2))
  refine ⟨cn, fun x m => ?_, fun r m => ?_⟩
  · obtain ⟨p, mp, q, mq, rfl⟩ := mem_ops.mp (o.sub x m)
    exact mem_ops.mpr ⟨p, a.sub p mp, q, b.sub q mq, rfl⟩
  · obtain ⟨p, mp, q, mq, rfl⟩ := mem_ops.mp m
    obtain ⟨x, mx, c⟩ := a.cov p mp
    obtain ⟨y, my, d⟩ := b.cov q mq
    obtain ⟨u, mu, e⟩ := o.cov _ (mem_ops.mpr ⟨x, mx, y, my, rfl⟩)
    exact ⟨u, mu, cov_trans e (cov_sum c d)⟩
theorem out_canon (ls : List OpR) : outM (ls.map canon) = outM ls := by
  have : (ls.map canon).map canon = ls.map canon := by
    rw [List.map_map]
    exact List.map_congr_left fun r _ => canon_canon r
  unfold outM opnM
  rw [this]
theorem out_cn {ls : List OpR} : ∀ r ∈ outM ls, canon r = r := fun r m => by
  obtain ⟨⟨mem, _⟩, _, _⟩ := out_min ls
  obtain ⟨q, _, rfl⟩ := List.mem_map.mp ((mem r).mp m).1
  exact canon_canon q
theorem out_out (ls : List OpR) : outM (outM ls) = outM ls := by
  obtain ⟨⟨am, _⟩, a2, a3⟩ := out_min ls
  obtain ⟨⟨bm, _⟩, b2, b3⟩ := out_min (outM ls)
  rw [map_canon out_cn] at bm
  refine sorted_one (R := fun a b => opLe a b = true) (fun a _ b _ => opLe_anti) b3 a3 b2 a2 fun x => ?_
  rw [bm]
  exact ⟨fun h => h.1, fun h => ⟨h, fun y my c => ((am x).mp h).2 y ((am y).mp my).1 c⟩⟩
/-- a value of Open: None, or thinned rows -/
def OptO (K : PySem.W.Frag) (H : Hp) (v : V) (S : List OpR) : Prop := (S = [] ∧ v = .non) ∨ (S ≠ [] ∧ ∃ D ys, v = .ref D ∧ H D = some (.tup ys) ∧ RowsO K H ys S)
theorem OptO.mono {K : PySem.W.Frag} {H H' : Hp} {v : V} {S : List OpR} (h : OptO K H v S) (e : Same H H') : OptO K H' v S := by
  rcases h with h | ⟨n, D, ys, rfl, hD, hy⟩
  · exact .inl h
  · exact .inr ⟨n, D, ys, rfl, e _ _ hD, hy.mono e⟩
def abcN : List Str := ["a", "b", "c", "ab"]
/-- what the law draws: few short rows, thinned -/
structure LotK (N : List Str) (S : List OpR) : Prop where
  out : outM S = S
  len : S.length ≤ 3
  row : ∀ r ∈ S, 0 ≤ r.1 ∧ r.1 < 1000000 ∧ r.2.length ≤ 3 ∧ ∀ z ∈ r.2, z ∈ N
theorem LotK.nil (N : List Str) : LotK N [] := ⟨by unfold outM; rw [opn_nil]; exact List.mergeSort_nil, Nat.zero_le _, fun r m => nomatch m⟩
theorem LotK.oo {N : List Str} {S : List OpR} (h : LotK N S) : OO S S := ⟨fun r m => by rw [← h.out] at m; exact out_cn r m, fun x m => m, fun r m => ⟨r, m, cov_refl r⟩⟩
theorem rows_of {R : V → OpR → Prop} : ∀ {xs : List V}, (∀ (i : Nat) (v : V), xs[i]? = some v → ∃ r, R v r) → ∃ ps : List (V × OpR), xs = ps.map Prod.fst ∧ ∀ p ∈ ps, R p.1 p.2
  | [], _ => ⟨[], rfl, fun p m => nomatch m⟩
  | x :: xs, h => by
    obtain ⟨r, hr⟩ := h 0 x rfl
    obtain ⟨ps, e, hp⟩ := rows_of (xs := xs) fun i v g => h (i + 1) v g
    refine ⟨(x, r) :: ps, by rw [e]; rfl, fun p m => ?_⟩
    rcases List.mem_cons.mp m with rfl | m
    · exact hr
    · exact hp p m
theorem OO.ne {R S : List OpR} (o : OO R S) (n : R ≠ []) : S ≠ [] := fun e => by
  obtain ⟨r, mr⟩ := List.exists_mem_of_ne_nil _ n
  obtain ⟨x, mx, _⟩ := o.cov r mr
  rw [e] at mx
  cases mx
def feeS (f : Str → Int) (l : List Str) : Int := (l.map f).sum
theorem sumI_perm {a b : List Int} (h : a.Perm b) : a.sum = b.sum := by
  induction h with
  | nil => rfl
  | cons x _ ih => rw [List.sum_cons, List.sum_cons, ih]
  | swap x y l =>
    rw [List.sum_cons, List.sum_cons, List.sum_cons, List.sum_cons]
    omega
  | trans _ _ h1 h2 => exact h1.trans h2
theorem feeS_perm {f : Str → Int} {a b : List Str} (h : a.Perm b) : feeS f a = feeS f b := sumI_perm (h.map f)
theorem feeS_pos {f : Str → Int} (hf : ∀ z, 0 ≤ f z) : ∀ l : List Str, 0 ≤ feeS f l
  | [] => Int.le_refl _
  | z :: l => by
    have := feeS_pos hf l
    have := hf z
    unfold feeS at *
    rw [List.map_cons, List.sum_cons]
    omega
theorem feeS_cons (f : Str → Int) (z : Str) (l : List Str) : feeS f (z :: l) = f z + feeS f l := by
  unfold feeS
  rw [List.map_cons, List.sum_cons]
theorem feeS_app (f : Str → Int) : ∀ a b : List Str, feeS f (a ++ b) = feeS f a + feeS f b
  | [], b => by
    show feeS f b = 0 + feeS f b
    omega
  | z :: a, b => by
    rw [List.cons_append, feeS_cons, feeS_cons, feeS_app f a b]
    omega
theorem feeS_le {f : Str → Int} (hf : ∀ z, 0 ≤ f z) : ∀ (a b : List Str), (∀ z, a.count z ≤ b.count z) → feeS f a ≤ feeS f b
  | [], b, _ => feeS_pos hf b
  | z :: a, b, h => by
    have mz : z ∈ b := List.count_pos_iff.mp (Nat.lt_of_lt_of_le (by rw [List.count_cons_self]; omega) (h z))
    have p := List.perm_cons_erase mz
    rw [feeS_perm p, feeS_cons, feeS_cons]
    have ih := feeS_le hf a (b.erase z) fun y => by
      have h1 := h y
      rw [p.count_eq y, List.count_cons, List.count_cons] at h1
      omega
    omega
/-- the prices of the rows that no barred name closes -/
def usable (B : List Str) (r : OpR) : Bool := r.2.all fun z => !decide (z ∈ B)
def priceR (f : Str → Int) (r : OpR) : Int := r.1 + feeS f r.2
def pricesR (f : Str → Int) (B : List Str) (R : List OpR) : List Int := (R.filter (usable B)).map (priceR f)
/-- m is the least of l; none of none -/
def LeastO (l : List Int) : Option Int → Prop
  | none => l = []
  | some m => m ∈ l ∧ ∀ x ∈ l, m ≤ x
theorem LeastO.uniq {l : List Int} : ∀ {a b : Option Int}, LeastO l a → LeastO l b → a = b
  | none, none, _, _ => rfl
  | none, some m, h, h2 => by
    have := h2.1
    rw [show l = [] from h] at this
    cases this
  | some m, none, h2, h => by
    have := h2.1
    rw [show l = [] from h] at this
    cases this
  | some m, some n, h, h2 => congrArg some (Int.le_antisymm (h.2 n h2.1) (h2.2 m h.1))
theorem mem_prices {f : Str → Int} {B : List Str} {R : List OpR} {x : Int} : x ∈ pricesR f B R ↔ ∃ r ∈ R, usable B r = true ∧ x = priceR f r := by
  unfold pricesR
  rw [List.mem_map]
  constructor
  · rintro ⟨r, hr, rfl⟩
    exact ⟨r, (List.mem_filter.mp hr).1, (List.mem_filter.mp hr).2, rfl⟩
  · rintro ⟨r, hr, hu, rfl⟩
    exact ⟨r, List.mem_filter.mpr ⟨hr, hu⟩, rfl⟩
theorem usable_iff {B : List Str} {r : OpR} : usable B r = true ↔ ∀ z ∈ r.2, z ∉ B := by
  unfold usable
  rw [List.all_eq_true]
  exact ⟨fun h z m => by simpa using h z m, fun h z m => by simpa using h z m⟩
theorem cov_usable {B : List Str} {a b : OpR} (h : covM a b = true) (u : usable B b = true) : usable B a = true :=
  usable_iff.mpr fun z m => usable_iff.mp u z (List.count_pos_iff.mp (Nat.lt_of_lt_of_le (List.count_pos_iff.mpr m) (((cov_iff a b).mp h).2 z)))
theorem cov_price {f : Str → Int} (hf : ∀ z, 0 ≤ f z) {a b : OpR} (h : covM a b = true) : priceR f a ≤ priceR f b := by
  obtain ⟨h1, h2⟩ := (cov_iff a b).mp h
  have := feeS_le hf a.2 b.2 h2
  unfold priceR
  omega
/-- what is read from the thinned rows is what is read from all -/
theorem OO.read {R S : List OpR} (o : OO R S) {f : Str → Int} (hf : ∀ z, 0 ≤ f z) {B : List Str} : ∀ {m : Option Int}, LeastO (pricesR f B R) m ↔ LeastO (pricesR f B S) m := by
  have fwd : ∀ x ∈ pricesR f B R, ∃ y ∈ pricesR f B S, y ≤ x := fun x m => by
    obtain ⟨r, mr, ur, rfl⟩ := mem_prices.mp m
    obtain ⟨s, ms, c⟩ := o.cov r mr
    exact ⟨_, mem_prices.mpr ⟨s, ms, cov_usable c ur, rfl⟩, cov_price hf c⟩
  have bwd : ∀ x ∈ pricesR f B S, x ∈ pricesR f B R := fun x m => by
    obtain ⟨s, ms, us, rfl⟩ := mem_prices.mp m
    exact mem_prices.mpr ⟨s, o.sub s ms, us, rfl⟩
  intro m
  cases m with
  | none =>
    refine ⟨fun h => ?_, fun h => ?_⟩
    · refine List.eq_nil_iff_forall_not_mem.mpr fun x m => ?_
      have := bwd x m
      rw [show pricesR f B R = [] from h] at this
      cases this
    · refine List.eq_nil_iff_forall_not_mem.mpr fun x m => ?_
      obtain ⟨y, my, _⟩ := fwd x m
      rw [show pricesR f B S = [] from h] at my
      cases my
  | some m =>
    refine ⟨fun h => ?_, fun h => ⟨bwd m h.1, fun x mx => ?_⟩⟩
    · obtain ⟨y, my, le⟩ := fwd m h.1
      have e : y = m := Int.le_antisymm le (h.2 y (bwd y my))
      subst e
      exact ⟨my, fun x mx => h.2 x (bwd x mx)⟩
    · obtain ⟨y, my, le⟩ := fwd x mx
      exact Int.le_trans (h.2 y my) le
def bestI : Option Int → Option Int → Option Int
  | none, b => b
  | a, none => a
  | some a, some b => some (if b < a then b else a)
def thenI : Option Int → Option Int → Option Int
  | some a, some b => some (a + b)
  | _, _ => none
theorem prices_app (f : Str → Int) (B : List Str) (R1 R2 : List OpR) : pricesR f B (R1 ++ R2) = pricesR f B R1 ++ pricesR f B R2 := by
  unfold pricesR
  rw [List.filter_append, List.map_append]
theorem least_best {l1 l2 : List Int} : ∀ {a b : Option Int}, LeastO l1 a → LeastO l2 b → LeastO (l1 ++ l2) (bestI a b)
  | none, none, h1, h2 => by
    rw [show l1 = [] from h1, show l2 = [] from h2]
    rfl
  | none, some b, h1, h2 => by
    rw [show l1 = [] from h1]
    exact h2
  | some a, none, h1, h2 => by
    rw [show l2 = [] from h2, List.append_nil]
    exact h1
  | some a, some b, h1, h2 => by
    show LeastO (l1 ++ l2) (some (if b < a then b else a))
    by_cases c : b < a
    · rw [if_pos c]
      refine ⟨List.mem_append_right _ h2.1, fun x m => ?_⟩
      rcases List.mem_append.mp m with m | m
      · have := h1.2 x m
        omega
      · exact h2.2 x m
    · rw [if_neg c]
      refine ⟨List.mem_append_left _ h1.1, fun x m => ?_⟩
      rcases List.mem_append.mp m with m | m
      · exact h1.2 x m
      · have := h2.2 x m
        omega
theorem usable_sum {B : List Str} {p q : OpR} : usable B (canon (p.1 + q.1, p.2 ++ q.2)) = true ↔ usable B p = true ∧ usable B q = true := by
  rw [usable_iff, usable_iff, usable_iff]
  have mm : ∀ z, z ∈ (canon (p.1 + q.1, p.2 ++ q.2)).2 ↔ z ∈ p.2 ∨ z ∈ q.2 := fun z => (canon_perm _).mem_iff.trans List.mem_append
  exact ⟨fun h => ⟨fun z m => h z ((mm z).mpr (.inl m)), fun z m => h z ((mm z).mpr (.inr m))⟩, fun h z m => ((mm z).mp m).elim (h.1 z) (h.2 z)⟩
theorem price_sum (f : Str → Int) (p q : OpR) : priceR f (canon (p.1 + q.1, p.2 ++ q.2)) = priceR f p + priceR f q := by
  unfold priceR
  rw [feeS_perm (canon_perm _)]
  show p.1 + q.1 + feeS f (p.2 ++ q.2) = _
  rw [feeS_app]
  omega
theorem least_then {f : Str → Int} {B : List Str} {R1 R2 : List OpR} : ∀ {a b : Option Int}, LeastO (pricesR f B R1) a → LeastO (pricesR f B R2) b → LeastO (pricesR f B (opsM R1 R2)) (thenI a b) := by
  have mm : ∀ x, x ∈ pricesR f B (opsM R1 R2) ↔ ∃ y ∈ pricesR f B R1, ∃ z ∈ pricesR f B R2, x = y + z := fun x => by
    constructor
    · intro m
      obtain ⟨r, mr, ur, rfl⟩ := mem_prices.mp m
      obtain ⟨p, mp, q, mq, rfl⟩ := mem_ops.mp mr
      obtain ⟨u1, u2⟩ := usable_sum.mp ur
      exact ⟨_, mem_prices.mpr ⟨p, mp, u1, rfl⟩, _, mem_prices.mpr ⟨q, mq, u2, rfl⟩, price_sum f p q⟩
    · rintro ⟨y, my, z, mz, rfl⟩
      obtain ⟨p, mp, u1, rfl⟩ := mem_prices.mp my
      obtain ⟨q, mq, u2, rfl⟩ := mem_prices.mp mz
      exact mem_prices.mpr ⟨_, mem_ops.mpr ⟨p, mp, q, mq, rfl⟩, usable_sum.mpr ⟨u1, u2⟩, (price_sum f p q).symm⟩
  intro a b h1 h2
  cases a with
  | none =>
    refine List.eq_nil_iff_forall_not_mem.mpr fun x m => ?_
    obtain ⟨y, my, _⟩ := (mm x).mp m
    rw [show pricesR f B R1 = [] from h1] at my
    cases my
  | some a =>
    cases b with
    | none =>
      refine List.eq_nil_iff_forall_not_mem.mpr fun x m => ?_
      obtain ⟨_, _, y, my, _⟩ := (mm x).mp m
      rw [show pricesR f B R2 = [] from h2] at my
      cases my
    | some b =>
      refine ⟨(mm _).mpr ⟨a, h1.1, b, h2.1, rfl⟩, fun x m => ?_⟩
      obtain ⟨y, my, z, mz, rfl⟩ := (mm x).mp m
      exact Int.add_le_add (h1.2 y my) (h2.2 z mz)
def Tr.rawO (lots : Nat → List OpR) : Tr → List OpR
  | .leaf k => lots k
  | .node b l r => if b = true then l.rawO lots ++ r.rawO lots else opsM (l.rawO lots) (r.rawO lots)
def Tr.valO (vals : Nat → List OpR) : Tr → List OpR
  | .leaf k => vals k
  | .node b l r => if b = true then outM (l.valO vals ++ r.valO vals) else outM (opsM (l.valO vals) (r.valO vals))
def Tr.readI (rd : Nat → Option Int) : Tr → Option Int
  | .leaf k => rd k
  | .node b l r => if b = true then bestI (l.readI rd) (r.readI rd) else thenI (l.readI rd) (r.readI rd)
theorem Tr.oo {lots vals : Nat → List OpR} (h : ∀ k < 3, OO (lots k) (vals k)) : ∀ t : Tr, t.ok → OO (t.rawO lots) (t.valO vals)
  | .leaf k, o => h k o
  | .node b l r, o => by
    have h1 := Tr.oo h l o.1
    have h2 := Tr.oo h r o.2
    cases b with
    | true => exact h1.best h2
    | false => exact h1.then h2
theorem Tr.least {lots : Nat → List OpR} {f : Str → Int} {B : List Str} {rd : Nat → Option Int} (h : ∀ k < 3, LeastO (pricesR f B (lots k)) (rd k)) : ∀ t : Tr, t.ok → LeastO (pricesR f B (t.rawO lots)) (t.readI rd)
  | .leaf k, o => h k o
  | .node b l r, o => by
    have h1 := Tr.least h l o.1
    have h2 := Tr.least h r o.2
    cases b with
    | true =>
      show LeastO (pricesR f B (l.rawO lots ++ r.rawO lots)) (bestI (l.readI rd) (r.readI rd))
      rw [prices_app]
      exact least_best h1 h2
    | false => exact least_then h1 h2
theorem RowsO.app {K : PySem.W.Frag} {H : Hp} : ∀ {a b : List V} {r s : List OpR}, RowsO K H a r → RowsO K H b s → RowsO K H (a ++ b) (r ++ s)
  | _, _, _, _, .nil, h => h
  | _, _, _, _, .cons x t, h => .cons x (RowsO.app t h)
theorem prodO_rows {K : PySem.W.Frag} {H : Hp} {xs2 : List V} {p2 : List OpR} (h2 : RowsO K H xs2 p2) : ∀ {p1 : List OpR} {xs1 : List V}, RowsO K H xs1 p1 → ∀ {i : Nat} {z : V × V}, (prodV xs1 xs2)[i]? = some z →
    ∃ p q, RowV K H z.1 p ∧ RowV K H z.2 q ∧ p ∈ p1 ∧ q ∈ p2 ∧ (opsM p1 p2)[i]? = some (canon (p.1 + q.1, p.2 ++ q.2))
  | [], _, h, i, z, g => by
    cases h
    cases g
  | p :: r, _, h, i, z, g => by
    cases h with
    | cons a b =>
      rename_i x xs
      have len := h2.len
      have g : (xs2.map (fun y => (x, y)) ++ prodV xs xs2)[i]? = some z := g
      show ∃ p' q, _ ∧ _ ∧ _ ∧ _ ∧ ((p2.map fun q => canon (p.1 + q.1, p.2 ++ q.2)) ++ opsM r p2)[i]? = _
      by_cases c : i < xs2.length
      · rw [List.getElem?_append_left (by rw [List.length_map]; exact c), List.getElem?_map, List.getElem?_eq_getElem c] at g
        cases g
        obtain ⟨q, gq, qV⟩ := h2.get (List.getElem?_eq_getElem c)
        refine ⟨p, q, a, qV, List.mem_cons_self .., List.mem_of_getElem? gq, ?_⟩
        rw [List.getElem?_append_left (by rw [List.length_map, ← len]; exact c), List.getElem?_map, gq]
        rfl
      · rw [List.getElem?_append_right (by rw [List.length_map]; omega), List.length_map] at g
        obtain ⟨p', q, h1, h3, h4, h5, h6⟩ := prodO_rows h2 (p1 := r) b g
        refine ⟨p', q, h1, h3, List.mem_cons_of_mem _ h4, h5, ?_⟩
        rw [List.getElem?_append_right (by rw [List.length_map]; omega), List.length_map, ← len]
        exact h6
theorem ops_len (A B : List OpR) : (opsM A B).length = A.length * B.length := by
  unfold opsM
  rw [List.length_flatMap]
  simp [List.map_const', List.sum_replicate_nat]
theorem rawO_len {lots : Nat → List OpR} (h : ∀ k < 3, (lots k).length ≤ 3) : ∀ t : Tr, t.ok → (t.rawO lots).length ≤ 3 ^ t.lvs
  | .leaf k, o => h k o
  | .node b l r, o => by
    have h1 := rawO_len h l o.1
    have h2 := rawO_len h r o.2
    have e : 3 ^ (l.lvs + r.lvs) = 3 ^ l.lvs * 3 ^ r.lvs := Nat.pow_add ..
    show _ ≤ 3 ^ (l.lvs + r.lvs)
    rw [e]
    cases b with
    | true =>
      show (l.rawO lots ++ r.rawO lots).length ≤ _
      rw [List.length_append]
      have p1 : 3 ^ 1 ≤ 3 ^ l.lvs := Nat.pow_le_pow_right (by decide) l.pos
      have p2 : 3 ^ 1 ≤ 3 ^ r.lvs := Nat.pow_le_pow_right (by decide) r.pos
      have q1 := Nat.mul_le_mul (Nat.le_refl (3 ^ l.lvs)) p2
      have q2 := Nat.mul_le_mul p1 (Nat.le_refl (3 ^ r.lvs))
      omega
    | false =>
      show (opsM (l.rawO lots) (r.rawO lots)).length ≤ _
      rw [ops_len]
      exact Nat.mul_le_mul h1 h2
/-- bounds of one row made of n leaves -/
def BdO (N : List Str) (n : Nat) (r : OpR) : Prop := 0 ≤ r.1 ∧ r.1 ≤ 1000000 * n ∧ r.2.length ≤ 3 * n ∧ ∀ z ∈ r.2, z ∈ N
theorem BdO.le {N : List Str} {n m : Nat} {r : OpR} (h : BdO N n r) (z : n ≤ m) : BdO N m r := ⟨h.1, by have := h.2.1; omega, by have := h.2.2.1; omega, h.2.2.2⟩
theorem rawO_bd {N : List Str} {lots : Nat → List OpR} (h : ∀ k < 3, ∀ r ∈ lots k, BdO N 1 r) : ∀ t : Tr, t.ok → ∀ r ∈ t.rawO lots, BdO N t.lvs r
  | .leaf k, o, r, m => h k o r m
  | .node b l r, o, x, m => by
    have h1 := rawO_bd h l o.1
    have h2 := rawO_bd h r o.2
    cases b with
    | true =>
      rcases List.mem_append.mp (show x ∈ l.rawO lots ++ r.rawO lots from m) with m | m
      · exact (h1 x m).le (Nat.le_add_right ..)
      · exact (h2 x m).le (Nat.le_add_left ..)
    | false =>
      obtain ⟨p, mp, q, mq, rfl⟩ := mem_ops.mp (show x ∈ opsM (l.rawO lots) (r.rawO lots) from m)
      obtain ⟨a1, a2, a3, a4⟩ := h1 p mp
      obtain ⟨b1, b2, b3, b4⟩ := h2 q mq
      refine ⟨Int.add_nonneg a1 b1, ?_, ?_, fun z mz => ?_⟩
      · show p.1 + q.1 ≤ 1000000 * ((l.lvs + r.lvs : Nat) : Int)
        omega
      · rw [(canon_perm _).length_eq]
        show (p.2 ++ q.2).length ≤ 3 * (l.lvs + r.lvs)
        rw [List.length_append]
        omega
      · rcases List.mem_append.mp ((canon_perm _).mem_iff.mp mz) with m | m
        · exact a4 z m
        · exact b4 z m
/-- the list of three values -/
def ValsO (K : PySem.W.Frag) (H : Hp) (L : Addr) (lots : Nat → List OpR) : Prop := ∃ vs, H L = some (.lst vs) ∧ vs.length = 3 ∧ ∀ j v, vs[j]? = some v → OptO K H v (lots j)
theorem ValsO.mono {K : PySem.W.Frag} {H H' : Hp} {L : Addr} {lots : Nat → List OpR} (h : ValsO K H L lots) (e : Same H H') : ValsO K H' L lots := by
  obtain ⟨vs, h1, h2, h3⟩ := h
  exact ⟨vs, e _ _ h1, h2, fun j v g => (h3 j v g).mono e⟩
theorem LotK.bd {N : List Str} {S : List OpR} (h : LotK N S) : ∀ r ∈ S, BdO N 1 r := fun r m => by
  obtain ⟨a, b, c, d⟩ := h.row r m
  exact ⟨a, by omega, by omega, d⟩
def sumR (one two : List OpR) : List OpR := one.flatMap fun p => two.map fun q => (p.1 + q.1, p.2 ++ q.2)
theorem sumR_take {one two : List OpR} {i : Nat} {p : OpR} (h : one[i]? = some p) : sumR (one.take (i + 1)) two = sumR (one.take i) two ++ two.map fun q => (p.1 + q.1, p.2 ++ q.2) := by
  obtain ⟨lt, e⟩ := List.getElem?_eq_some_iff.mp h
  unfold sumR
  rw [← e, ← List.take_append_getElem lt, List.flatMap_append]
  simp
theorem sumR_len (one two : List OpR) : (sumR one two).length = one.length * two.length := by
  unfold sumR
  rw [List.length_flatMap]
  simp [List.map_const', List.sum_replicate_nat]
theorem mem_sumR {A B : List OpR} {x : OpR} : x ∈ sumR A B ↔ ∃ p ∈ A, ∃ q ∈ B, x = (p.1 + q.1, p.2 ++ q.2) := by
  unfold sumR
  rw [List.mem_flatMap]
  constructor
  · rintro ⟨p, hp, hx⟩
    obtain ⟨q, hq, rfl⟩ := List.mem_map.mp hx
    exact ⟨p, hp, q, hq, rfl⟩
  · rintro ⟨p, hp, q, hq, rfl⟩
    exact ⟨p, hp, List.mem_map.mpr ⟨q, hq, rfl⟩⟩
theorem pair_getR {ps : List (V × OpR)} {i : Nat} {v : V} (g : (ps.map Prod.fst)[i]? = some v) : ∃ r, ps[i]? = some (v, r) := by
  rw [List.getElem?_map] at g
  cases h : ps[i]? with
  | none =>
    rw [h] at g
    cases g
  | some p =>
    rw [h] at g
    cases g
    exact ⟨p.2, rfl⟩
theorem ops_sum (A B : List OpR) : opsM A B = (sumR A B).map canon := by
  unfold opsM sumR
  rw [List.map_flatMap]
  simp only [List.map_map]
  rfl
theorem out_sum (A B : List OpR) : outM (sumR A B) = outM (opsM A B) := by rw [ops_sum, out_canon]
theorem outM_nil {ls : List OpR} : outM ls = [] ↔ opnM ls = [] := by
  have p : (outM ls).Perm (opnM ls) := List.mergeSort_perm _ _
  constructor
  · intro h
    rw [h] at p
    exact p.symm.eq_nil
  · intro h
    rw [h] at p
    exact p.eq_nil
theorem optO_of {K : PySem.W.Frag} {H : Hp} {v : V} {ls : List OpR} (h : (opnM ls = [] ∧ v = .non) ∨ opnM ls ≠ [] ∧ ∃ D ys, v = .ref D ∧ H D = some (.tup ys) ∧ RowsO K H ys (outM ls)) : OptO K H v (outM ls) := by
  rcases h with ⟨e, rfl⟩ | ⟨n, x⟩
  · exact .inl ⟨outM_nil.mpr e, rfl⟩
  · exact .inr ⟨fun z => n (outM_nil.mp z), x⟩
theorem valO_row {N : List Str} {lots : Nat → List OpR} (h : ∀ k < 3, LotK N (lots k)) (t : Tr) (o : t.ok) : ∀ r ∈ t.valO lots, BdO N t.lvs r := fun r m => rawO_bd (fun k z => (h k z).bd) t o r ((Tr.oo (fun k z => (h k z).oo) t o).sub r m)
theorem valO_out {N : List Str} {lots : Nat → List OpR} (h : ∀ k < 3, LotK N (lots k)) : ∀ t : Tr, t.ok → outM (t.valO lots) = t.valO lots
  | .leaf k, o => (h k o).out
  | .node b l r, o => by
    cases b with
    | true => exact out_out _
    | false => exact out_out _
theorem valO_len {N : List Str} {lots : Nat → List OpR} (h : ∀ k < 3, LotK N (lots k)) : ∀ t : Tr, t.ok → t.lvs ≤ 300 → (t.valO lots).length ≤ 3 ^ t.lvs
  | .leaf k, o, _ => (h k o).len
  | .node b l r, o, z => by
    have z : l.lvs + r.lvs ≤ 300 := z
    have h1 := valO_len h l o.1 (by omega)
    have h2 := valO_len h r o.2 (by omega)
    have e : 3 ^ (l.lvs + r.lvs) = 3 ^ l.lvs * 3 ^ r.lvs := Nat.pow_add ..
    show _ ≤ 3 ^ (l.lvs + r.lvs)
    rw [e]
    cases b with
    | true =>
      show (outM (l.valO lots ++ r.valO lots)).length ≤ _
      have lo := (out_len (rs := l.valO lots ++ r.valO lots) fun x m => by
        rcases List.mem_append.mp m with m | m
        · have := (valO_row h l o.1 x m).2.2.1
          omega
        · have := (valO_row h r o.2 x m).2.2.1
          omega).2
      rw [List.length_append] at lo
      have p1 : 3 ^ 1 ≤ 3 ^ l.lvs := Nat.pow_le_pow_right (by decide) l.pos
      have p2 : 3 ^ 1 ≤ 3 ^ r.lvs := Nat.pow_le_pow_right (by decide) r.pos
      have q1 := Nat.mul_le_mul (Nat.le_refl (3 ^ l.lvs)) p2
      have q2 := Nat.mul_le_mul p1 (Nat.le_refl (3 ^ r.lvs))
      omega
    | false =>
      show (outM (opsM (l.valO lots) (r.valO lots))).length ≤ _
      have lo := (out_len (rs := opsM (l.valO lots) (r.valO lots)) fun x m => by
        obtain ⟨p, mp, q, mq, rfl⟩ := mem_ops.mp m
        have a := (valO_row h l o.1 p mp).2.2.1
        have b := (valO_row h r o.2 q mq).2.2.1
        rw [(canon_perm _).length_eq]
        show (p.2 ++ q.2).length ≤ 1000
        rw [List.length_append]
        omega).2
      rw [ops_len] at lo
      exact Nat.le_trans lo (Nat.mul_le_mul h1 h2)
/-- an instance with no methods of its own -/
def PlainO (C : Addr) (H : Hp) (p : Addr) : Prop := ∃ dx fs, H p = some (.ins C dx fs) ∧ fs.lookup ("best" : Str) = none ∧ fs.lookup ("then" : Str) = none
theorem PlainO.mono {C : Addr} {H H' : Hp} {p : Addr} (h : PlainO C H p) (e : Same H H') : PlainO C H' p := by
  obtain ⟨dx, fs, h1, h2, h3⟩ := h
  exact ⟨dx, fs, e _ _ h1, h2, h3⟩
end Fb
set_option Elab.async false
set_option linter.all false
set_option maxRecDepth 100000
set_option maxHeartbeats 4000000
namespace Fb
open PySem PySem.Spec L2
open PyProof.Rows hiding St
def txt : Value → Str
  | .str z _ => z
  | _ => default
def txtOf (e : Int × Value) : Str := txt e.2
def GoodX (w : World) (e : Int × Value) : Prop := ∃ z u, e.2 = Value.str z u ∧ e.1 = hashStr w z
/-- the set of texts at a: M tells its members -/
def SetX (w : World) (h : Heap) (a : Addr) (M : Str → Bool) (n : Nat) : Prop :=
  ∃ o es ep t, (h.get? a = some o ∧ o.ExactSet ∧ o.data = .set es ep t) ∧ (∀ e ∈ es.toList, GoodX w e) ∧ (es.toList.map txtOf).Nodup ∧ (∀ z, M z = true ↔ z ∈ es.toList.map txtOf) ∧
    (es.size < scanBound ∧ t.fits es.size = true ∧ es.size = n) ∧ Ris t.place.toList ∧ (w.params.followText "set-order" = true ∨ t.led = true)
section
variable {P : Program} {w : World} {h h' : Heap} {a : Addr} {M : Str → Bool} {n : Nat}
theorem SetX.move (R : SetX w h a M n) (k : ∀ o, h.get? a = some o → h'.get? a = some o) : SetX w h' a M n := by
  obtain ⟨o, es, ep, t, ⟨ho, r0⟩, r⟩ := R
  exact ⟨o, es, ep, t, ⟨k o ho, r0⟩, r⟩
theorem SetX.same {M' : Str → Bool} (R : SetX w h a M n) (e : ∀ z, M' z = M z) : SetX w h a M' n := by
  rw [show M' = M from funext e]
  exact R
theorem goodX_elems {l : List (Int × Value)} (g : ∀ e ∈ l, GoodX w e) : ElemsOf (PySem.strKind P w) l := fun e m => by
  obtain ⟨z, u, e1, e2⟩ := g e m
  exact ⟨⟨z, by rw [e1]; exact strKind_is P w z u, e2⟩, by rw [e1] <;> rfl⟩
theorem goodX_is {e : Int × Value} (g : GoodX w e) (z : Str) : (PySem.strKind P w).is z e.2 = true ↔ txtOf e = z := by
  obtain ⟨y, u, e1, _⟩ := g
  unfold txtOf
  rw [e1]
  show (Value.isStrOf z (.str y u)) = true ↔ y = z
  constructor
  · intro q
    obtain ⟨t, q⟩ := Value.isStrOf_shape q
    injection q
  · rintro rfl
    exact strKind_is P w y u
theorem goodX_mem {l : List (Int × Value)} (g : ∀ e ∈ l, GoodX w e) (z : Str) : z ∈ l.map txtOf ↔ ∃ e ∈ l, (PySem.strKind P w).is z e.2 = true := by
  rw [List.mem_map]
  exact ⟨fun ⟨e, m, q⟩ => ⟨e, m, (goodX_is (g e m) z).mpr q⟩, fun ⟨e, m, q⟩ => ⟨e, m, (goodX_is (g e m) z).mp q⟩⟩
end
section
variable {P : Program} {w : World} {A : Around} {E : Value → Shared → Prop} {s : Shared} {a : Addr} {M : Str → Bool} {n : Nat}
theorem setX_tail {g : Bool → Sem Unit} (hg : ∀ (b : Bool) (s1 : Shared) (Q1 : Unit → Shared → Prop), Q1 () s1 → wpAny (model P w) A (g b) Q1 E s1)
    {o : Obj} {es : Array (Int × Value)} {ep : Nat} {t : SetTable} (ho : s.heap.get? a = some o) (ex : o.ExactSet) (hd : o.data = .set es ep t)
    {fs : Array (Int × Value)} {v : SetTable} {M' : Str → Bool} (gf : ∀ e ∈ fs.toList, GoodX w e) (nf : (fs.toList.map txtOf).Nodup) (mf : ∀ z, M' z = true ↔ z ∈ fs.toList.map txtOf)
    (bf : fs.size < scanBound) (ff : v.fits fs.size = true) (rf : Ris v.place.toList) (lf : w.params.followText "set-order" = true ∨ v.led = true) {dm : Bool} {R : Option Bool → Shared → Prop}
    (q : ∀ h', Heap.SameBut a s.heap h' → SetX w h' a M' fs.size → R (some true) { s with heap := h' }) :
    wpAny (model P w) A (do
        storeSet a fs v
        if (!dm && v.tooFull) = true then do
            g (relayAll v fs (SetTable.grown fs.size)).2.2
            storeSet a (relayAll v fs (SetTable.grown fs.size)).1 (relayAll v fs (SetTable.grown fs.size)).2.1
            pure (some true)
          else pure (some true)) R E s := by
  refine wpAny_bind (wpAny_storeSet_of ho hd ?_ (fits_of_scanBound bf))
  have ho1 := store_at (es' := fs) (t' := v) ho hd
  have sb := Heap.SameBut.update s.heap a (Obj.putSet fs v)
  split
  · have pm := relayAll_perm v fs (SetTable.grown fs.size)
    have z1 := relayAll_fits v fs (SetTable.grown fs.size)
    have z2 := relayAll_ris v fs (SetTable.grown fs.size)
    have z3 := relayAll_led v fs (SetTable.grown fs.size)
    generalize relayAll v fs (SetTable.grown fs.size) = Y at pm z1 z2 z3 ⊢
    obtain ⟨gs, u, gave⟩ := Y
    dsimp only at pm z1 z2 z3 ⊢
    have sz : gs.size = fs.size := by rw [← Array.length_toList, pm.length_eq, Array.length_toList]
    have bg : gs.size < scanBound := sz ▸ bf
    refine wpAny_bind (hg _ _ _ (wpAny_bind (wpAny_storeSet_of ho1 rfl ?_ (fits_of_scanBound bg))))
    have ho2 := store_at (es' := gs) (t' := u) ho1 rfl
    exact wpAny_pure (q _ (sb.trans (Heap.SameBut.update _ a _)) ⟨_, gs, _, u, ⟨ho2, ex, rfl⟩, fun e m => gf e (pm.mem_iff.mp m), (pm.map txtOf).nodup_iff.mpr nf, fun z => (mf z).trans (pm.map txtOf).mem_iff.symm, ⟨bg, z1, sz⟩, z2, lf.imp id fun y => by rw [z3]; exact y⟩)
  · exact wpAny_pure (q _ sb ⟨_, fs, _, v, ⟨ho1, ex, rfl⟩, gf, nf, mf, ⟨bf, ff, rfl⟩, rf, lf⟩)
theorem setX_add {z : Str} {u : Tok} {Q : Bool → Shared → Prop} (R : SetX w s.heap a M n) (room : n + 1 < scanBound)
    (q : ∀ h' m, Heap.SameBut a s.heap h' → m ≤ n + 1 → SetX w h' a (fun y => M y || decide (y = z)) m → Q (!M z) { s with heap := h' }) :
    wpAny (model P w) A (setAddHashed a (.str z u) ((PySem.strKind P w).hash z)) Q E s := by
  obtain ⟨o, es, ep, t, ⟨ho, ex, hd⟩, g, nd, hm, ⟨hb, hf, hn⟩, hr, hl⟩ := R
  have key : (PySem.strKind P w).is z (.str z u) = true := strKind_is P w z u
  have sc : (Value.str z u).scannable = true := rfl
  have el : ElemsOf (PySem.strKind P w) es.toList := goodX_elems g
  unfold setAddHashed setAddHashedIn
  refine wpAny_holding (wpAny_bind (wpAny_setState_of ho hd hf ?_))
  dsimp only
  rw [byScan_of sc hb el]
  simp only [↓reduceIte]
  unfold setAddByScan
  refine wpAny_bind (wpAny_bind (wpAny_rule (wpAny_bind (wpAny_setScan_of key ho hd hf el ?_))))
  cases fi : List.findIdx? (fun e => (PySem.strKind P w).is z e.2) es.toList with
  | some j =>
    dsimp only
    obtain ⟨lj, pj, _⟩ := List.findIdx?_eq_some_iff_getElem.mp fi
    have e1 : M z = true := (hm z).mpr ((goodX_mem (P := P) g z).mpr ⟨es.toList[j], List.getElem_mem lj, pj⟩)
    have q1 := q s.heap n (Heap.SameBut.refl a s.heap) (Nat.le_succ n) ⟨o, es, ep, t, ⟨ho, ex, hd⟩, g, nd, fun y => by
      rw [Bool.or_eq_true, decide_eq_true_eq, ← hm y]
      exact ⟨fun c => c.elim id fun e => e ▸ e1, .inl⟩, ⟨hb, hf, hn⟩, hr, hl⟩
    rw [e1] at q1
    exact wpAny_pure (wpAny_pure q1)
  | none =>
    dsimp only
    have out : z ∉ es.toList.map txtOf := fun m => by
      obtain ⟨e, me, c⟩ := (goodX_mem (P := P) g z).mp m
      have := List.findIdx?_eq_none_iff.mp fi e me
      rw [c] at this
      cases this
    have e1 : M z = false := Bool.eq_false_iff.mpr fun c => out ((hm z).mp c)
    have gw : ∀ (b : Bool) {s1 : Shared} {Q1 : Unit → Shared → Prop}, Q1 () s1 → wpAny (model P w) A (match b with | true => rule "set.scan.the-table-gave-way" | false => pure ()) Q1 E s1 :=
      fun b s1 Q1 c => by cases b <;> first | exact wpAny_pure c | exact wpAny_rule c
    have pm := layNew_perm t es ((PySem.strKind P w).hash z) (.str z u)
    have f1 := layNew_fits t es ((PySem.strKind P w).hash z) (.str z u)
    have r1 := layNew_ris t es ((PySem.strKind P w).hash z) (.str z u) hr
    have l1 := layNew_led t es ((PySem.strKind P w).hash z) (.str z u)
    generalize layNew t es ((PySem.strKind P w).hash z) (.str z u) = Y at pm f1 r1 l1 ⊢
    obtain ⟨fs, v, dm, gave⟩ := Y
    dsimp only at pm f1 r1 l1 ⊢
    rw [Array.toList_push] at pm
    have pc : fs.toList.Perm (((PySem.strKind P w).hash z, Value.str z u) :: es.toList) := pm.trans (List.perm_append_singleton _ _)
    have pk : (fs.toList.map txtOf).Perm (z :: es.toList.map txtOf) := pc.map txtOf
    have gf : ∀ e ∈ fs.toList, GoodX w e := fun e m => by
      rcases List.mem_cons.mp (pc.mem_iff.mp m) with rfl | m
      · exact ⟨z, u, rfl, rfl⟩
      · exact g e m
    have nf : (fs.toList.map txtOf).Nodup := pk.nodup_iff.mpr (List.nodup_cons.mpr ⟨out, nd⟩)
    have mf : ∀ y, (M y || decide (y = z)) = true ↔ y ∈ fs.toList.map txtOf := fun y => by
      rw [Bool.or_eq_true, decide_eq_true_eq, hm y, pk.mem_iff, List.mem_cons]
      exact Or.comm
    have sz : fs.size = n + 1 := by rw [← Array.length_toList, pc.length_eq, List.length_cons, Array.length_toList, hn]
    have bf : fs.size < scanBound := by rw [sz]; exact room
    have lf : w.params.followText "set-order" = true ∨ v.led = true := hl.imp id fun c => by rw [l1]; exact c
    have fin : ∀ h', Heap.SameBut a s.heap h' → SetX w h' a (fun y => M y || decide (y = z)) fs.size → Q true { s with heap := h' } := fun h' sb r => by
      have q1 := q h' _ sb (Nat.le_of_eq sz) r
      rw [e1] at q1
      exact q1
    refine wpAny_bind (gw _ ?_)
    split
    · refine wpAny_bind ?_
      rw [hashByValue_scannable 8 sc]
      refine wpAny_pure (setX_tail ?_ ho ex hd gf nf mf bf ?_ ?_ ?_ ?_)
      · intro b s1 Q1 c; cases b <;> first | exact wpAny_pure c | exact wpAny_rule c
      · first | (split <;> first | exact f1 | exact SetTable.fits_plain_off f1) | exact f1
      · first | (split <;> exact r1) | exact r1
      · first | (split <;> exact lf) | exact lf
      · intro h' sb r; dsimp only; exact wpAny_pure (fin h' sb r)
    · refine wpAny_bind (wpAny_pure ?_)
      simp only [↓reduceIte]
      refine setX_tail ?_ ho ex hd gf nf mf bf f1 r1 lf ?_
      · intro b s1 Q1 c; cases b <;> first | exact wpAny_pure c | exact wpAny_rule c
      · intro h' sb r; dsimp only; exact wpAny_pure (fin h' sb r)
theorem strsX_len : ∀ {us : List Value} {xs : List Str}, PyProof.Rows.StrsAre us xs → us.length = xs.length
  | _, _, .nil => rfl
  | _, _, .cons _ _ r => congrArg (· + 1) (strsX_len r)
theorem setX_fresh {h : Heap} (ho : h.get? a = some (newSet w)) : SetX w h a (fun _ => false) 0 :=
  ⟨_, #[], 0, _, ⟨ho, ⟨rfl, rfl, rfl⟩, rfl⟩, fun e m => (by cases m), List.nodup_nil, fun z => ⟨fun c => (by cases c), fun m => (by cases m)⟩, ⟨by decide, rfl, rfl⟩, List.Pairwise.nil, by
    show _ ∨ (!w.params.followText "set-order") = true
    cases w.params.followText "set-order" with
    | true => exact .inl rfl
    | false => exact .inr rfl⟩
theorem fill_X {I : Addr} {fp wr : List Addr} {G : Array GenState → Array GenState → Prop} {n : Nat} {Pv : Nat → Value → Prop} {St : Nat → Shared → Prop} {R : Result → Shared → Prop} (W : WalksS P w A.in1 I fp wr G n Pv St) (S : Addr) (out : S ∉ fp)
    (xs : List Str) (hn : n = xs.length) (few : xs.length ≤ 1000) (val : ∀ i v, Pv i v → ∃ t, v = .str (xs.getD i Str.empty) t) :
    ∀ (m i : Nat) (s : Shared), n - i = m → i ≤ n → St i s → (∃ c ≤ i, SetX w s.heap S (fun y => decide (y ∈ xs.take i)) c) →
      (∀ s', Moved (S :: wr) G s s' → (∃ c ≤ n, SetX w s'.heap S (fun y => decide (y ∈ xs)) c) → R (.ok (.ret .none)) s') →
      codeAny (model P w) A (.builtin "set.update.loop" ⟨[.ref S, .ref I], []⟩) R s := by
  have Sw : S ∉ wr := fun m => out (W.sub _ m)
  have up : ∀ b ∈ wr, b ∈ S :: wr := fun b m => List.mem_cons_of_mem _ m
  intro m
  induction m with
  | zero =>
    intro i s hm hi st hS q
    cases (show i = n by omega)
    refine codeAny_builtin F.entry_set_update_loop ?_
    rw [Around.under_plainId F.plain_set_update_loop _]
    show wpAny _ A.in1 (pyNext (.ref I) >>= _) _ _ s
    refine wpAny_bind (W.done s _ _ st fun s' mv => ?_)
    show wpAny _ A.in1 (ret Value.none) _ _ s'
    rw [hn, List.take_length, ← hn] at hS
    obtain ⟨c, hc, R1⟩ := hS
    exact wpAny_pure (q s' (mv.mono up) ⟨c, hc, R1.move fun o ho => mv.heap S o Sw ho⟩)
  | succ m ih =>
    intro i s hm hi st hS q
    have lt : i < n := by omega
    have lx : i < xs.length := by omega
    refine codeAny_builtin F.entry_set_update_loop ?_
    rw [Around.under_plainId F.plain_set_update_loop _]
    show wpAny _ A.in1 (pyNext (.ref I) >>= _) _ _ s
    refine wpAny_bind (W.item i s _ _ lt st fun v s' pv st' mv => ?_)
    obtain ⟨t, rfl⟩ := val i v pv
    have ex : xs.getD i Str.empty = xs[i] := by
      rw [List.getD_eq_getElem?_getD, List.getElem?_eq_getElem lx]
      rfl
    obtain ⟨c, hc, R0⟩ := hS
    have R1 : SetX w s'.heap S (fun y => decide (y ∈ xs.take i)) c := R0.move fun o ho => mv.heap S o Sw ho
    rw [ex]
    show wpAny _ A.in1 (holding [Value.str xs[i] t] (setAdd S (.str xs[i] t)) >>= _) _ _ s'
    refine wpAny_bind (wpAny_holding ?_)
    unfold setAdd
    refine wpAny_holding (wpAny_bind ((PySem.strKind P w).pyHash (k := xs[i]) (strKind_is _ _ _ _) ?_))
    refine setX_add (P := P) (s := { s' with toks := s'.toks + 1 }) R1 (by unfold scanBound; omega) fun h' c' sb hc' R2 => ?_
    have R3 : SetX w h' S (fun y => decide (y ∈ xs.take (i + 1))) c' := R2.same fun y => by
      rw [← List.take_append_getElem lx]
      show decide (y ∈ xs.take i ++ [xs[i]]) = (decide (y ∈ xs.take i) || decide (y = xs[i]))
      rw [Bool.eq_iff_iff]
      simp only [Bool.or_eq_true, decide_eq_true_eq, List.mem_append, List.mem_singleton]
    refine wpAny_pure ⟨plainId_quiet F.plain_set_update_loop _, ih (i + 1) _ (by omega) lt (W.frame _ s' _ _ st' (Nat.le_add_right ..) fun b mb o e => ?_) ⟨c', by omega, R3⟩ fun s3 mv3 R4 => ?_⟩
    · rw [sb.2 b fun z : b = S => out (z ▸ mb)]
      exact e
    · refine q s3 (Moved.trans W.gtrans ((mv.mono up).then_heap (Nat.le_add_right ..) fun b o mb e => ?_) mv3) R4
      rw [sb.2 b fun z : b = S => mb (z ▸ List.mem_cons_self ..)]
      exact e
theorem strsX_at : ∀ {us : List Value} {xs : List Str}, PyProof.Rows.StrsAre us xs → ∀ (i : Nat) (v : Value), us[i]? = some v → ∃ t, v = .str (xs.getD i Str.empty) t
  | _, _, .nil, i, v, h => by simp at h
  | _, _, .cons n t r, 0, v, h => by
    cases h
    exact ⟨t, rfl⟩
  | _, _, .cons n t r, i + 1, v, h => by
    obtain ⟨t', e⟩ := strsX_at r i v h
    exact ⟨t', e⟩
end
end Fb
set_option Elab.async false
set_option linter.all false
set_option maxRecDepth 100000
set_option maxHeartbeats 4000000
namespace Fb
open PySem PySem.Spec L2
open PyProof.Rows hiding St
section
variable {P : Program} {w : World} {A : Around} {E : Value → Shared → Prop} {s : Shared} {a : Addr} {M : Str → Bool} {n : Nat}
theorem call_set_X {l : Addr} {items : Array Value} {xs : List Str} {Q : Value → Shared → Prop} (hh : A.handled = none) (hl : s.heap.IsList l items) (hi : PyProof.Rows.StrsAre items.toList xs) (few : xs.length ≤ 1000)
    (q : ∀ h' tk, (∃ c ≤ xs.length, SetX w h' s.heap.objs.size (fun y => decide (y ∈ xs)) c) → (∀ b o, s.heap.get? b = some o → h'.get? b = some o) → Q (.ref s.heap.objs.size) { s with heap := h', toks := tk }) :
    wpAny (model P w) A (call (.type "set") [.ref l]) Q E s := by
  have zi : items.size = xs.length := by rw [← Array.length_toList]; exact strsX_len hi
  obtain ⟨c, tl, hmro⟩ := F.called_set.mro
  have hmade := F.called_set.made
  have hsub := F.called_set.sub
  refine wpAny_call (codeAny_of_tree ?_)
  show wpAny _ _ (callAny (.type "set") _) _ _ _
  refine wpAny_pure ⟨Code.quiet_builtin _ (by decide +kernel), codeAny_builtin F.entry_type_call ?_⟩
  rw [Around.under_plain (weight_type_call_type "set" [.ref l] []) rfl]
  have n1 := F.called_set.notType
  have n2 := F.called_set.canCreate
  have n3 := F.typeCall_set_1 (.ref l)
  repeat any_goals first | assumption | wp_step
  refine codeAny_mono (code_set_led1 (.ref l) (E := E) (Q₁ := fun v s1 => v = .ref s.heap.objs.size ∧ s1 = { s with heap := s.heap.push (newSet w) }) ⟨rfl, rfl⟩) fun r s1 hr => ?_
  have none_at : ∀ b, s.heap.objs.size ≤ b → s.heap.get? b = none := fun b hb => by
    cases e : s.heap.get? b with
    | none => rfl
    | some o =>
      exact absurd (Nat.lt_of_lt_of_le (Heap.lt_size e) hb) (Nat.lt_irrefl _)
  rcases r with r | fl
  · exact hr
  cases fl with
  | ret v =>
    obtain ⟨rfl, rfl⟩ := hr
    have at1 : (s.heap.push (newSet w)).get? s.heap.objs.size = some (newSet w) := Heap.get?_push_size _ rfl
    have hT : Shared.TypeIs { s with heap := s.heap.push (newSet w) } (.ref s.heap.objs.size) "set" := ⟨_, at1, rfl⟩
    have hli := F.called_set.init.lookup
    have hbi := F.called_set.init.bind (.ref s.heap.objs.size)
    repeat any_goals first | assumption | wp_step
    refine codeAny_mono (codeAny_call_builtin (R := wants (fun r s2 => r = .none ∧ ∃ h' tk, s2 = { s with heap := h', toks := tk } ∧ (∃ c ≤ xs.length, SetX w h' s.heap.objs.size (fun y => decide (y ∈ xs)) c) ∧ ∀ b o, s.heap.get? b = some o → h'.get? b = some o) E)
      F.called_set.init.plain F.entry_set_init (check_set_init_1 hT ?_)) fun r2 s2 hr2 => ?_
    · obtain ⟨ol, hol, hcl, nl, hdl⟩ := hl
      obtain ⟨ocls, odict, odata, oslots⟩ := ol
      dsimp only at hcl hdl
      subst hcl
      subst hdl
      have hol' := Heap.get?_push_of_some (newSet w) hol
      have f1 := F.sub_list_set
      have f2 := F.sub_list_frozenset
      have f3 : (Value.type "list" == Value.type "dict") = false := by decide
      have hl1 : (s.heap.push (newSet w)).IsList l items := ⟨_, hol', rfl, nl, rfl⟩
      unfold Builtin.«set.__init__» noKeywords Builtin.Frozenset.updateFrom
      generalize ePI : pyIter = PI
      wp_walk
      subst ePI
      refine wpAny_pyIter_list hl1 ?_
      refine wpAny_bind (wpAny_runValue ?_)
      have lt := Heap.lt_size hol
      have z1 : (s.heap.push (newSet w)).objs.size = s.heap.objs.size + 1 := Heap.size_push ..
      have hlI : l ≠ (s.heap.push (newSet w)).objs.size := by
        rw [z1]
        exact Nat.ne_of_lt (Nat.lt_succ_of_lt lt)
      have out : s.heap.objs.size ∉ [(s.heap.push (newSet w)).objs.size, l] := by
        rw [z1]
        simp only [List.mem_cons, List.not_mem_nil, or_false, not_or]
        exact ⟨Nat.ne_of_lt (Nat.lt_succ_self _), Nat.ne_of_gt lt⟩
      refine fill_X ((Walks.list (show A.in1.in1.in1.handled = none by simp [hh]) _ l hlI items).toS) s.heap.objs.size out xs zi few (fun i v e => ?_) (items.size - 0) 0 _ (by omega) (Nat.zero_le _)
        ⟨⟨_, Heap.get?_push_size _ rfl, rfl, rfl⟩, hl1.push _⟩ ?_ ?_
      · have e' : items.toList[i]? = some v := by rw [Array.getElem?_toList]; exact e
        exact strsX_at hi i v e'
      · exact ⟨0, Nat.le_refl _, (setX_fresh (Heap.get?_push_of_some _ at1)).same fun y => by rw [List.take_zero]; rfl⟩
      · intro s3 mv R
        obtain ⟨h3, g3, d3, t3, o3⟩ := s3
        cases (show g3 = s.gens from mv.gens)
        cases (show d3 = s.drawn from mv.drawn)
        cases (show o3 = s.os from mv.os)
        refine wpAny_pure ?_
        show wpAny _ _ (ret Value.none) _ _ _
        refine wpAny_pure ⟨rfl, h3, t3, rfl, zi ▸ R, fun b o e => ?_⟩
        have lb := Heap.lt_size e
        refine mv.heap b o ?_ (Heap.get?_push_of_some _ (Heap.get?_push_of_some _ e))
        simp only [List.mem_cons, List.not_mem_nil, or_false, not_or]
        exact ⟨Nat.ne_of_lt lb, by rw [z1]; exact Nat.ne_of_lt (Nat.lt_succ_of_lt lb)⟩
    · rcases r2 with r2 | fl2
      · exact hr2
      cases fl2 with
      | ret v2 =>
        obtain ⟨rfl, h', tk, rfl, R, k⟩ := hr2
        repeat any_goals first | assumption | wp_step
        exact q _ _ R k
      | _ => exact hr2.elim
  | _ => exact hr.elim
theorem call_set_TX {l : Addr} {items : Array Value} {xs : List Str} {Q : Value → Shared → Prop} (hh : A.handled = none) (hl : s.heap.IsTuple l items) (hi : PyProof.Rows.StrsAre items.toList xs) (few : xs.length ≤ 1000)
    (q : ∀ h' tk, (∃ c ≤ xs.length, SetX w h' s.heap.objs.size (fun y => decide (y ∈ xs)) c) → (∀ b o, s.heap.get? b = some o → h'.get? b = some o) → Q (.ref s.heap.objs.size) { s with heap := h', toks := tk }) :
    wpAny (model P w) A (call (.type "set") [.ref l]) Q E s := by
  have zi : items.size = xs.length := by rw [← Array.length_toList]; exact strsX_len hi
  obtain ⟨c, tl, hmro⟩ := F.called_set.mro
  have hmade := F.called_set.made
  have hsub := F.called_set.sub
  refine wpAny_call (codeAny_of_tree ?_)
  show wpAny _ _ (callAny (.type "set") _) _ _ _
  refine wpAny_pure ⟨Code.quiet_builtin _ (by decide +kernel), codeAny_builtin F.entry_type_call ?_⟩
  rw [Around.under_plain (weight_type_call_type "set" [.ref l] []) rfl]
  have n1 := F.called_set.notType
  have n2 := F.called_set.canCreate
  have n3 := F.typeCall_set_1 (.ref l)
  repeat any_goals first | assumption | wp_step
  refine codeAny_mono (code_set_led1 (.ref l) (E := E) (Q₁ := fun v s1 => v = .ref s.heap.objs.size ∧ s1 = { s with heap := s.heap.push (newSet w) }) ⟨rfl, rfl⟩) fun r s1 hr => ?_
  have none_at : ∀ b, s.heap.objs.size ≤ b → s.heap.get? b = none := fun b hb => by
    cases e : s.heap.get? b with
    | none => rfl
    | some o =>
      exact absurd (Nat.lt_of_lt_of_le (Heap.lt_size e) hb) (Nat.lt_irrefl _)
  rcases r with r | fl
  · exact hr
  cases fl with
  | ret v =>
    obtain ⟨rfl, rfl⟩ := hr
    have at1 : (s.heap.push (newSet w)).get? s.heap.objs.size = some (newSet w) := Heap.get?_push_size _ rfl
    have hT : Shared.TypeIs { s with heap := s.heap.push (newSet w) } (.ref s.heap.objs.size) "set" := ⟨_, at1, rfl⟩
    have hli := F.called_set.init.lookup
    have hbi := F.called_set.init.bind (.ref s.heap.objs.size)
    repeat any_goals first | assumption | wp_step
    refine codeAny_mono (codeAny_call_builtin (R := wants (fun r s2 => r = .none ∧ ∃ h' tk, s2 = { s with heap := h', toks := tk } ∧ (∃ c ≤ xs.length, SetX w h' s.heap.objs.size (fun y => decide (y ∈ xs)) c) ∧ ∀ b o, s.heap.get? b = some o → h'.get? b = some o) E)
      F.called_set.init.plain F.entry_set_init (check_set_init_1 hT ?_)) fun r2 s2 hr2 => ?_
    · obtain ⟨ol, hol, hcl, nl, hdl⟩ := hl
      obtain ⟨ocls, odict, odata, oslots⟩ := ol
      dsimp only at hcl hdl
      subst hcl
      subst hdl
      have hol' := Heap.get?_push_of_some (newSet w) hol
      have f1 := F.sub_tuple_set
      have f2 := F.sub_tuple_frozenset
      have f3 : (Value.type "tuple" == Value.type "dict") = false := by decide
      have hl1 : (s.heap.push (newSet w)).IsTuple l items := ⟨_, hol', rfl, nl, rfl⟩
      unfold Builtin.«set.__init__» noKeywords Builtin.Frozenset.updateFrom
      generalize ePI : pyIter = PI
      wp_walk
      subst ePI
      refine wpAny_pyIter_tuple hl1 ?_
      refine wpAny_bind (wpAny_runValue ?_)
      have lt := Heap.lt_size hol
      have z1 : (s.heap.push (newSet w)).objs.size = s.heap.objs.size + 1 := Heap.size_push ..
      have hlI : l ≠ (s.heap.push (newSet w)).objs.size := by
        rw [z1]
        exact Nat.ne_of_lt (Nat.lt_succ_of_lt lt)
      have out : s.heap.objs.size ∉ [(s.heap.push (newSet w)).objs.size, l] := by
        rw [z1]
        simp only [List.mem_cons, List.not_mem_nil, or_false, not_or]
        exact ⟨Nat.ne_of_lt (Nat.lt_succ_self _), Nat.ne_of_gt lt⟩
      refine fill_X ((Walks.tuple (show A.in1.in1.in1.handled = none by simp [hh]) _ l hlI items).toS) s.heap.objs.size out xs zi few (fun i v e => ?_) (items.size - 0) 0 _ (by omega) (Nat.zero_le _)
        ⟨⟨_, Heap.get?_push_size _ rfl, rfl, rfl⟩, hl1.push _⟩ ?_ ?_
      · have e' : items.toList[i]? = some v := by rw [Array.getElem?_toList]; exact e
        exact strsX_at hi i v e'
      · exact ⟨0, Nat.le_refl _, (setX_fresh (Heap.get?_push_of_some _ at1)).same fun y => by rw [List.take_zero]; rfl⟩
      · intro s3 mv R
        obtain ⟨h3, g3, d3, t3, o3⟩ := s3
        cases (show g3 = s.gens from mv.gens)
        cases (show d3 = s.drawn from mv.drawn)
        cases (show o3 = s.os from mv.os)
        refine wpAny_pure ?_
        show wpAny _ _ (ret Value.none) _ _ _
        refine wpAny_pure ⟨rfl, h3, t3, rfl, zi ▸ R, fun b o e => ?_⟩
        have lb := Heap.lt_size e
        refine mv.heap b o ?_ (Heap.get?_push_of_some _ (Heap.get?_push_of_some _ e))
        simp only [List.mem_cons, List.not_mem_nil, or_false, not_or]
        exact ⟨Nat.ne_of_lt lb, by rw [z1]; exact Nat.ne_of_lt (Nat.lt_succ_of_lt lb)⟩
    · rcases r2 with r2 | fl2
      · exact hr2
      cases fl2 with
      | ret v2 =>
        obtain ⟨rfl, h', tk, rfl, R, k⟩ := hr2
        repeat any_goals first | assumption | wp_step
        exact q _ _ R k
      | _ => exact hr2.elim
  | _ => exact hr.elim
end
end Fb
set_option Elab.async false
set_option linter.all false
set_option maxRecDepth 100000
set_option maxHeartbeats 4000000
namespace Fb
open PySem PySem.Spec L2
open PyProof.Rows hiding St
section
variable {P : Program} {w : World} {A : Around} {E : Value → Shared → Prop} {s : Shared} {a : Addr} {M : Str → Bool} {n : Nat}
/-- sorted(set of texts) -/
theorem sorted_X {Q : Value → Shared → Prop} {M : Str → Bool} {n : Nat} (R : SetX w s.heap a M n) (hh : A.handled = none) (few : n ≤ 1000) (hu : A.units + 3 < cLine)
    (q : ∀ s' l (N : List Str) (us : List Value) (c : Nat), (∀ b o, s.heap.get? b = some o → s'.heap.get? b = some o) → s'.gens = s.gens → s'.os = s.os → s.heap.objs.size ≤ l → N.Nodup → (∀ z, z ∈ N ↔ M z = true) → N.length = n → PyProof.Rows.StrsAre us (sortL N) → s'.heap.get? l = some (seqObj "list" us.toArray c) → Q (.ref l) s') :
    wpAny (model P w) A (call (.builtin "sorted") [.ref a]) Q E s := by
  obtain ⟨o, es, ep, t, ⟨ho, ex, hd⟩, g, nd, hm, ⟨hb, hf, hn⟩, hr, hl⟩ := R
  refine PyProof.Rows.call_function_entry_kw kind_sorted plain_sorted entry_sorted (args_sorted1 _) ?_
  unfold Builtin.«sorted»
  refine wpAny_bind (m := checkCount "sorted" 1 1 _) (wpAny_pure ?_)
  refine wpAny_bind (collect_set (A := A.in1) hh ⟨o, ho, ex.1, hd⟩ hf hb hr hl fun s1 vs k1 z1 g1 o1 pm => ?_)
  have sv : ∀ v ∈ vs, ∃ z u, v = Value.str z u := fun v m => by
    obtain ⟨e, me, rfl⟩ := List.mem_map.mp (pm.mem_iff.mp m)
    obtain ⟨z, u, e1, _⟩ := g e me
    exact ⟨z, u, e1⟩
  have pk : (vs.map txt).Perm (es.toList.map txtOf) := by
    have := pm.map txt
    rw [List.map_map] at this
    exact this
  have lv : vs.length = n := by rw [pm.length_eq, List.length_map, Array.length_toList]; exact hn
  have sz : vs.length ≤ sizeLine := by
    rw [sizeLine_eq]
    omega
  refine wpAny_bind (wpAny_newList ?_ sz)
  have at1 : (s1.heap.push (seqObj "list" vs.toArray 0)).get? s1.heap.objs.size = some (seqObj "list" vs.toArray 0) := Heap.get?_push_size _ rfl
  have e0 : PySem.W.EachIs (fun v (z : Str) => ∃ u, v = Value.str z u) vs (vs.map txt) := by
    have := each_map2 (R := fun v (z : Str) => ∃ u, v = Value.str z u) (fun v : Value => v) txt (l := vs) fun v m => by
      obtain ⟨z, u, rfl⟩ := sv v m
      exact ⟨u, rfl⟩
    rwa [List.map_id'] at this
  have e2 : PySem.W.EachIs (fun v (z : Str) => ∃ as, Reads (PySem.W.sortingHeap (s1.heap.push (seqObj "list" vs.toArray 0)) s1.heap.objs.size vs) v (PyData.str z) as) vs (vs.map txt) := by
    have := each_map2 (R := fun v (z : Str) => ∃ as, Reads (PySem.W.sortingHeap (s1.heap.push (seqObj "list" vs.toArray 0)) s1.heap.objs.size vs) v (PyData.str z) as) (fun v : Value => v) txt (l := vs) fun v m => by
      obtain ⟨z, u, rfl⟩ := sv v m
      exact ⟨[], .str z u⟩
    rwa [List.map_id'] at this
  have e1 : PySem.W.EachIs (fun v d => ∃ as, Reads (PySem.W.sortingHeap (s1.heap.push (seqObj "list" vs.toArray 0)) s1.heap.objs.size vs) v d as) vs ((vs.map txt).map PyData.str) := by
    have := each_map2 (R := fun v d => ∃ as, Reads (PySem.W.sortingHeap (s1.heap.push (seqObj "list" vs.toArray 0)) s1.heap.objs.size vs) v d as) (fun v : Value => v) (fun v => PyData.str (txt v)) (l := vs) fun v m => by
      obtain ⟨z, u, rfl⟩ := sv v m
      exact ⟨[], .str z u⟩
    rw [List.map_id'] at this
    rw [List.map_map]
    exact this
  have al : PySem.W.AllAlike ((vs.map txt).map PyData.str) := fun d md e me => by
    obtain ⟨x, _, rfl⟩ := List.mem_map.mp md
    obtain ⟨y, _, rfl⟩ := List.mem_map.mp me
    simp [PySem.W.alike]
  refine wpAny_bind (wpAny_holding (PyProof.Rows.wpAny_call_entry_kw slot_list_sort ⟨_, at1, rfl⟩ entry_list_sort ?_ (args_list_sort _)))
  refine PySem.W.list_sort_vals (s := { s1 with heap := s1.heap.push (seqObj "list" vs.toArray 0) }) at1 (PySem.W.SortsAt.data (s := { s1 with heap := PySem.W.sortingHeap (s1.heap.push (seqObj "list" vs.toArray 0)) s1.heap.objs.size vs }) e1 al ?_ fun d m => ?_) sz ⟨_, rfl, ?_⟩
  · refine .inr fun d m => ?_
    obtain ⟨x, _, rfl⟩ := List.mem_map.mp m
    exact ⟨(fun e => nomatch e), fun xs e => nomatch e⟩
  · obtain ⟨x, _, rfl⟩ := List.mem_map.mp m
    show A.units + 2 + 0 < cLine
    omega
  · have out := PySem.W.sortVals_data (R := fun v (z : Str) => ∃ u, v = Value.str z u) false e0 e2 al
    obtain ⟨c, hc⟩ := sortedHeap_at (vs := vs) (out := (PySem.W.sortVals (PySem.W.dataKind (PySem.W.sortingHeap (s1.heap.push (seqObj "list" vs.toArray 0)) s1.heap.objs.size vs) ((vs.map txt).map PyData.str)) false vs vs).toArray) at1
    have sa : ∀ {us : List Value} {zs : List Str}, PySem.W.EachIs (fun v (z : Str) => ∃ u, v = Value.str z u) us zs → PyProof.Rows.StrsAre us zs := by
      intro us zs h
      induction h with
      | nil => exact .nil
      | cons r _ ih =>
        obtain ⟨u, rfl⟩ := r
        exact .cons _ _ ih
    refine wpAny_pure ⟨_, rfl, q _ s1.heap.objs.size (vs.map txt) _ c (fun b u e => ?_) g1 o1 z1 (pk.nodup_iff.mpr nd) (fun z => by rw [pk.mem_iff, ← hm z]) (by rw [List.length_map]; exact lv) (sa out) hc⟩
    have e' := k1 b u e
    have lt := Heap.lt_size e'
    refine (sortedHeap_old (Nat.ne_of_lt lt) ?_).trans (Heap.get?_push_of_some _ e')
    rw [size_push']
    exact Nat.lt_succ_of_lt lt
end
def SetXO (w : World) (a : Addr) (xs : List Str) : HO := .ext fun h => ∃ c ≤ xs.length, SetX w h a (fun y => decide (y ∈ xs)) c
theorem setXO_ok {P : Program} {w : World} {H : Hp} {h : Heap} {a : Addr} {xs : List Str} (R : ∃ c ≤ xs.length, SetX w h a (fun y => decide (y ∈ xs)) c) : ObjOk P w H h a (SetXO w a xs) := by
  obtain ⟨c, hc, R0⟩ := id R
  obtain ⟨o, es, ep, t, ⟨ho, _⟩, _⟩ := id R0
  exact ⟨R, ⟨o, ho⟩, fun h1 h2 ⟨c', hc', R'⟩ k => ⟨c', hc', R'.move k⟩⟩
def rSetX (K : PySem.W.Frag) (w : World) : List V → Hp → VK → Prop := fun vs H Q => ∃ (l : Addr) (xs : List Str), vs = [V.ref l] ∧ (SqL K H l (xs.map V.str) ∨ SqT K H l (xs.map V.str)) ∧ xs.length ≤ 1000 ∧ ∀ a, H a = none → Q (.ref a) (upd H a (SetXO w a xs))
theorem cr_setX {X : Cx} {K : PySem.W.Frag} {w : World} (eK : X.K = K) (ew : X.w = w) (hc : X.calm = true) : CallR X (.type "set") (rSetX K w) := by
  rintro pins s σ H vs us Q I r ⟨l, xs, rfl, hl, few, q⟩
  subst eK
  subst ew
  rw [Vals.ref1 r]
  have free : H s.heap.objs.size = none := I.hok.fresh (Nat.le_refl _)
  rcases hl with hl | hl
  · obtain ⟨its, rv, pl, _⟩ := I.list hl
    exact call_set_X (P := X.prog) (w := X.w) (I.ok.hd hc) pl.isList (by simpa using strsAre_of rv) few fun h' tk R k => ⟨.ref s.heap.objs.size, _, I.laid (t' := tk) k (Nat.le_refl _) (setXO_ok R), rfl, q _ free⟩
  · obtain ⟨its, rv, pl, _⟩ := I.tuple hl
    exact call_set_TX (P := X.prog) (w := X.w) (I.ok.hd hc) pl (by simpa using strsAre_of rv) few fun h' tk R k => ⟨.ref s.heap.objs.size, _, I.laid (t' := tk) k (Nat.le_refl _) (setXO_ok R), rfl, q _ free⟩
theorem strsX_vals : ∀ {us : List Value} {ys : List Str}, PyProof.Rows.StrsAre us ys → Vals (ys.map V.str) us
  | _, _, .nil => .nil
  | _, _, .cons n t r => .cons ⟨t, rfl⟩ (strsX_vals r)
/-- what sorted(set(xs)) gives: without twins, in order -/
def rSortX (w : World) : List V → Hp → VK → Prop := fun vs H Q => ∃ (a : Addr) (xs : List Str), vs = [V.ref a] ∧ H a = some (SetXO w a xs) ∧ xs.length ≤ 1000 ∧
  ∀ (N : List Str) (p : Addr), N.Nodup → (∀ z, z ∈ N ↔ z ∈ xs) → N.length ≤ xs.length → H p = none → Q (.ref p) (upd H p (.lst ((sortL N).map V.str)))
theorem cr_sortX {X : Cx} {w : World} (ew : X.w = w) (hc : X.calm = true) (hu : X.A.units + 3 < cLine) : CallR X (.builtin "sorted") (rSortX w) := by
  rintro pins s σ H vs us Q I r ⟨a, xs, rfl, ha, few, q⟩
  subst ew
  rw [Vals.ref1 r]
  obtain ⟨c, hc', R⟩ := (I.hok a _ ha).1
  refine sorted_X (P := X.prog) R (I.ok.hd hc) (by omega) hu fun s' l N us k kp g o hl nd mem ln sa at1 => ?_
  have hlen : ((sortL N).map V.str).length ≤ sizeLine := by
    rw [List.length_map, show (sortL N).length = N.length from List.length_mergeSort _, ln, sizeLine_eq]
    omega
  have hn : H l = none := I.hok.fresh hl
  have J : Inv X pins σ (upd H l (.lst ((sortL N).map V.str))) { s with heap := s'.heap, gens := s'.gens, drawn := s'.drawn, toks := s'.toks } :=
    I.call (ch := []) (Un.laid kp hl hn) (I.hok.laid kp hl ⟨hlen, us, k, strsX_vals sa, at1⟩) (by rw [g]; exact I.bare) (fun _ z => nomatch z)
  have e : s' = { s with heap := s'.heap, gens := s'.gens, drawn := s'.drawn, toks := s'.toks } := by
    rw [← o]
  rw [e]
  exact ⟨.ref l, _, J, rfl, q N l nd (fun z => by rw [mem, decide_eq_true_eq]) (by omega) hn⟩
theorem room_3 {k : Nat} {A : Around} (hr : Room k A) : A.units + 3 < cLine := by
  have := room_set2 hr
  omega
end Fb
set_option Elab.async false
set_option linter.all false
set_option maxRecDepth 100000
set_option maxHeartbeats 4000000
namespace PySem
open PySem.W
section
variable {prog : Program} {w : World} {A : Around} {E : Value → Shared → Prop} {s : Shared}
end
end PySem
namespace Fb
open PySem PySem.Spec L2
open PyProof.Rows hiding St
open C8 (Cal Met Mak Def cal0 met0 mak0 pe_c pe_mk pe_mt pe_mt0 fnScope fnBody fnArgs)
section
variable {X : Cx} {k j : Nat} {C : Addr} {sp : Sp}
end
end Fb
set_option Elab.async false
set_option linter.all false
set_option maxRecDepth 100000
set_option maxHeartbeats 4000000
namespace Fb
open PySem PySem.Spec L2
open PyProof.Rows hiding St
section
variable {X : Cx}
end
/-- keys ints or texts -/
theorem dc_it {J : It} {n : Nat} {G : Hp → Prop} {Y : Nat → Hp → V → Hp → Prop} (w : Walk J n G Y) {g : TG} {tt : TT} {tk tv : TE} {vs : List Nat} {σ : L2.St} {H1 : Hp} {D : Addr} {Qd : Hp → Prop} (Pv : Nat → Hp → Prop) (h0 : Pv 0 (upd H1 D (.dK []))) (hG : ∀ i H, i ≤ n → Pv i H → G H)
    (hs : ∀ i x H H', i < n → Pv i H → Y i H x H' → g x (wipe σ vs) H' fun σ2 H2 => wipe σ2 vs = wipe σ vs ∧ tt σ2 H2 fun b H3 =>
      if b = true then tk σ2 H3 fun y H4 => tv σ2 H4 fun z H5 => ∃ kvs k, y = kV k ∧ H5 D = some (.dK kvs) ∧ kvs.length < sizeLine ∧ Pv (i + 1) (upd H5 D (.dK (putK kvs k z))) else Pv (i + 1) H3) (hd : ∀ H, Pv n H → Qd H) :
    ∃ W : Nat → Nat → Hp → Prop, (∃ m, W 0 m (upd H1 D (.dK []))) ∧ ∀ i m H, W i m H →
      (J.stop i H ∧ Qd H) ∨ (J.go i H ∧ ∃ Nx : Hp → Prop, (∀ H', Nx H' → ∃ m', m' < m ∧ W (i + 1) m' H') ∧ ∀ x H', J.yld i H x H' → g x (wipe σ vs) H' fun σ2 H2 => wipe σ2 vs = wipe σ vs ∧ tt σ2 H2 fun b H3 =>
        if b = true then tk σ2 H3 fun y H4 => tv σ2 H4 fun z H5 => ∃ kvs k, y = kV k ∧ H5 D = some (.dK kvs) ∧ kvs.length < sizeLine ∧ Nx (upd H5 D (.dK (putK kvs k z))) else Nx H3) := by
  refine ⟨fun i m H => m = n - i ∧ i ≤ n ∧ Pv i H, ⟨n, rfl, Nat.zero_le _, h0⟩, ?_⟩
  rintro i m H ⟨rfl, hi, p⟩
  rcases Nat.lt_or_ge i n with lt | ge
  · refine .inr ⟨w.goes i H lt (hG i H hi p), Pv (i + 1), fun H' p' => ⟨n - (i + 1), by omega, rfl, lt, p'⟩, fun x H' y => ?_⟩
    exact hs i x H H' lt p (w.yields i H x H' lt (hG i H hi p) y)
  · obtain rfl : i = n := Nat.le_antisymm hi ge
    exact .inl ⟨w.stops H (hG i H hi p), hd H p⟩
end Fb
set_option Elab.async false
set_option linter.all false
set_option maxRecDepth 100000
set_option maxHeartbeats 4000000
namespace Fb
open PySem PySem.Spec L2
open PyProof.Rows hiding St
section
variable {X : Cx} {K : PySem.W.Frag} {k : Nat}
end
theorem erase_perm {α : Type} : ∀ {l : List α} {j : Nat} (h : j < l.length), ([l[j]] ++ l.eraseIdx j).Perm l
  | a :: l, 0, _ => .refl _
  | a :: l, j + 1, h => by
    have h' : j < l.length := Nat.lt_of_succ_lt_succ h
    have ih := erase_perm (l := l) (j := j) h'
    show (l[j] :: a :: l.eraseIdx j).Perm (a :: l)
    exact (List.Perm.swap _ _ _).trans (List.Perm.cons a ih)
structure LinB {α : Type} (le : α → α → Bool) : Prop where
  tr : ∀ a b c, le a b = true → le b c = true → le a c = true
  to : ∀ a b, (le a b || le b a) = true
  an : ∀ a b, le a b = true → le b a = true → a = b
section
variable {α : Type} {le : α → α → Bool}
theorem LinB.rf (L : LinB le) (a : α) : le a a = true := by
  have := L.to a a
  rwa [Bool.or_self] at this
theorem LinB.sorted (L : LinB le) (l : List α) : (l.mergeSort le).Pairwise (fun a b => le a b = true) := List.pairwise_mergeSort L.tr L.to l
theorem LinB.uniq (L : LinB le) {l m : List α} (h1 : l.Pairwise (fun a b => le a b = true)) (h2 : m.Pairwise (fun a b => le a b = true)) (p : l.Perm m) : l = m :=
  p.eq_of_pairwise (fun a b _ _ x y => L.an a b x y) h1 h2
theorem LinB.perm (L : LinB le) {l m : List α} (p : l.Perm m) : l.mergeSort le = m.mergeSort le :=
  L.uniq (L.sorted l) (L.sorted m) ((List.mergeSort_perm l le).trans (p.trans (List.mergeSort_perm m le).symm))
theorem nodup_perm [DecidableEq α] {l m : List α} (h1 : l.Nodup) (h2 : m.Nodup) (h : ∀ x, x ∈ l ↔ x ∈ m) : l.Perm m := (List.perm_ext_iff_of_nodup h1 h2).mpr h
end
abbrev Tw := Str × Str
def twD (p : Tw) : PyData := .tuple [.str p.1, .str p.2]
def twLe : Tw → Tw → Bool := PySem.W.dataLe false twD
theorem str_ext {a b : Str} (h : a.cps.toList = b.cps.toList) : a = b := by
  obtain ⟨a⟩ := a
  obtain ⟨b⟩ := b
  exact congrArg Str.mk (Array.toList_inj.mp h)
theorem eqv_st (a b : Str) : PyData.eqv (.str a) (.str b) = decide (a = b) := by
  by_cases h : a = b
  · subst h
    rw [decide_eq_true rfl]
    simp [PyData.eqv]
  · rw [decide_eq_false h]
    simp [PyData.eqv, h]
def stLt (a b : Str) : Prop := a.cps.toList < b.cps.toList
theorem stLt_irr (a : Str) : ¬ stLt a a := List.lt_irrefl _
theorem stLt_tr {a b c : Str} (h : stLt a b) (k : stLt b c) : stLt a c := List.lt_trans h k
theorem stLt_tri (a b : Str) : stLt a b ∨ a = b ∨ stLt b a := by
  by_cases h : a.cps.toList < b.cps.toList
  · exact .inl h
  · by_cases k : b.cps.toList < a.cps.toList
    · exact .inr (.inr k)
    · exact .inr (.inl (str_ext (List.le_antisymm (List.not_lt.mp k) (List.not_lt.mp h))))
instance (a b : Str) : Decidable (stLt a b) := by
  unfold stLt
  infer_instance
theorem twLe_iff (p q : Tw) : twLe p q = true ↔ stLt p.1 q.1 ∨ (p.1 = q.1 ∧ ¬ stLt q.2 p.2) := by
  obtain ⟨a, b⟩ := p
  obtain ⟨c, d⟩ := q
  show (!PySem.W.dataLt (.tuple [.str c, .str d]) (.tuple [.str a, .str b])) = true ↔ _
  rw [PySem.W.dataLt_pair (by simp [PySem.W.alike]) (by simp [PySem.W.alike]), PySem.W.dataLt_str, PySem.W.dataLt_str, eqv_st, eqv_st]
  have e1 : (c.cps.toList < a.cps.toList) = stLt c a := rfl
  have e2 : (d.cps.toList < b.cps.toList) = stLt d b := rfl
  rw [show decide (c.cps.toList < a.cps.toList) = decide (stLt c a) from rfl, show decide (d.cps.toList < b.cps.toList) = decide (stLt d b) from rfl]
  by_cases h1 : c = a
  · subst h1
    by_cases h2 : d = b
    · subst h2
      simp [stLt_irr]
    · simp [h2, stLt_irr]
  · have h1' : ¬ a = c := fun e => h1 e.symm
    simp only [h1, h1', decide_false, Bool.false_eq_true, if_false, false_and, or_false, Bool.not_eq_true', decide_eq_false_iff_not]
    rcases stLt_tri a c with h | h | h
    · exact ⟨fun _ => h, fun _ k => stLt_irr _ (stLt_tr h k)⟩
    · exact absurd h h1'
    · exact ⟨fun k => absurd h k, fun k => absurd (stLt_tr h k) (stLt_irr _)⟩
theorem lin_tw : LinB twLe := by
  refine ⟨fun p q r h1 h2 => ?_, fun p q => ?_, fun p q h1 h2 => ?_⟩
  · rw [twLe_iff] at *
    rcases h1 with h1 | ⟨h1, h3⟩ <;> rcases h2 with h2 | ⟨h2, h4⟩
    · exact .inl (stLt_tr h1 h2)
    · exact .inl (h2 ▸ h1)
    · exact .inl (h1 ▸ h2)
    · refine .inr ⟨h1.trans h2, fun h => ?_⟩
      rcases stLt_tri q.2 r.2 with k | k | k
      · exact h3 (stLt_tr k h)
      · exact h3 (k ▸ h)
      · exact h4 k
  · rw [Bool.or_eq_true, twLe_iff, twLe_iff]
    rcases stLt_tri p.1 q.1 with h | h | h
    · exact .inl (.inl h)
    · by_cases k : stLt q.2 p.2
      · exact .inr (.inr ⟨h.symm, fun z => stLt_irr _ (stLt_tr z k)⟩)
      · exact .inl (.inr ⟨h, k⟩)
    · exact .inr (.inl h)
  · rw [twLe_iff] at *
    rcases h1 with h1 | ⟨h1, h3⟩ <;> rcases h2 with h2 | ⟨h2, h4⟩
    · exact absurd (stLt_tr h1 h2) (stLt_irr _)
    · exact absurd (h2 ▸ h1) (stLt_irr _)
    · exact absurd (h1 ▸ h2) (stLt_irr _)
    · refine Prod.ext h1 ?_
      rcases stLt_tri p.2 q.2 with k | k | k
      · exact absurd k h4
      · exact k
      · exact absurd k h3
/-- tuples stand as they stood -/
def Kpt (H H' : Hp) : Prop := ∀ b xs, H b = some (.tup xs) → H' b = some (.tup xs)
theorem Same.kpt {H H' : Hp} (e : Same H H') : Kpt H H' := fun b xs h => e _ _ h
theorem Kpt.trans {H H1 H2 : Hp} (e : Kpt H H1) (f : Kpt H1 H2) : Kpt H H2 := fun b xs h => f _ _ (e _ _ h)
theorem Kpt.refl (H : Hp) : Kpt H H := fun _ _ h => h
def TwV (H : Hp) (v : V) (p : Tw) : Prop := ∃ a, v = .ref a ∧ H a = some (.tup [.str p.1, .str p.2])
abbrev TwsV (H : Hp) : List V → List Tw → Prop := Paired (TwV H)
theorem TwV.kp {H H' : Hp} {v : V} {p : Tw} (e : Kpt H H') (h : TwV H v p) : TwV H' v p := by
  obtain ⟨a, rfl, h⟩ := h
  exact ⟨a, rfl, e _ _ h⟩
theorem TwsV.kp {H H' : Hp} {xs : List V} {ps : List Tw} (e : Kpt H H') (h : TwsV H xs ps) : TwsV H' xs ps := Paired.mapP h fun _ _ h => h.kp e
theorem TwV.dp {K : PySem.W.Frag} {H : Hp} {v : V} {p : Tw} (h : TwV H v p) : Dp K H v (twD p) := by
  obtain ⟨a, rfl, h⟩ := h
  exact .tup (SqT.of h) (.cons (.str _) (.cons (.str _) .nil))
theorem TwsV.dp {K : PySem.W.Frag} {H : Hp} {xs : List V} {ps : List Tw} (h : TwsV H xs ps) : DpAll K H xs (ps.map twD) := by
  induction h with
  | nil => exact .nil
  | cons a _ ih => exact .cons a.dp ih
theorem TwsV.get {H : Hp} : ∀ {xs : List V} {ps : List Tw}, TwsV H xs ps → ∀ {i : Nat} {x : V}, xs[i]? = some x → ∃ p, ps[i]? = some p ∧ TwV H x p
  | _, _, .nil, _, _, h => by cases h
  | _, _, .cons a _, 0, _, h => by
    cases h
    exact ⟨_, rfl, a⟩
  | _, _, .cons _ t, i + 1, x, h => TwsV.get t (i := i) h
theorem TwsV.len {H : Hp} {xs : List V} {ps : List Tw} (h : TwsV H xs ps) : xs.length = ps.length := Paired.length h
theorem TwsV.app {H : Hp} : ∀ {xs : List V} {ps : List Tw}, TwsV H xs ps → ∀ {ys : List V} {qs : List Tw}, TwsV H ys qs → TwsV H (xs ++ ys) (ps ++ qs)
  | _, _, .nil, _, _, h => h
  | _, _, .cons a t, _, _, h => .cons a (TwsV.app t h)
theorem TwsV.zip {H : Hp} : ∀ {xs : List V} {ps : List Tw}, TwsV H xs ps → ∃ zs : List (V × Tw), xs = zs.map Prod.fst ∧ ps = zs.map Prod.snd ∧ ∀ z ∈ zs, TwV H z.1 z.2
  | _, _, .nil => ⟨[], rfl, rfl, fun z m => nomatch m⟩
  | _, _, .cons (a := x) (b := p) a t => by
    obtain ⟨zs, rfl, rfl, h⟩ := TwsV.zip t
    refine ⟨(x, p) :: zs, rfl, rfl, fun z m => ?_⟩
    rcases List.mem_cons.mp m with rfl | m
    · exact a
    · exact h z m
theorem TwsV.of {H : Hp} : ∀ {zs : List (V × Tw)}, (∀ z ∈ zs, TwV H z.1 z.2) → TwsV H (zs.map Prod.fst) (zs.map Prod.snd)
  | [], _ => .nil
  | z :: zs, h => .cons (h z (List.mem_cons_self ..)) (TwsV.of fun y m => h y (List.mem_cons_of_mem _ m))
theorem TwsV.perm {H : Hp} {xs ys : List V} {ps : List Tw} (h : TwsV H xs ps) (p : ys.Perm xs) : ∃ qs, TwsV H ys qs ∧ qs.Perm ps := by
  induction p generalizing ps with
  | nil => exact ⟨ps, h, .refl _⟩
  | cons x _ ih =>
    cases h with
    | cons a t =>
      obtain ⟨qs, h1, h2⟩ := ih t
      exact ⟨_ :: qs, .cons a h1, .cons _ h2⟩
  | swap x y l =>
    cases h with
    | cons a t =>
      cases t with
      | cons b t => exact ⟨_ :: _ :: _, .cons b (.cons a t), .swap _ _ _⟩
  | trans _ _ i1 i2 =>
    obtain ⟨q1, h1, h2⟩ := i2 h
    obtain ⟨q2, h3, h4⟩ := i1 h1
    exact ⟨q2, h3, h4.trans h2⟩
theorem TwsV.sub {H : Hp} {xs ys : List V} {ps : List Tw} (h : TwsV H xs ps) (p : ys.Sublist xs) : ∃ qs, TwsV H ys qs ∧ qs.Sublist ps := by
  induction p generalizing ps with
  | slnil => exact ⟨ps, h, List.Sublist.refl _⟩
  | cons x _ ih =>
    cases h with
    | cons a t =>
      obtain ⟨qs, h1, h2⟩ := ih t
      exact ⟨qs, h1, h2.cons _⟩
  | cons_cons x _ ih =>
    cases h with
    | cons a t =>
      obtain ⟨qs, h1, h2⟩ := ih t
      exact ⟨_ :: qs, .cons a h1, h2.cons_cons _⟩
/-- a name -/
abbrev Nm (z : Str) : Prop := nameB (.str z) = true
abbrev Nms (ws : List Str) : Prop := ∀ w ∈ ws, Nm w
theorem Nm.len {z : Str} (h : Nm z) : 1 ≤ z.length ∧ z.length ≤ 8 ∧ z.cps.toList.all letC = true := by
  have h : (decide (1 ≤ z.length) && decide (z.length ≤ 8) && z.cps.toList.all letC) = true := h
  rw [Bool.and_eq_true, Bool.and_eq_true, decide_eq_true_eq, decide_eq_true_eq] at h
  exact ⟨h.1.1, h.1.2, h.2⟩
theorem Nm.ok {z : Str} (h : Nm z) : PyData.strOk z = true := by
  obtain ⟨_, _, h⟩ := h.len
  unfold PyData.strOk
  rw [← Array.all_toList, List.all_eq_true]
  intro c m
  have := List.all_eq_true.mp h c m
  unfold letC at this
  rw [Bool.and_eq_true, decide_eq_true_eq, decide_eq_true_eq] at this
  exact decide_eq_true (by omega)
theorem idx_le {ws : List Str} {z : Str} : ∀ {j : Nat}, ws[j]? = some z → ws.idxOf z ≤ j := by
  induction ws with
  | nil =>
    intro j h
    cases h
  | cons a l ih =>
    intro j h
    rw [List.idxOf_cons]
    cases j with
    | zero =>
      cases h
      simp
    | succ j =>
      have := ih (j := j) h
      by_cases e : (a == z) = true
      · simp [e]
      · simp [e, this]
end Fb
set_option Elab.async false
set_option linter.all false
set_option maxRecDepth 100000
set_option maxHeartbeats 4000000
namespace Fb
open PySem PySem.Spec L2
open PyProof.Rows hiding St
/-- a way of one turn or more from s to t, all between in P -/
inductive Rch (E : List Tw) (P : Str → Prop) (s : Str) : Str → Prop
  | edge {t : Str} : (s, t) ∈ E → Rch E P s t
  | step {m t : Str} : Rch E P s m → P m → (m, t) ∈ E → Rch E P s t
theorem Rch.mono {E : List Tw} {P P' : Str → Prop} (h : ∀ x, P x → P' x) {s t : Str} (r : Rch E P s t) : Rch E P' s t := by
  induction r with
  | edge e => exact .edge e
  | step _ p e ih => exact .step ih (h _ p) e
theorem Rch.trans {E : List Tw} {P : Str → Prop} {s m t : Str} (r : Rch E P s m) (p : P m) (q : Rch E P m t) : Rch E P s t := by
  induction q with
  | edge e => exact .step r p e
  | step _ h e ih => exact .step ih h e
/-- one road more may lie between -/
theorem Rch.elim {E : List Tw} {P : Str → Prop} {w s t : Str} : Rch E (fun x => P x ∨ x = w) s t ↔ Rch E P s t ∨ (Rch E P s w ∧ Rch E P w t) := by
  constructor
  · intro r
    induction r with
    | edge e => exact .inl (.edge e)
    | step _ p e ih =>
      rcases p with p | rfl
      · rcases ih with h | ⟨h1, h2⟩
        · exact .inl (.step h p e)
        · exact .inr ⟨h1, .step h2 p e⟩
      · rcases ih with h | ⟨h1, _⟩
        · exact .inr ⟨h, .edge e⟩
        · exact .inr ⟨h1, .edge e⟩
  · rintro (h | ⟨h1, h2⟩)
    · exact h.mono fun x => .inl
    · exact (h1.mono fun x => Or.inl).trans (.inr rfl) (h2.mono fun x => Or.inl)
theorem Rch.congr {E E' : List Tw} {P P' : Str → Prop} (he : ∀ p, p ∈ E ↔ p ∈ E') (hp : ∀ x, P x ↔ P' x) {s t : Str} : Rch E P s t ↔ Rch E' P' s t := by
  constructor
  · intro r
    induction r with
    | edge e => exact .edge ((he _).mp e)
    | step _ p e ih => exact .step ih ((hp _).mp p) ((he _).mp e)
  · intro r
    induction r with
    | edge e => exact .edge ((he _).mpr e)
    | step _ p e ih => exact .step ih ((hp _).mpr p) ((he _).mpr e)
theorem Rch.ends {E : List Tw} {P : Str → Prop} {s t : Str} (r : Rch E P s t) : (∃ y, (s, y) ∈ E) ∧ ∃ x, (x, t) ∈ E := by
  induction r with
  | edge e => exact ⟨⟨_, e⟩, _, e⟩
  | step _ _ e ih => exact ⟨ih.1, _, e⟩
theorem nd1 {α : Type} {x : α} : [x].Nodup := by simp
structure LS where
  ins : Str → List Str
  outs : Str → List Str
  found : List Tw
def LS.link (S : LS) (s t : Str) : LS := if t ∈ S.outs s then S else
  ⟨fun r => if r = t then S.ins t ++ [s] else S.ins r, fun r => if r = s then S.outs s ++ [t] else S.outs r, S.found ++ [(s, t)]⟩
def LS.drop (S : LS) (w : Str) : LS := ⟨fun r => (S.ins r).filter fun x => decide (x ≠ w), fun r => (S.outs r).filter fun x => decide (x ≠ w), S.found⟩
def LS.link2 (S : LS) (s t : Str) : LS := if s = t then S else S.link s t
def LS.row (S : LS) (s : Str) (ts : List Str) : LS := ts.foldl (fun S t => S.link2 s t) S
def LS.all (S : LS) (ss ts : List Str) : LS := ss.foldl (fun S s => S.row s ts) S
def LS.settle (S : LS) (w : Str) : LS := (S.drop w).all (S.ins w) (S.outs w)
/-- what holds of it: ws all roads, live those that are not struck -/
structure LS.Ok (S : LS) (ws live : List Str) : Prop where
  ndi : ∀ r ∈ live, (S.ins r).Nodup
  ndo : ∀ r ∈ live, (S.outs r).Nodup
  back : ∀ s ∈ live, ∀ t ∈ live, s ∈ S.ins t ↔ t ∈ S.outs s
  ini : ∀ r ∈ live, ∀ s ∈ S.ins r, s ∈ live ∧ s ≠ r
  ino : ∀ r ∈ live, ∀ s ∈ S.outs r, s ∈ live ∧ s ≠ r
  ndf : S.found.Nodup
  inf : ∀ p ∈ S.found, p.1 ∈ ws ∧ p.2 ∈ ws ∧ p.1 ≠ p.2
  fo : ∀ s ∈ live, ∀ t ∈ live, (s, t) ∈ S.found ↔ t ∈ S.outs s
theorem LS.link_t {S : LS} {s t : Str} (h : t ∈ S.outs s) : S.link s t = S := if_pos h
theorem LS.link_f {S : LS} {s t : Str} (h : ¬ t ∈ S.outs s) : S.link s t = ⟨fun r => if r = t then S.ins t ++ [s] else S.ins r, fun r => if r = s then S.outs s ++ [t] else S.outs r, S.found ++ [(s, t)]⟩ := if_neg h
/-- what is out of s behind a link -/
theorem LS.link_outs {S : LS} {s t r x : Str} : x ∈ (S.link s t).outs r ↔ x ∈ S.outs r ∨ (r = s ∧ x = t) := by
  by_cases h : t ∈ S.outs s
  · rw [LS.link_t h]
    exact ⟨.inl, fun z => z.elim id fun ⟨e1, e2⟩ => by rw [e1, e2]; exact h⟩
  · rw [LS.link_f h]
    show x ∈ (if r = s then S.outs s ++ [t] else S.outs r) ↔ _
    by_cases e : r = s
    · rw [if_pos e, List.mem_append, List.mem_singleton, e]
      simp
    · rw [if_neg e]
      simp [e]
theorem LS.link_found {S : LS} {s t : Str} {p : Tw} : p ∈ (S.link s t).found ↔ p ∈ S.found ∨ (¬ t ∈ S.outs s ∧ p = (s, t)) := by
  by_cases h : t ∈ S.outs s
  · rw [LS.link_t h]
    simp [h]
  · rw [LS.link_f h]
    show p ∈ S.found ++ [(s, t)] ↔ _
    rw [List.mem_append, List.mem_singleton]
    simp [h]
theorem LS.Ok.link {S : LS} {ws live : List Str} (h : S.Ok ws live) (sub : ∀ r ∈ live, r ∈ ws) {s t : Str} (hs : s ∈ live) (ht : t ∈ live) (ne : s ≠ t) : (S.link s t).Ok ws live := by
  by_cases c : t ∈ S.outs s
  · rw [LS.link_t c]
    exact h
  · have nst : s ∉ S.ins t := fun m => c ((h.back s hs t ht).mp m)
    have nf : (s, t) ∉ S.found := fun m => c ((h.fo s hs t ht).mp m)
    have mi : ∀ r x, x ∈ (if r = t then S.ins t ++ [s] else S.ins r) ↔ x ∈ S.ins r ∨ (r = t ∧ x = s) := by
      intro r x
      by_cases e : r = t
      · rw [if_pos e, List.mem_append, List.mem_singleton, e]
        simp
      · rw [if_neg e]
        simp [e]
    have mo : ∀ r x, x ∈ (if r = s then S.outs s ++ [t] else S.outs r) ↔ x ∈ S.outs r ∨ (r = s ∧ x = t) := by
      intro r x
      by_cases e : r = s
      · rw [if_pos e, List.mem_append, List.mem_singleton, e]
        simp
      · rw [if_neg e]
        simp [e]
    rw [LS.link_f c]
    refine ⟨fun r hr => ?_, fun r hr => ?_, fun a ha b hb => ?_, fun r hr x m => ?_, fun r hr x m => ?_, ?_, fun p m => ?_, fun a ha b hb => ?_⟩
    · show (if r = t then S.ins t ++ [s] else S.ins r).Nodup
      by_cases e : r = t
      · rw [if_pos e]
        exact List.nodup_append.mpr ⟨h.ndi t ht, nd1, fun x hx y hy => by rw [List.mem_singleton.mp hy]; exact fun z => nst (z ▸ hx)⟩
      · rw [if_neg e]
        exact h.ndi r hr
    · show (if r = s then S.outs s ++ [t] else S.outs r).Nodup
      by_cases e : r = s
      · rw [if_pos e]
        exact List.nodup_append.mpr ⟨h.ndo s hs, nd1, fun x hx y hy => by rw [List.mem_singleton.mp hy]; exact fun z => c (z ▸ hx)⟩
      · rw [if_neg e]
        exact h.ndo r hr
    · show a ∈ (if b = t then S.ins t ++ [s] else S.ins b) ↔ b ∈ (if a = s then S.outs s ++ [t] else S.outs a)
      rw [mi, mo, h.back a ha b hb]
      exact or_congr_right and_comm
    · rcases (mi r x).mp m with m | ⟨rfl, rfl⟩
      · exact h.ini r hr x m
      · exact ⟨hs, ne⟩
    · rcases (mo r x).mp m with m | ⟨rfl, rfl⟩
      · exact h.ino r hr x m
      · exact ⟨ht, ne.symm⟩
    · exact List.nodup_append.mpr ⟨h.ndf, nd1, fun x hx y hy => by rw [List.mem_singleton.mp hy]; exact fun z => nf (z ▸ hx)⟩
    · rcases List.mem_append.mp m with m | m
      · exact h.inf p m
      · rw [List.mem_singleton.mp m]
        exact ⟨sub s hs, sub t ht, ne⟩
    · show (a, b) ∈ S.found ++ [(s, t)] ↔ b ∈ (if a = s then S.outs s ++ [t] else S.outs a)
      rw [mo, List.mem_append, h.fo a ha b hb, List.mem_singleton]
      exact or_congr_right ⟨fun e => by cases e; exact ⟨rfl, rfl⟩, fun ⟨e1, e2⟩ => by rw [e1, e2]⟩
theorem LS.Ok.link2 {S : LS} {ws live : List Str} (h : S.Ok ws live) (sub : ∀ r ∈ live, r ∈ ws) {s t : Str} (hs : s ∈ live) (ht : t ∈ live) : (S.link2 s t).Ok ws live := by
  unfold LS.link2
  by_cases e : s = t
  · rw [if_pos e]
    exact h
  · rw [if_neg e]
    exact h.link sub hs ht e
theorem LS.link2_outs {S : LS} {s t r x : Str} : x ∈ (S.link2 s t).outs r ↔ x ∈ S.outs r ∨ (r = s ∧ x = t ∧ s ≠ t) := by
  unfold LS.link2
  by_cases e : s = t
  · rw [if_pos e]
    simp [e]
  · rw [if_neg e, LS.link_outs]
    simp [e]
theorem LS.link2_found {S : LS} {s t : Str} {p : Tw} : (p ∈ S.found → p ∈ (S.link2 s t).found) ∧ (p ∈ (S.link2 s t).found → p ∈ S.found ∨ p = (s, t)) := by
  unfold LS.link2
  by_cases e : s = t
  · rw [if_pos e]
    exact ⟨id, .inl⟩
  · rw [if_neg e]
    exact ⟨fun m => LS.link_found.mpr (.inl m), fun m => (LS.link_found.mp m).imp_right And.right⟩
theorem LS.row_found {s : Str} {p : Tw} : ∀ (ts : List Str) {S : LS}, (p ∈ S.found → p ∈ (S.row s ts).found) ∧ (p ∈ (S.row s ts).found → p ∈ S.found ∨ (p.1 = s ∧ p.2 ∈ ts))
  | [], S => ⟨id, .inl⟩
  | t :: ts, S => by
    obtain ⟨i1, i2⟩ := LS.row_found (s := s) (p := p) ts (S := S.link2 s t)
    refine ⟨fun m => i1 (LS.link2_found.1 m), fun m => ?_⟩
    rcases i2 m with m | ⟨e, m⟩
    · rcases LS.link2_found.2 m with m | rfl
      · exact .inl m
      · exact .inr ⟨rfl, List.mem_cons_self ..⟩
    · exact .inr ⟨e, List.mem_cons_of_mem _ m⟩
theorem LS.all_found {ts : List Str} {p : Tw} : ∀ (ss : List Str) {S : LS}, (p ∈ S.found → p ∈ (S.all ss ts).found) ∧ (p ∈ (S.all ss ts).found → p ∈ S.found ∨ (p.1 ∈ ss ∧ p.2 ∈ ts))
  | [], S => ⟨id, .inl⟩
  | s :: ss, S => by
    obtain ⟨i1, i2⟩ := LS.all_found (ts := ts) (p := p) ss (S := S.row s ts)
    refine ⟨fun m => i1 ((LS.row_found ts).1 m), fun m => ?_⟩
    rcases i2 m with m | ⟨m1, m2⟩
    · rcases (LS.row_found ts).2 m with m | ⟨e, m⟩
      · exact .inl m
      · exact .inr ⟨e ▸ List.mem_cons_self .., m⟩
    · exact .inr ⟨List.mem_cons_of_mem _ m1, m2⟩
theorem LS.row_ok {ws live : List Str} (sub : ∀ r ∈ live, r ∈ ws) {s : Str} (hs : s ∈ live) : ∀ (ts : List Str) {S : LS}, S.Ok ws live → (∀ t ∈ ts, t ∈ live) → (S.row s ts).Ok ws live ∧ ∀ r x, x ∈ (S.row s ts).outs r ↔ x ∈ S.outs r ∨ (r = s ∧ x ∈ ts ∧ s ≠ x)
  | [], S, h, _ => ⟨h, fun r x => by simp [LS.row]⟩
  | t :: ts, S, h, ht => by
    obtain ⟨i1, i2⟩ := LS.row_ok sub hs ts (h.link2 sub hs (ht t (List.mem_cons_self ..))) fun u m => ht u (List.mem_cons_of_mem _ m)
    refine ⟨i1, fun r x => ?_⟩
    show x ∈ ((S.link2 s t).row s ts).outs r ↔ _
    rw [i2, LS.link2_outs, or_assoc]
    refine or_congr_right ⟨?_, ?_⟩
    · rintro (⟨e1, rfl, e3⟩ | ⟨e1, m, e3⟩)
      · exact ⟨e1, List.mem_cons_self .., e3⟩
      · exact ⟨e1, List.mem_cons_of_mem _ m, e3⟩
    · rintro ⟨e1, m, e3⟩
      rcases List.mem_cons.mp m with rfl | m
      · exact .inl ⟨e1, rfl, e3⟩
      · exact .inr ⟨e1, m, e3⟩
theorem LS.all_ok {ws live : List Str} (sub : ∀ r ∈ live, r ∈ ws) {ts : List Str} (ht : ∀ t ∈ ts, t ∈ live) : ∀ (ss : List Str) {S : LS}, S.Ok ws live → (∀ s ∈ ss, s ∈ live) → (S.all ss ts).Ok ws live ∧ ∀ r x, x ∈ (S.all ss ts).outs r ↔ x ∈ S.outs r ∨ (r ∈ ss ∧ x ∈ ts ∧ r ≠ x)
  | [], S, h, _ => ⟨h, fun r x => by simp [LS.all]⟩
  | s :: ss, S, h, hs => by
    obtain ⟨j1, j2⟩ := LS.row_ok sub (hs s (List.mem_cons_self ..)) ts h ht
    obtain ⟨i1, i2⟩ := LS.all_ok sub ht ss j1 fun u m => hs u (List.mem_cons_of_mem _ m)
    refine ⟨i1, fun r x => ?_⟩
    show x ∈ ((S.row s ts).all ss ts).outs r ↔ _
    rw [i2, j2, or_assoc]
    refine or_congr_right ⟨?_, ?_⟩
    · rintro (⟨rfl, m, e3⟩ | ⟨m1, m, e3⟩)
      · exact ⟨List.mem_cons_self .., m, e3⟩
      · exact ⟨List.mem_cons_of_mem _ m1, m, e3⟩
    · rintro ⟨m1, m, e3⟩
      rcases List.mem_cons.mp m1 with rfl | m1
      · exact .inl ⟨rfl, m, e3⟩
      · exact .inr ⟨m1, m, e3⟩
theorem LS.Ok.drop {S : LS} {ws live : List Str} (h : S.Ok ws live) (w : Str) (nd : live.Nodup) : (S.drop w).Ok ws (live.erase w) := by
  have ml : ∀ {r}, r ∈ live.erase w → r ∈ live ∧ r ≠ w := fun m => by
    have := (nd.mem_erase_iff).mp m
    exact ⟨this.2, this.1⟩
  have lm : ∀ {r}, r ∈ live → r ≠ w → r ∈ live.erase w := fun m n => (nd.mem_erase_iff).mpr ⟨n, m⟩
  refine ⟨fun r hr => (h.ndi r (ml hr).1).filter _, fun r hr => (h.ndo r (ml hr).1).filter _, fun a ha b hb => ?_, fun r hr x m => ?_, fun r hr x m => ?_, h.ndf, h.inf, fun a ha b hb => ?_⟩
  · show a ∈ (S.ins b).filter _ ↔ b ∈ (S.outs a).filter _
    rw [List.mem_filter, List.mem_filter, h.back a (ml ha).1 b (ml hb).1, decide_eq_true (ml ha).2, decide_eq_true (ml hb).2]
  · obtain ⟨m1, m2⟩ := List.mem_filter.mp m
    obtain ⟨k1, k2⟩ := h.ini r (ml hr).1 x m1
    exact ⟨lm k1 (of_decide_eq_true m2), k2⟩
  · obtain ⟨m1, m2⟩ := List.mem_filter.mp m
    obtain ⟨k1, k2⟩ := h.ino r (ml hr).1 x m1
    exact ⟨lm k1 (of_decide_eq_true m2), k2⟩
  · show (a, b) ∈ S.found ↔ b ∈ (S.outs a).filter _
    rw [List.mem_filter, h.fo a (ml ha).1 b (ml hb).1, decide_eq_true (ml hb).2]
    simp
theorem LS.Ok.settle {S : LS} {ws live : List Str} (h : S.Ok ws live) (sub : ∀ r ∈ live, r ∈ ws) (nd : live.Nodup) {w : Str} (hw : w ∈ live) : (S.settle w).Ok ws (live.erase w) ∧
    ∀ r x, r ∈ live.erase w → (x ∈ (S.settle w).outs r ↔ (x ∈ S.outs r ∧ x ≠ w) ∨ (w ∈ S.outs r ∧ x ∈ S.outs w ∧ r ≠ x)) := by
  have lm : ∀ {r}, r ∈ live → r ≠ w → r ∈ live.erase w := fun m n => (nd.mem_erase_iff).mpr ⟨n, m⟩
  obtain ⟨i1, i2⟩ := LS.all_ok (S := S.drop w) (fun r m => sub r (List.mem_of_mem_erase m)) (ts := S.outs w) (fun t m => lm (h.ino w hw t m).1 (h.ino w hw t m).2) (S.ins w) (h.drop w nd) fun s m => lm (h.ini w hw s m).1 (h.ini w hw s m).2
  refine ⟨i1, fun r x hr => ?_⟩
  show x ∈ ((S.drop w).all (S.ins w) (S.outs w)).outs r ↔ _
  rw [i2]
  show x ∈ (S.outs r).filter _ ∨ _ ↔ _
  rw [List.mem_filter, decide_eq_true_eq, h.back r (List.mem_of_mem_erase hr) w hw]
/-- what is linked, by the ways through the placed roads -/
structure LS.Sem (S : LS) (E : List Tw) (ws order : List Str) (k : Nat) : Prop where
  so : ∀ s, s ∈ ws → s ∉ order.take k → ∀ t, t ∈ ws → t ∉ order.take k → (t ∈ S.outs s ↔ s ≠ t ∧ Rch E (fun x => x ∈ order.take k) s t)
  sf : ∀ s t, (s, t) ∈ S.found ↔ s ∈ ws ∧ t ∈ ws ∧ s ≠ t ∧ Rch E (fun x => x ∈ order.take (min k (min (order.idxOf s) (order.idxOf t)))) s t
theorem take_idx {order : List Str} (nd : order.Nodup) {s : Str} (m : s ∈ order) (k : Nat) : s ∈ order.take k ↔ order.idxOf s < k := by
  have lt := List.idxOf_lt_length_of_mem m
  constructor
  · intro h
    obtain ⟨i, h1, h2⟩ := List.getElem_of_mem h
    rw [List.length_take] at h1
    rw [List.getElem_take] at h2
    have e : order.idxOf s = i := by
      rw [← h2]
      exact nd.idxOf_getElem i (by omega)
    omega
  · intro h
    have : (order.take k)[order.idxOf s]? = some s := by
      rw [List.getElem?_take_of_lt h, List.getElem?_eq_getElem lt, List.getElem_idxOf]
    exact List.mem_of_getElem? this
theorem take_more {order : List Str} {k : Nat} {w : Str} (h : order[k]? = some w) {x : Str} : x ∈ order.take (k + 1) ↔ x ∈ order.take k ∨ x = w := by
  rw [List.take_add_one, h, List.mem_append]
  simp
theorem LS.Sem.step {S : LS} {E : List Tw} {ws order live : List Str} {k : Nat} {w : Str} (h : S.Sem E ws order k) (ok : S.Ok ws live) (ndl : live.Nodup) (ml : ∀ r, r ∈ live ↔ r ∈ ws ∧ r ∉ order.take k) (nd : order.Nodup) (mo : ∀ r, r ∈ order ↔ r ∈ ws) (hw : order[k]? = some w) :
    w ∈ live ∧ (S.settle w).Ok ws (live.erase w) ∧ (∀ r, r ∈ live.erase w ↔ r ∈ ws ∧ r ∉ order.take (k + 1)) ∧ (S.settle w).Sem E ws order (k + 1) := by
  have wo := List.mem_of_getElem? hw
  have wi : order.idxOf w = k := by
    obtain ⟨lt, e⟩ := List.getElem?_eq_some_iff.mp hw
    rw [← e]
    exact nd.idxOf_getElem k lt
  have wl : w ∈ live := (ml w).mpr ⟨(mo w).mp wo, fun m => by
    have := (take_idx nd wo k).mp m
    omega⟩
  have sub : ∀ r ∈ live, r ∈ ws := fun r m => ((ml r).mp m).1
  obtain ⟨o1, o2⟩ := ok.settle sub ndl wl
  have ml2 : ∀ r, r ∈ live.erase w ↔ r ∈ ws ∧ r ∉ order.take (k + 1) := by
    intro r
    rw [ndl.mem_erase_iff, ml, take_more hw, not_or]
    exact ⟨fun ⟨a, b, c⟩ => ⟨b, c, a⟩, fun ⟨b, c, a⟩ => ⟨a, b, c⟩⟩
  have so2 : ∀ s, s ∈ ws → s ∉ order.take (k + 1) → ∀ t, t ∈ ws → t ∉ order.take (k + 1) → (t ∈ (S.settle w).outs s ↔ s ≠ t ∧ Rch E (fun x => x ∈ order.take (k + 1)) s t) := by
    intro s hs ns t ht nt
    have ns' := ns
    have nt' := nt
    rw [take_more hw, not_or] at ns' nt'
    obtain ⟨ns1, ns2⟩ := ns'
    obtain ⟨nt1, nt2⟩ := nt'
    have ww := (ml w).mp wl
    rw [o2 s t ((ml2 s).mpr ⟨hs, ns⟩), h.so s hs ns1 t ht nt1, h.so s hs ns1 w ww.1 ww.2, h.so w ww.1 ww.2 t ht nt1, Rch.congr (fun _ => Iff.rfl) (fun x => take_more hw), Rch.elim]
    constructor
    · rintro (⟨⟨a, b⟩, c⟩ | ⟨⟨a, b⟩, ⟨c, d⟩, e⟩)
      · exact ⟨a, .inl b⟩
      · exact ⟨e, .inr ⟨b, d⟩⟩
    · rintro ⟨a, b | ⟨b, c⟩⟩
      · exact .inl ⟨⟨a, b⟩, nt2⟩
      · exact .inr ⟨⟨ns2, b⟩, ⟨fun z => nt2 z.symm, c⟩, a⟩
  refine ⟨wl, o1, ml2, so2, fun s t => ?_⟩
  by_cases c : s ∈ live.erase w ∧ t ∈ live.erase w
  · obtain ⟨c1, c2⟩ := c
    have a1 := (ml2 s).mp c1
    have a2 := (ml2 t).mp c2
    have i1 : ¬ order.idxOf s < k + 1 := fun z => a1.2 ((take_idx nd ((mo s).mpr a1.1) (k + 1)).mpr z)
    have i2 : ¬ order.idxOf t < k + 1 := fun z => a2.2 ((take_idx nd ((mo t).mpr a2.1) (k + 1)).mpr z)
    rw [o1.fo s c1 t c2, so2 s a1.1 a1.2 t a2.1 a2.2, show min (k + 1) (min (order.idxOf s) (order.idxOf t)) = k + 1 by omega]
    exact ⟨fun z => ⟨a1.1, a2.1, z.1, z.2⟩, fun z => ⟨z.2.2.1, z.2.2.2⟩⟩
  · have e1 : (s, t) ∈ (S.settle w).found ↔ (s, t) ∈ S.found := by
      have af := LS.all_found (ts := S.outs w) (p := (s, t)) (S.ins w) (S := S.drop w)
      refine ⟨fun m => ?_, fun m => af.1 m⟩
      rcases af.2 m with m | ⟨m1, m2⟩
      · exact m
      · refine absurd ⟨?_, ?_⟩ c
        · have := ok.ini w wl s m1
          exact (ndl.mem_erase_iff).mpr ⟨this.2, this.1⟩
        · have := ok.ino w wl t m2
          exact (ndl.mem_erase_iff).mpr ⟨this.2, this.1⟩
    rw [e1, h.sf]
    refine and_congr_right fun ws1 => and_congr_right fun wt1 => ?_
    have e2 : min (k + 1) (min (order.idxOf s) (order.idxOf t)) = min k (min (order.idxOf s) (order.idxOf t)) := by
      by_cases d : s ∈ live.erase w
      · have nt : t ∉ live.erase w := fun z => c ⟨d, z⟩
        have : t ∈ order.take (k + 1) := Classical.byContradiction fun z => nt ((ml2 t).mpr ⟨wt1, z⟩)
        have := (take_idx nd ((mo t).mpr wt1) (k + 1)).mp this
        omega
      · have : s ∈ order.take (k + 1) := Classical.byContradiction fun z => d ((ml2 s).mpr ⟨ws1, z⟩)
        have := (take_idx nd ((mo s).mpr ws1) (k + 1)).mp this
        omega
    rw [e2]
def LS0 : LS := ⟨fun _ => [], fun _ => [], []⟩
def LS.of (E : List Tw) : LS := E.foldl (fun S p => S.link p.1 p.2) LS0
theorem LS.fold_ok {ws : List Str} : ∀ (E : List Tw) {S : LS}, S.Ok ws ws → (∀ p ∈ E, p.1 ∈ ws ∧ p.2 ∈ ws ∧ p.1 ≠ p.2) → (E.foldl (fun S p => S.link p.1 p.2) S).Ok ws ws ∧ ∀ s t, t ∈ (E.foldl (fun S p => S.link p.1 p.2) S).outs s ↔ t ∈ S.outs s ∨ (s, t) ∈ E
  | [], S, h, _ => ⟨h, fun s t => by simp⟩
  | p :: E, S, h, hE => by
    obtain ⟨p1, p2, p3⟩ := hE p (List.mem_cons_self ..)
    obtain ⟨i1, i2⟩ := LS.fold_ok E (h.link (fun _ m => m) p1 p2 p3) fun q m => hE q (List.mem_cons_of_mem _ m)
    refine ⟨i1, fun s t => ?_⟩
    rw [List.foldl_cons, i2, LS.link_outs, or_assoc, List.mem_cons]
    refine or_congr_right (or_congr_left ⟨fun ⟨a, b⟩ => by rw [a, b], fun e => by cases e; exact ⟨rfl, rfl⟩⟩)
end Fb
set_option Elab.async false
set_option linter.all false
set_option maxRecDepth 100000
set_option maxHeartbeats 4000000
namespace Fb
open PySem PySem.Spec L2
open PyProof.Rows hiding St
def nmK (r : Str) : Key := .inr r
def twK (p : Tw) : List Key := [.inr p.1, .inr p.2]
def shF (F T L : Addr) : List (Str × V) := [("_following", .ref F), ("_turns", .ref T), ("_leading", .ref L)]
/-- where one goes on to from r, by ps; from where one comes -/
def folT (ps : List Tw) (r : Str) : List Str := (ps.filter fun p => decide (p.1 = r)).map Prod.snd
def ledT (ps : List Tw) (r : Str) : List Str := (ps.filter fun p => decide (p.2 = r)).map Prod.fst
/-- a dict of names to objects -/
def refD (l : List Str) (f : Str → Addr) : List (Key × V) := l.map fun r => (nmK r, .ref (f r))
structure ShLists (H : Hp) (L : Addr) (ws : List Str) (ps : List Tw) (fvs : List (Key × V)) (f1 f2 : Str → Addr) : Prop where
  fv : fvs = refD ws f1
  hL : H L = some (.dK (refD ws f2))
  h1 : ∀ r ∈ ws, H (f1 r) = some (.lst ((folT ps r).map V.str))
  h2 : ∀ r ∈ ws, H (f2 r) = some (.lst ((ledT ps r).map V.str))
def ShapeAt (C : Addr) (H : Hp) (x : Addr) (ws : List Str) (ps : List Tw) : Prop := ∃ dx F T L fvs tvs, H x = some (.ins C dx (shF F T L)) ∧
  H F = some (.dK fvs) ∧ fvs.map Prod.fst = ws.map nmK ∧ H T = some (.dT tvs) ∧ tvs.map Prod.fst = ps.map twK ∧ ∃ f1 f2, ShLists H L ws ps fvs f1 f2
theorem ShLists.keep {H H' : Hp} {L : Addr} {ws : List Str} {ps : List Tw} {fvs : List (Key × V)} {f1 f2 : Str → Addr} (h : ShLists H L ws ps fvs f1 f2) (e : ∀ b o, (∀ C dx fs, o ≠ .ins C dx fs) → H b = some o → H' b = some o) : ShLists H' L ws ps fvs f1 f2 :=
  ⟨h.fv, e _ _ (fun _ _ _ z => nomatch z) h.hL, fun r m => e _ _ (fun _ _ _ z => nomatch z) (h.h1 r m), fun r m => e _ _ (fun _ _ _ z => nomatch z) (h.h2 r m)⟩
theorem ShapeAt.mono {C : Addr} {H H' : Hp} {x : Addr} {ws : List Str} {ps : List Tw} (h : ShapeAt C H x ws ps) (e : Same H H') : ShapeAt C H' x ws ps := by
  obtain ⟨dx, F, T, L, fvs, tvs, h1, h2, h3, h4, h5, f1, f2, h6⟩ := h
  exact ⟨dx, F, T, L, fvs, tvs, e _ _ h1, e _ _ h2, h3, e _ _ h4, h5, f1, f2, h6.keep fun b o _ q => e _ _ q⟩
/-- the dict {s: True for s in l} -/
def setD (l : List Str) : List (Key × V) := l.map fun s => (nmK s, .bl true)
/-- where the parts of links stand -/
structure LA where
  dx : Addr
  I : Addr
  O : Addr
  F : Addr
  ai : Str → Addr
  ao : Str → Addr
structure LA.Ok (A : LA) (live : List Str) : Prop where
  io : A.I ≠ A.O
  ii : ∀ r ∈ live, A.ai r ≠ A.I ∧ A.ai r ≠ A.O
  oo : ∀ r ∈ live, A.ao r ≠ A.I ∧ A.ao r ≠ A.O
  ia : ∀ r ∈ live, ∀ s ∈ live, A.ai r ≠ A.ao s
  ij : ∀ r ∈ live, ∀ s ∈ live, r ≠ s → A.ai r ≠ A.ai s ∧ A.ao r ≠ A.ao s
theorem LA.Ok.sub {A : LA} {l m : List Str} (h : A.Ok l) (s : ∀ r ∈ m, r ∈ l) : A.Ok m :=
  ⟨h.io, fun r k => h.ii r (s r k), fun r k => h.oo r (s r k), fun r k t j => h.ia r (s r k) t (s t j), fun r k t j => h.ij r (s r k) t (s t j)⟩
def lkF (A : LA) : List (Str × V) := [("ins", .ref A.I), ("outs", .ref A.O), ("found", .ref A.F)]
structure LinksAt (C : Addr) (H : Hp) (x : Addr) (A : LA) (live : List Str) (S : LS) : Prop where
  hx : H x = some (.ins C A.dx (lkF A))
  hI : H A.I = some (.dK (refD live A.ai))
  hO : H A.O = some (.dK (refD live A.ao))
  hF : ∃ xs, H A.F = some (.lst xs) ∧ TwsV H xs S.found
  hi : ∀ r ∈ live, H (A.ai r) = some (.dK (setD (S.ins r)))
  ho : ∀ r ∈ live, H (A.ao r) = some (.dK (setD (S.outs r)))
/-- the heap changes at nothing but the parts of links -/
def LA.Out (A : LA) (ws : List Str) (b : Addr) : Prop := b ≠ A.I ∧ b ≠ A.O ∧ b ≠ A.F ∧ ∀ r ∈ ws, b ≠ A.ai r ∧ b ≠ A.ao r
structure LFr (A : LA) (ws : List Str) (H H' : Hp) : Prop where
  fr : ∀ b o, A.Out ws b → H b = some o → H' b = some o
  kp : Kpt H H'
  fd : ∀ b, H b = none → H' b = none → True
theorem LFr.refl (A : LA) (ws : List Str) (H : Hp) : LFr A ws H H := ⟨fun _ _ _ h => h, Kpt.refl H, fun _ _ _ => trivial⟩
theorem LFr.trans {A : LA} {ws : List Str} {H H1 H2 : Hp} (h : LFr A ws H H1) (k : LFr A ws H1 H2) : LFr A ws H H2 :=
  ⟨fun b o q e => k.fr b o q (h.fr b o q e), h.kp.trans k.kp, fun _ _ _ => trivial⟩
theorem LFr.same {A : LA} {ws : List Str} {H H' : Hp} (e : Same H H') : LFr A ws H H' := ⟨fun b o _ h => e _ _ h, Same.kpt e, fun _ _ _ => trivial⟩
theorem LFr.sub {A : LA} {ws live : List Str} {H H' : Hp} (h : LFr A live H H') (s : ∀ r ∈ live, r ∈ ws) : LFr A ws H H' :=
  ⟨fun b o q e => h.fr b o ⟨q.1, q.2.1, q.2.2.1, fun r m => q.2.2.2 r (s r m)⟩ e, h.kp, fun _ _ _ => trivial⟩
theorem LinksAt.same {C : Addr} {H H' : Hp} {x : Addr} {A : LA} {live : List Str} {S : LS} (h : LinksAt C H x A live S) (e : Same H H') : LinksAt C H' x A live S := by
  obtain ⟨xs, h1, h2⟩ := h.hF
  exact ⟨e _ _ h.hx, e _ _ h.hI, e _ _ h.hO, ⟨xs, e _ _ h1, h2.kp (Same.kpt e)⟩, fun r m => e _ _ (h.hi r m), fun r m => e _ _ (h.ho r m)⟩
section
variable {F T L : Addr}
end
theorem ShapeAt.ins {C : Addr} {H : Hp} {x : Addr} {ws : List Str} {ps : List Tw} (h : ShapeAt C H x ws ps) : ∃ dx F T L, H x = some (.ins C dx (shF F T L)) := by
  obtain ⟨dx, F, T, L, _, _, h, _⟩ := h
  exact ⟨dx, F, T, L, h⟩
theorem nd_le {α : Type} [DecidableEq α] : ∀ {l m : List α}, l.Nodup → (∀ x ∈ l, x ∈ m) → l.length ≤ m.length
  | [], _, _, _ => Nat.zero_le _
  | x :: l, m, h, s => by
    have h := List.nodup_cons.mp h
    have hx := s x (List.mem_cons_self ..)
    have ih := nd_le (l := l) (m := m.erase x) h.2 fun y hy => (List.mem_erase_of_ne (fun e => h.1 (by rw [← e]; exact hy))).mpr (s y (List.mem_cons_of_mem _ hy))
    rw [List.length_erase_of_mem hx] at ih
    have := List.length_pos_of_mem hx
    rw [List.length_cons]
    omega
theorem LinksAt.link {C : Addr} {H : Hp} {x : Addr} {A : LA} {live : List Str} {S : LS} {s t : Str} {Tp : Addr} {xs : List V} (h : LinksAt C H x A live S) (ok : A.Ok live) (hs : s ∈ live) (ht : t ∈ live) (nt : t ∉ S.outs s)
    (hF : H A.F = some (.lst xs)) (hx : TwsV H xs S.found) (nT : (upd (upd H (A.ao s) (.dK (setD (S.outs s ++ [t])))) (A.ai t) (.dK (setD (S.ins t ++ [s])))) Tp = none) :
    LinksAt C (upd (upd (upd (upd H (A.ao s) (.dK (setD (S.outs s ++ [t])))) (A.ai t) (.dK (setD (S.ins t ++ [s])))) Tp (.tup [.str s, .str t])) A.F (.lst (xs ++ [.ref Tp]))) x A live (S.link s t) := by
  have nia : A.ai t ≠ A.ao s := ok.ia t ht s hs
  have e1 : (upd H (A.ao s) (.dK (setD (S.outs s ++ [t])))) (A.ao s) = some (.dK (setD (S.outs s ++ [t]))) := upd_same
  have e2 : (upd (upd H (A.ao s) (.dK (setD (S.outs s ++ [t])))) (A.ai t) (.dK (setD (S.ins t ++ [s])))) (A.ai t) = some (.dK (setD (S.ins t ++ [s]))) := upd_same
  have nTo : Tp ≠ A.ao s := fun e => by
    rw [e, upd_ne nia.symm, upd_same] at nT
    cases nT
  have nTi : Tp ≠ A.ai t := fun e => by
    rw [e, upd_same] at nT
    cases nT
  have nT0 : H Tp = none := by
    rw [upd_ne nTi, upd_ne nTo] at nT
    exact nT
  have nT' : ∀ {b : Addr} {o : HO}, H b = some o → b ≠ Tp := fun e z => by
    rw [z, nT0] at e
    cases e
  -- what stands at another place stands
  have oth : ∀ {b : Addr} {o : HO}, H b = some o → b ≠ A.ao s → b ≠ A.ai t → b ≠ A.F → (upd (upd (upd (upd H (A.ao s) (.dK (setD (S.outs s ++ [t])))) (A.ai t) (.dK (setD (S.ins t ++ [s])))) Tp (.tup [.str s, .str t])) A.F (.lst (xs ++ [.ref Tp]))) b = some o := by
    intro b o e h1 h2 h3
    rw [upd_ne h3, upd_ne (nT' e), upd_ne h2, upd_ne h1]
    exact e
  have nF : ∀ {b : Addr} {kvs : List (Key × V)}, H b = some (.dK kvs) → b ≠ A.F := fun e z => by
    rw [z, hF] at e
    cases e
  have kpA : Kpt H (upd (upd (upd (upd H (A.ao s) (.dK (setD (S.outs s ++ [t])))) (A.ai t) (.dK (setD (S.ins t ++ [s])))) Tp (.tup [.str s, .str t])) A.F (.lst (xs ++ [.ref Tp]))) := by
    intro b ys e
    refine oth e ?_ ?_ ?_
    · exact ne_of e (h.ho s hs) fun z => nomatch z
    · exact ne_of e (h.hi t ht) fun z => nomatch z
    · exact ne_of e hF fun z => nomatch z
  have ef : (S.link s t).found = S.found ++ [(s, t)] := by rw [LS.link_f nt]
  refine ⟨?_, ?_, ?_, ⟨xs ++ [.ref Tp], upd_same, ?_⟩, fun r m => ?_, fun r m => ?_⟩
  · refine oth h.hx ?_ ?_ ?_
    · exact ne_of h.hx (h.ho s hs) fun z => nomatch z
    · exact ne_of h.hx (h.hi t ht) fun z => nomatch z
    · exact ne_of h.hx hF fun z => nomatch z
  · exact oth h.hI (ok.oo s hs).1.symm (ok.ii t ht).1.symm (nF h.hI)
  · exact oth h.hO (ok.oo s hs).2.symm (ok.ii t ht).2.symm (nF h.hO)
  · rw [ef]
    refine TwsV.app (TwsV.kp kpA hx) (.cons ⟨Tp, rfl, ?_⟩ .nil)
    rw [upd_ne (fun z => by
      rw [← z, nT0] at hF
      cases hF), upd_same]
  · rw [LS.link_f nt]
    show _ = some (HO.dK (setD (if r = t then S.ins t ++ [s] else S.ins r)))
    by_cases e : r = t
    · rw [if_pos e, e, upd_ne (nF (h.hi t ht)), upd_ne (nT' (h.hi t ht)), upd_same]
    · rw [if_neg e]
      exact oth (h.hi r m) (ok.ia r m s hs) (ok.ij r m t ht e).1 (nF (h.hi r m))
  · rw [LS.link_f nt]
    show _ = some (HO.dK (setD (if r = s then S.outs s ++ [t] else S.outs r)))
    by_cases e : r = s
    · rw [if_pos e, e, upd_ne (nF (h.ho s hs)), upd_ne (nT' (h.ho s hs)), upd_ne nia.symm, upd_same]
    · rw [if_neg e]
      exact oth (h.ho r m) (ok.ij r m s hs e).2 (ok.ia t ht r m).symm (nF (h.ho r m))
/-- a dict, or what is locked -/
def DicO : HO → Prop
  | .dK _ => True
  | .frz _ (.dK _) => True
  | _ => False
theorem dic_tup {H : Hp} {b c : Addr} {o : HO} {xs : List V} (h : H b = some o) (d : DicO o) (k : H c = some (.tup xs)) : c ≠ b := by
  refine ne_of k h fun z => ?_
  rw [← z] at d
  exact d
theorem LinksAt.off {C : Addr} {H : Hp} {x b : Addr} {A : LA} {live : List Str} {S : LS} {o o' : HO} (h : LinksAt C H x A live S) (q : A.Out live b) (hb : H b = some o) (d : DicO o) : LinksAt C (upd H b o') x A live S := by
  obtain ⟨xs, h1, h2⟩ := h.hF
  refine ⟨?_, ?_, ?_, ⟨xs, ?_, TwsV.kp (fun c ys e => ?_) h2⟩, fun r m => ?_, fun r m => ?_⟩
  · rw [upd_ne (ne_of h.hx hb fun z => by rw [← z] at d; exact d)]
    exact h.hx
  · rw [upd_ne q.1.symm]
    exact h.hI
  · rw [upd_ne q.2.1.symm]
    exact h.hO
  · rw [upd_ne q.2.2.1.symm]
    exact h1
  · rw [upd_ne (dic_tup hb d e)]
    exact e
  · rw [upd_ne (q.2.2.2 r m).1.symm]
    exact h.hi r m
  · rw [upd_ne (q.2.2.2 r m).2.symm]
    exact h.ho r m
theorem LFr.upd {A : LA} {ws : List Str} {H : Hp} {b : Addr} {o o' : HO} (q : ¬ A.Out ws b) (hb : H b = some o) (d : DicO o) : LFr A ws H (upd H b o') := by
  refine ⟨fun c u qc e => ?_, fun c ys e => ?_, fun _ _ _ => trivial⟩
  · have nc : c ≠ b := fun z => q (by rw [← z]; exact qc)
    rw [upd_ne nc]
    exact e
  · rw [upd_ne (dic_tup hb d e)]
    exact e
theorem LinksAt.congr {C : Addr} {H : Hp} {x : Addr} {A : LA} {live : List Str} {S S' : LS} (h : LinksAt C H x A live S) (h1 : ∀ r ∈ live, S.ins r = S'.ins r) (h2 : ∀ r ∈ live, S.outs r = S'.outs r) (h3 : S.found = S'.found) : LinksAt C H x A live S' :=
  ⟨h.hx, h.hI, h.hO, h3 ▸ h.hF, fun r m => h1 r m ▸ h.hi r m, fun r m => h2 r m ▸ h.ho r m⟩
/-- new objects for the names of l, each of them o, none of them at D -/
structure Fam (o : HO) (H0 H : Hp) (D : Addr) (l : List Str) (f : Str → Addr) : Prop where
  nw : ∀ r ∈ l, H0 (f r) = none ∧ f r ≠ D ∧ H (f r) = some o
  ij : ∀ r ∈ l, ∀ s ∈ l, r ≠ s → f r ≠ f s
theorem Fam.same {o : HO} {H0 H H' : Hp} {D : Addr} {l : List Str} {f : Str → Addr} (h : Fam o H0 H D l f) (e : ∀ b, H b = some o → H' b = some o) : Fam o H0 H' D l f :=
  ⟨fun r m => let ⟨a, b, c⟩ := h.nw r m; ⟨a, b, e _ c⟩, h.ij⟩
theorem lock_back {H G : Hp} {F : Addr} {u o : HO} (hF : H F = some u) (e : Same (upd H F o) G) : Same H (upd G F u) := by
  intro b v h
  by_cases q : b = F
  · rw [q, hF] at h
    cases h
    rw [q, upd_same]
  · rw [upd_ne q]
    refine e _ _ ?_
    rw [upd_ne q]
    exact h
theorem inV_strs (z : Str) (l : List Str) : inV (.str z) (l.map V.str) = decide (z ∈ l) := by
  unfold inV
  rw [Bool.eq_iff_iff, decide_eq_true_eq, List.any_eq_true]
  constructor
  · rintro ⟨y, m, e⟩
    obtain ⟨x, mx, rfl⟩ := List.mem_map.mp m
    have e : (x == z) = true := e
    rw [beq_iff_eq] at e
    exact e ▸ mx
  · intro m
    exact ⟨_, List.mem_map.mpr ⟨z, m, rfl⟩, by show (z == z) = true; exact beq_self_eq_true z⟩
theorem flat_strs (l : List Str) : (l.map V.str).all flatV = true := by
  rw [List.all_eq_true]
  intro y m
  obtain ⟨x, _, rfl⟩ := List.mem_map.mp m
  rfl
end Fb
set_option Elab.async false
set_option linter.all false
set_option maxRecDepth 100000
set_option maxHeartbeats 4000000
namespace Fb
open PySem PySem.Spec L2
open PyProof.Rows hiding St
open Classical in
/-- how many ways lead on from r, through P, to roads not in P -/
noncomputable def outN (E : List Tw) (ws P : List Str) (r : Str) : Nat := (ws.filter fun t => decide (t ∉ P ∧ r ≠ t ∧ Rch E (fun x => x ∈ P) r t)).length
open Classical in
noncomputable def inN (E : List Tw) (ws P : List Str) (r : Str) : Nat := (ws.filter fun s => decide (s ∉ P ∧ s ≠ r ∧ Rch E (fun x => x ∈ P) s r)).length
abbrev Jt := Int × Str
def jtD (p : Jt) : PyData := .tuple [.int p.1, .str p.2]
noncomputable def cost (E : List Tw) (ws P : List Str) (r : Str) : Int := (outN E ws P r : Int) * (inN E ws P r : Int)
def minL : List PyData → PyData
  | [] => .none
  | y :: ys => PySem.W.minD y ys
/-- the rows of the roads that are left -/
noncomputable def jts (E : List Tw) (ws P : List Str) : List Jt := (ws.filter fun r => decide (r ∉ P)).map fun r => (cost E ws P r, r)
/-- the one that comes next -/
def IsMin (E : List Tw) (ws P : List Str) (r : Str) : Prop := ∃ c : Int, (c, r) ∈ jts E ws P ∧ jtD (c, r) = minL ((jts E ws P).map jtD)
theorem IsMin.mem {E : List Tw} {ws P : List Str} {r : Str} (h : IsMin E ws P r) : r ∈ ws ∧ r ∉ P := by
  obtain ⟨c, m, _⟩ := h
  obtain ⟨x, mx, e⟩ := List.mem_map.mp m
  cases e
  obtain ⟨a, b⟩ := List.mem_filter.mp mx
  exact ⟨a, of_decide_eq_true b⟩
theorem IsMin.uniq {E : List Tw} {ws P : List Str} {r s : Str} (h : IsMin E ws P r) (k : IsMin E ws P s) : r = s := by
  obtain ⟨c, _, e⟩ := h
  obtain ⟨d, _, f⟩ := k
  have := e.trans f.symm
  unfold jtD at this
  injection this with this
  injection this with _ this
  injection this with this
  injection this
structure IsFew (E : List Tw) (ws order : List Str) : Prop where
  len : order.length = ws.length
  min : ∀ k r, order[k]? = some r → IsMin E ws (order.take k) r
theorem IsFew.nodup {E : List Tw} {ws order : List Str} (h : IsFew E ws order) : order.Nodup := by
  refine List.pairwise_iff_getElem.mpr fun i j hi hj lt e => ?_
  refine (h.min j _ (List.getElem?_eq_getElem hj)).mem.2 ?_
  have : (order.take j)[i]? = some order[j] := by
    rw [List.getElem?_take_of_lt lt, List.getElem?_eq_getElem hi, e]
  exact List.mem_of_getElem? this
theorem IsFew.mem {E : List Tw} {ws order : List Str} (h : IsFew E ws order) (nd : ws.Nodup) (r : Str) : r ∈ order ↔ r ∈ ws := by
  have sub : ∀ x ∈ order, x ∈ ws := fun x m => by
    obtain ⟨k, e⟩ := List.getElem?_of_mem m
    exact (h.min k x e).mem.1
  refine ⟨sub r, fun m => Classical.byContradiction fun n => ?_⟩
  have := nd_le (l := r :: order) (m := ws) (List.nodup_cons.mpr ⟨n, h.nodup⟩) fun x mx => by
    rcases List.mem_cons.mp mx with rfl | mx
    · exact m
    · exact sub x mx
  rw [List.length_cons, h.len] at this
  omega
theorem IsFew.uniq {E : List Tw} {ws o1 o2 : List Str} (h : IsFew E ws o1) (k : IsFew E ws o2) : o1 = o2 := by
  have all : ∀ n, n ≤ ws.length → o1.take n = o2.take n := by
    intro n
    induction n with
    | zero => exact fun _ => rfl
    | succ n ih =>
      intro hn
      have ih := ih (by omega)
      have h1 : o1[n]? = some (o1[n]'(by have := h.len; omega)) := List.getElem?_eq_getElem _
      have h2 : o2[n]? = some (o2[n]'(by have := k.len; omega)) := List.getElem?_eq_getElem _
      have m1 := h.min n _ h1
      have m2 := k.min n _ h2
      rw [ih] at m1
      rw [List.take_add_one, List.take_add_one, ih, h1, h2, m1.uniq m2]
  have := all ws.length (Nat.le_refl _)
  rwa [List.take_of_length_le (by have := h.len; omega), List.take_of_length_le (by have := k.len; omega)] at this
def JtV (H : Hp) (v : V) (p : Jt) : Prop := ∃ a, v = .ref a ∧ H a = some (.tup [.int p.1, .str p.2])
abbrev JtsV (H : Hp) : List V → List Jt → Prop := Paired (JtV H)
theorem JtV.kp {H H' : Hp} {v : V} {p : Jt} (e : Kpt H H') (h : JtV H v p) : JtV H' v p := by
  obtain ⟨a, rfl, h⟩ := h
  exact ⟨a, rfl, e _ _ h⟩
theorem JtV.dp {K : PySem.W.Frag} {H : Hp} {v : V} {p : Jt} (h : JtV H v p) : Dp K H v (jtD p) := by
  obtain ⟨a, rfl, h⟩ := h
  exact .tup (SqT.of h) (.cons (.int _) (.cons (.str _) .nil))
theorem JtsV.dp {K : PySem.W.Frag} {H : Hp} {xs : List V} {ps : List Jt} (h : JtsV H xs ps) : DpAll K H xs (ps.map jtD) := by
  induction h with
  | nil => exact .nil
  | cons a _ ih => exact .cons a.dp ih
theorem JtsV.get {H : Hp} : ∀ {xs : List V} {ps : List Jt}, JtsV H xs ps → ∀ {i : Nat} {x : V}, xs[i]? = some x → ∃ p, ps[i]? = some p ∧ JtV H x p
  | _, _, .nil, _, _, h => by cases h
  | _, _, .cons a _, 0, _, h => by
    cases h
    exact ⟨_, rfl, a⟩
  | _, _, .cons _ t, i + 1, x, h => JtsV.get t (i := i) h
theorem JtsV.of {H : Hp} : ∀ {xs : List V} {ps : List Jt}, xs.length = ps.length → (∀ (i : Nat) (v : V) (p : Jt), xs[i]? = some v → ps[i]? = some p → JtV H v p) → JtsV H xs ps
  | [], [], _, _ => .nil
  | [], _ :: _, h, _ => by cases h
  | _ :: _, [], h, _ => by cases h
  | x :: xs, p :: ps, h, f => .cons (f 0 x p rfl rfl) (JtsV.of (Nat.succ.inj h) fun i v q a b => f (i + 1) v q a b)
end Fb
set_option Elab.async false
set_option linter.all false
set_option maxRecDepth 100000
set_option maxHeartbeats 4000000
namespace Fb
open PySem PySem.Spec L2
open PyProof.Rows hiding St
theorem idx_take {ws : List Str} {z : Str} (m : z ∈ ws) (n : Nat) : ws.idxOf z < n ↔ z ∈ ws.take n := by
  have lt := List.idxOf_lt_length_of_mem m
  constructor
  · intro h
    refine List.mem_iff_getElem?.mpr ⟨ws.idxOf z, ?_⟩
    rw [List.getElem?_take, if_pos h, List.getElem?_eq_getElem lt, List.getElem_idxOf]
  · intro h
    obtain ⟨j, hj⟩ := List.mem_iff_getElem?.mp h
    have lj : j < n := by
      by_cases c : j < n
      · exact c
      · rw [List.getElem?_take, if_neg c] at hj
        cases hj
    rw [List.getElem?_take, if_pos lj] at hj
    have := idx_le hj
    omega
/-- the search for a low way: seen, and whose turns are all walked -/
structure LowI (E : List Tw) (P : Str → Prop) (ws : List Str) (one two : Str) (seen C : List Str) : Prop where
  nd : seen.Nodup
  sub : ∀ x ∈ seen, x ∈ ws
  st : one ∈ seen
  re : ∀ x ∈ seen, x = one ∨ (P x ∧ Rch E P one x)
  cl : ∀ x ∈ C, ∀ y, (x, y) ∈ E → y ≠ two ∧ (P y → y ∈ seen)
theorem LowI.start {E : List Tw} {P : Str → Prop} {ws : List Str} {one two : Str} (m : one ∈ ws) : LowI E P ws one two [one] [] :=
  ⟨nd1, fun x h => by rw [List.mem_singleton.mp h]; exact m, List.mem_singleton.mpr rfl, fun x h => .inl (List.mem_singleton.mp h), fun x h => nomatch h⟩
theorem LowI.rch {E : List Tw} {P : Str → Prop} {ws : List Str} {one two x y : Str} {seen C : List Str} (h : LowI E P ws one two seen C) (mx : x ∈ seen) (e : (x, y) ∈ E) : Rch E P one y := by
  rcases h.re x mx with rfl | ⟨p, r⟩
  · exact .edge e
  · exact .step r p e
theorem LowI.no {E : List Tw} {P : Str → Prop} {ws : List Str} {one two : Str} {seen C : List Str} (h : LowI E P ws one two seen C) (all : ∀ x ∈ seen, x ∈ C) : ¬ Rch E P one two := by
  have key : ∀ {t}, Rch E P one t → t ≠ two ∧ (P t → t ∈ seen) := by
    intro t r
    induction r with
    | edge e => exact h.cl one (all one h.st) _ e
    | step _ p e ih => exact h.cl _ (all _ (ih.2 p)) _ e
  exact fun r => (key r).1 rfl
/-- the search for what one reaches through placed roads -/
structure FarI (E : List Tw) (P : List Str) (ws : List Str) (r : Str) (seen vis found C : List Str) : Prop where
  nds : seen.Nodup
  ndv : vis.Nodup
  ndf : found.Nodup
  sub : ∀ x ∈ seen, x ∈ ws
  st : r ∈ vis
  vs : ∀ x, x ∈ vis ↔ x ∈ seen ∧ (x = r ∨ x ∈ P)
  fs : ∀ x, x ∈ found ↔ x ∈ seen ∧ ¬ (x = r ∨ x ∈ P)
  re : ∀ x ∈ seen, x = r ∨ Rch E (fun x => x ∈ P) r x
  cl : ∀ x ∈ C, ∀ y, (x, y) ∈ E → y ∈ seen
theorem FarI.start {E : List Tw} {P ws : List Str} {r : Str} (m : r ∈ ws) : FarI E P ws r [r] [r] [] [] :=
  ⟨nd1, nd1, List.nodup_nil, fun x h => by rw [List.mem_singleton.mp h]; exact m, List.mem_singleton.mpr rfl, fun x => by rw [List.mem_singleton]; exact ⟨fun e => ⟨e, .inl e⟩, fun e => e.1⟩, fun x => by rw [List.mem_singleton]; exact ⟨fun e => (nomatch e), fun e => absurd (.inl e.1) e.2⟩, fun x h => .inl (List.mem_singleton.mp h), fun x h => nomatch h⟩
theorem FarI.all {E : List Tw} {P ws : List Str} {r : Str} {seen vis found C : List Str} (h : FarI E P ws r seen vis found C) (all : ∀ x ∈ vis, x ∈ C) (nr : r ∉ P) (t : Str) : t ∈ found ↔ t ∉ P ∧ r ≠ t ∧ Rch E (fun x => x ∈ P) r t := by
  have key : ∀ {t}, Rch E (fun x => x ∈ P) r t → t ∈ seen := by
    intro t q
    induction q with
    | edge e => exact h.cl r (all r h.st) _ e
    | step _ p e ih => exact h.cl _ (all _ ((h.vs _).mpr ⟨ih, .inr p⟩)) _ e
  rw [h.fs, not_or]
  constructor
  · rintro ⟨a, b, c⟩
    exact ⟨c, fun q => b q.symm, (h.re t a).resolve_left b⟩
  · rintro ⟨a, b, c⟩
    exact ⟨key c, fun q => b q.symm, a⟩
section
variable {P : Program} {w : World} {K : PySem.W.Frag} {mg : Str → Option Value} {base : Heap} {x : Str} {st : Stmt} {f : Addr} {fd : FuncData} {N : List Str} {k : Nat} {p1 p2 p3 p4 : Str}
open C8 (Def fnScope fnBody)
end
/-- what the low pairs are -/
def IsLow (E : List Tw) (ws order : List Str) (fs : List Tw) : Prop := fs.Nodup ∧ ∀ s t, (s, t) ∈ fs ↔ s ∈ ws ∧ t ∈ ws ∧ s ≠ t ∧ Rch E (fun x => x ∈ order.take (min (order.idxOf s) (order.idxOf t))) s t
theorem IsLow.sort {E : List Tw} {ws ws' order : List Str} {fs gs : List Tw} (h : IsLow E ws order fs) (k : IsLow E ws' order gs) (e : ∀ r, r ∈ ws ↔ r ∈ ws') : fs.mergeSort twLe = gs.mergeSort twLe := by
  refine lin_tw.perm (nodup_perm h.1 k.1 fun q => ?_)
  obtain ⟨a, b⟩ := q
  rw [h.2, k.2, e, e]
/-- a road, and the list of what one reaches from it -/
def FarS (E : List Tw) (P ws : List Str) (r : Str) (fs : List Str) : Prop := fs.Nodup ∧ ∀ t, t ∈ fs ↔ t ∈ ws ∧ t ∉ P ∧ r ≠ t ∧ Rch E (fun x => x ∈ P) r t
def WayV (E : List Tw) (P ws : List Str) (H : Hp) (v : V) (r : Str) : Prop := ∃ t L fs, v = .ref t ∧ H t = some (.tup [.str r, .ref L]) ∧ H L = some (.lst (fs.map V.str)) ∧ FarS E P ws r fs
theorem WayV.mono {E : List Tw} {P ws : List Str} {H H' : Hp} {v : V} {r : Str} (h : WayV E P ws H v r) (e : Same H H') : WayV E P ws H' v r := by
  obtain ⟨t, L, fs, a, b, c, d⟩ := h
  exact ⟨t, L, fs, a, e _ _ b, e _ _ c, d⟩
theorem JtsV.app {H : Hp} : ∀ {xs : List V} {ps : List Jt}, JtsV H xs ps → ∀ {ys : List V} {qs : List Jt}, JtsV H ys qs → JtsV H (xs ++ ys) (ps ++ qs)
  | _, _, .nil, _, _, h => h
  | _, _, .cons a t, _, _, h => .cons a (JtsV.app t h)
/-- the roads and turns of a law's shape -/
structure Rts (H : Hp) (D F : Addr) (ws : List Str) (ps : List Tw) : Prop where
  hD : H D = some (.lst (ws.map V.str))
  hF : ∃ xs, H F = some (.lst xs) ∧ TwsV H xs ps
  lw : ws.length ≤ 10
  lp : ps.length ≤ 14
  nm : Nms ws
  ndw : ws.Nodup
  ndp : ps.Nodup
  so : ps.Pairwise fun a b => twLe a b = true
  hE : ∀ q ∈ ps, q.1 ∈ ws ∧ q.2 ∈ ws ∧ q.1 ≠ q.2
theorem Rts.mono {H H' : Hp} {D F : Addr} {ws : List Str} {ps : List Tw} (h : Rts H D F ws ps) (e : Same H H') : Rts H' D F ws ps := by
  obtain ⟨xs, a, b⟩ := h.hF
  exact ⟨e _ _ h.hD, ⟨xs, e _ _ a, b.kp (Same.kpt e)⟩, h.lw, h.lp, h.nm, h.ndw, h.ndp, h.so, h.hE⟩
theorem IsLow.len {E : List Tw} {ws order : List Str} {fs : List Tw} (h : IsLow E ws order fs) (l : ws.length ≤ 100) : fs.length ≤ 10000 := by
  have e : fs.length ≤ (ws.flatMap fun a => ws.map fun b => (a, b)).length := nd_le h.1 fun p m => by
    obtain ⟨a, b⟩ := p
    have := (h.2 a b).mp m
    exact List.mem_flatMap.mpr ⟨a, this.1, List.mem_map.mpr ⟨b, this.2.1, rfl⟩⟩
  rw [List.length_flatMap] at e
  simp only [List.length_map, List.map_const', List.sum_replicate_nat] at e
  have := Nat.mul_le_mul l l
  omega
end Fb
set_option Elab.async false
set_option linter.all false
set_option maxRecDepth 100000
set_option maxHeartbeats 4000000
namespace Fb
open PySem PySem.Spec L2
open PyProof.Rows hiding St
def plF (R T : Addr) : List (Str × V) := [("_ranks", .ref R), ("_pairs", .ref T)]
/-- the places of an order -/
def rankD (l : List Str) : List (Key × V) := l.zipIdx.map fun p => (nmK p.1, .int p.2)
def pairD (ps : List Tw) : List (List Key × V) := ps.map fun p => (twK p, .bl true)
def PlanAt (C : Addr) (H : Hp) (x : Addr) (order : List Str) (ps : List Tw) : Prop := ∃ dx R T, H x = some (.ins C dx (plF R T)) ∧ H R = some (.dK (rankD order)) ∧ H T = some (.dT (pairD ps))
theorem PlanAt.mono {C : Addr} {H H' : Hp} {x : Addr} {order : List Str} {ps : List Tw} (h : PlanAt C H x order ps) (e : Same H H') : PlanAt C H' x order ps := by
  obtain ⟨dx, R, T, a, b, c⟩ := h
  exact ⟨dx, R, T, e _ _ a, e _ _ b, e _ _ c⟩
/-- the sorted list, without twins, of the pairs that are P -/
structure Prs (P : Tw → Prop) (rs : List Tw) : Prop where
  nd : rs.Nodup
  so : rs.Pairwise fun a b => twLe a b = true
  mem : ∀ q, q ∈ rs ↔ P q
theorem Prs.uniq {P : Tw → Prop} {rs qs : List Tw} (h : Prs P rs) (k : Prs P qs) : rs = qs :=
  lin_tw.uniq h.so k.so (nodup_perm h.nd k.nd fun q => (h.mem q).trans (k.mem q).symm)
/-- a low pair -/
def LowP (E : List Tw) (order : List Str) (q : Tw) : Prop := q.1 ∈ order ∧ q.2 ∈ order ∧ q.1 ≠ q.2 ∧ Rch E (fun x => x ∈ order.take (min (order.idxOf q.1) (order.idxOf q.2))) q.1 q.2
theorem TwsV.take {H : Hp} : ∀ {xs : List V} {ps : List Tw}, TwsV H xs ps → ∀ i : Nat, TwsV H (xs.take i) (ps.take i)
  | _, _, .nil, i => by
    rw [List.take_nil, List.take_nil]
    exact .nil
  | _, _, .cons _ _, 0 => .nil
  | _, _, .cons a t, i + 1 => .cons a (TwsV.take t i)
end Fb
set_option Elab.async false
set_option linter.all false
set_option maxRecDepth 100000
set_option maxHeartbeats 4000000
namespace PySem.W
open PySem PySem.Spec PyProof.Rows
section
variable {prog : Program} {w : World} {K : Type} [DecidableEq K] {knd : HeapKind prog w K} {A : Around} {E : Value → Shared → Prop} {s : Shared}
end
end PySem.W
namespace Fb
open PySem PySem.Spec L2
open PyProof.Rows hiding St
section
variable {X : Cx}
end
theorem Rch.sub {E E' : List Tw} {P : Str → Prop} (he : ∀ p ∈ E', p ∈ E) {s t : Str} (r : Rch E' P s t) : Rch E P s t := by
  induction r with
  | edge e => exact .edge (he _ e)
  | step _ p e ih => exact .step ih p (he _ e)
section
variable {P : Program} {w : World} {K : PySem.W.Frag} {mg : Str → Option Value} {base : Heap} {x : Str} {st : Stmt} {f : Addr} {fd : FuncData} {N : List Str} {k : Nat} {p1 p2 p3 p4 p5 p6 : Str}
open C8 (Def fnScope fnBody)
end
/-- a plan that has all low pairs of a shape -/
structure Stf (ws : List Str) (ps : List Tw) (order : List Str) (qs : List Tw) : Prop where
  nm : Nms ws
  ndw : ws.Nodup
  lw : ws.length ≤ 100
  lp : ps.length ≤ 100
  hE : ∀ p ∈ ps, p.1 ∈ ws ∧ p.2 ∈ ws ∧ p.1 ≠ p.2
  ndo : order.Nodup
  mo : ∀ r, r ∈ order ↔ r ∈ ws
  ndq : qs.Nodup
  soq : qs.Pairwise fun a b => twLe a b = true
  lq : qs.length ≤ 10000
  hQ : ∀ p ∈ qs, p.1 ∈ ws ∧ p.2 ∈ ws ∧ p.1 ≠ p.2
  low : ∀ q, LowP ps order q → q ∈ qs
theorem Stf.lo {ws order : List Str} {ps qs : List Tw} (h : Stf ws ps order qs) : order.length ≤ 100 := Nat.le_trans (nd_le h.ndo fun r m => (h.mo r).mp m) h.lw
end Fb
set_option Elab.async false
set_option linter.all false
set_option maxRecDepth 100000
set_option maxHeartbeats 4000000
namespace HT
open PySem PySem.Spec PyProof.Rows
section
variable {prog : Program} {w : World} {A : Around} {E : Value → Shared → Prop} {s : Shared}
end
end HT
namespace Fb
open PySem PySem.Spec L2
open PyProof.Rows hiding St
section
variable {X : Cx}
end
end Fb
set_option Elab.async false
set_option linter.all false
set_option maxRecDepth 100000
set_option maxHeartbeats 4000000
namespace RZ
open PySem PySem.Spec PyProof.Rows
section
variable {prog : Program} {w : World} {A : Around} {E : Value → Shared → Prop} {s : Shared}
end
end RZ
namespace Fb
open PySem PySem.Spec L2
open PyProof.Rows hiding St
/-- each step of a walk is a turn -/
def Wlk (E : List Tw) (w : List Str) : Prop := ∀ i a b, w[i]? = some a → w[i + 1]? = some b → (a, b) ∈ E
end Fb
set_option Elab.async false
set_option linter.all false
set_option maxRecDepth 100000
set_option maxHeartbeats 4000000
namespace Fb
open PySem PySem.Spec L2
open PyProof.Rows hiding St
/-- a pair as it is walked: up, or down -/
def pr (dn : Bool) (a b : Str) : Tw := if dn then (b, a) else (a, b)
def WlkR (dn : Bool) (E : List Tw) (w : List Str) : Prop := ∀ i a b, w[i]? = some a → w[i + 1]? = some b → pr dn a b ∈ E
theorem WlkR.up {E : List Tw} {w : List Str} (h : Wlk E w) : WlkR false E w := h
theorem rev_get {α : Type} {w : List α} {i : Nat} {a : α} (h : w.reverse[i]? = some a) : ∃ j, i + j + 1 = w.length ∧ w[j]? = some a := by
  have lt := (List.getElem?_eq_some_iff.mp h).1
  rw [List.length_reverse] at lt
  rw [List.getElem?_reverse lt] at h
  exact ⟨w.length - 1 - i, by omega, h⟩
theorem WlkR.down {E : List Tw} {w : List Str} (h : Wlk E w) : WlkR true E w.reverse := by
  intro i a b ha hb
  obtain ⟨j, ej, gj⟩ := rev_get ha
  obtain ⟨k, ek, gk⟩ := rev_get hb
  have : j = k + 1 := by omega
  subst this
  exact h k b a gk gj
theorem WlkR.back {E : List Tw} {w : List Str} (h : WlkR true E w) : Wlk E w.reverse := by
  intro i a b ha hb
  obtain ⟨j, ej, gj⟩ := rev_get ha
  obtain ⟨k, ek, gk⟩ := rev_get hb
  have : j = k + 1 := by omega
  subst this
  exact h k b a gk gj
theorem WlkR.part {dn : Bool} {E : List Tw} {w : List Str} (h : WlkR dn E w) (l n : Nat) : WlkR dn E ((w.drop l).take n) := by
  intro i a b ha hb
  rw [List.getElem?_take, List.getElem?_drop] at ha hb
  split at ha
  · split at hb
    · exact h _ a b ha (by rw [Nat.add_assoc]; exact hb)
    · cases hb
  · cases ha
theorem Rch.turn {E E' : List Tw} {P : Str → Prop} (h : ∀ a b, (a, b) ∈ E' → (b, a) ∈ E) {s t : Str} (r : Rch E' P s t) : Rch E P t s := by
  induction r with
  | edge e => exact .edge (h _ _ e)
  | step _ p e ih => exact (Rch.edge (h _ _ e)).trans p ih
theorem wlk_rch {E : List Tw} {P : Str → Prop} {w : List Str} (h : Wlk E w) {a b : Nat} {x y : Str} (ha : w[a]? = some x) (hb : w[b]? = some y) (lt : a < b) (ne : x ≠ y)
    (mid : ∀ j z, a < j → j < b → w[j]? = some z → z = x ∨ P z) : Rch E P x y := by
  have lb := (List.getElem?_eq_some_iff.mp hb).1
  have key : ∀ n, a + n + 1 ≤ b → ∀ z, w[a + n + 1]? = some z → z = x ∨ Rch E P x z := by
    intro n
    induction n with
    | zero => exact fun _ z gz => .inr (.edge (h a x z ha gz))
    | succ n ih =>
      intro le z gz
      have g1 : w[a + n + 1]? = some w[a + n + 1] := List.getElem?_eq_getElem (by omega)
      have e := h (a + n + 1) _ z g1 gz
      rcases ih (by omega) _ g1 with q | r
      · rw [q] at e
        exact .inr (.edge e)
      · rcases mid (a + n + 1) _ (by omega) (by omega) g1 with q | p
        · rw [q] at e
          exact .inr (.edge e)
        · exact .inr (.step r p e)
  obtain ⟨n, rfl⟩ : ∃ n, b = a + n + 1 := ⟨b - a - 1, by omega⟩
  rcases key n (Nat.le_refl _) y hb with q | r
  · exact absurd q.symm ne
  · exact r
/-- a walk whose places between lie below both ends: a low pair -/
theorem WlkR.low {dn : Bool} {E : List Tw} {order w : List Str} (h : WlkR dn E w) (nd : order.Nodup) (all : ∀ z ∈ w, z ∈ order) {a b : Nat} {x y : Str} (ha : w[a]? = some x) (hb : w[b]? = some y) (lt : a < b) (ne : x ≠ y)
    (mid : ∀ j z, a < j → j < b → w[j]? = some z → z = x ∨ order.idxOf z < min (order.idxOf x) (order.idxOf y)) : LowP E order (pr dn x y) := by
  have mx := all x (List.mem_of_getElem? ha)
  have my := all y (List.mem_of_getElem? hb)
  have mid2 : ∀ j z, a < j → j < b → w[j]? = some z → z = x ∨ z ∈ order.take (min (order.idxOf x) (order.idxOf y)) := fun j z h1 h2 g =>
    (mid j z h1 h2 g).imp id fun q => (take_idx nd (all z (List.mem_of_getElem? g)) _).mpr q
  cases dn with
  | false => exact ⟨mx, my, ne, wlk_rch h ha hb lt ne mid2⟩
  | true =>
    have h2 : Wlk (E.map fun p => (p.2, p.1)) w := fun i c d gc gd => List.mem_map.mpr ⟨(d, c), h i c d gc gd, rfl⟩
    have r := wlk_rch h2 ha hb lt ne mid2
    refine ⟨my, mx, fun q => ne q.symm, ?_⟩
    have r2 : Rch E (fun z => z ∈ order.take (min (order.idxOf x) (order.idxOf y))) y x := r.turn fun c d m => by
      obtain ⟨q, mq, e⟩ := List.mem_map.mp m
      cases e
      exact mq
    rw [Nat.min_comm] at r2
    exact r2
/-- two records next to each other -/
def Seg (order w : List Str) (a b : Nat) : Prop := a < b ∧ ∃ x y, w[a]? = some x ∧ w[b]? = some y ∧ order.idxOf x < order.idxOf y ∧ ∀ j z, a < j → j < b → w[j]? = some z → order.idxOf z ≤ order.idxOf x
def Recs (order w : List Str) (ks : List Nat) : Prop := ∀ i a b, ks[i]? = some a → ks[i + 1]? = some b → Seg order w a b
structure RecI (order w : List Str) (i : Nat) (ks : List Nat) (most : Int) : Prop where
  ord : Recs order w ks
  len : ks.length ≤ i
  top : (ks = [] ∧ most = -1 ∧ i = 0) ∨ ∃ us a x, ks = us ++ [a] ∧ a < i ∧ w[a]? = some x ∧ most = (order.idxOf x : Nat) ∧ ∀ j z, a < j → j < i → w[j]? = some z → order.idxOf z ≤ order.idxOf x
theorem RecI.start {order w : List Str} : RecI order w 0 [] (-1) := ⟨fun _ _ _ g => (nomatch (show (none : Option Nat) = some _ from g)), Nat.le_refl _, .inl ⟨rfl, rfl, rfl⟩⟩
theorem RecI.more {order w : List Str} {i : Nat} {ks : List Nat} {most : Int} {z : Str} (h : RecI order w i ks most) (g : w[i]? = some z) (lt : most < (order.idxOf z : Nat)) : RecI order w (i + 1) (ks ++ [i]) (order.idxOf z : Nat) := by
  refine ⟨fun j a b ga gb => ?_, by rw [List.length_append]; exact Nat.succ_le_succ h.len, .inr ⟨ks, i, z, rfl, Nat.lt_succ_self i, g, rfl, fun j z' h1 h2 _ => by omega⟩⟩
  by_cases c : j + 1 < ks.length
  · rw [List.getElem?_append_left (by omega)] at ga
    rw [List.getElem?_append_left c] at gb
    exact h.ord j a b ga gb
  · have lj := (List.getElem?_eq_some_iff.mp gb).1
    rw [List.length_append, List.length_singleton] at lj
    have ej : j + 1 = ks.length := by omega
    rw [ej, List.getElem?_append_right (Nat.le_refl _), Nat.sub_self] at gb
    have eb : i = b := Option.some.inj gb
    subst eb
    rcases h.top with ⟨e, _, _⟩ | ⟨us, a', x, e, la, gx, em, mid⟩
    · rw [e] at ej
      cases ej
    · rw [e, List.length_append, List.length_singleton] at ej
      have : j = us.length := by omega
      subst this
      rw [List.getElem?_append_left (by rw [e, List.length_append]; exact Nat.lt_succ_self _), e, List.getElem?_append_right (Nat.le_refl _), Nat.sub_self] at ga
      have ea : a' = a := Option.some.inj ga
      subst ea
      exact ⟨la, x, z, gx, g, by omega, mid⟩
/-- from the last place of w[a] before b, to b -/
def IsPart (w : List Str) (a b : Nat) (ps : List Str) : Prop := ∃ l, a ≤ l ∧ l < b ∧ w[l]? = w[a]? ∧ (∀ j, l < j → j < b → w[j]? ≠ w[a]?) ∧ ps = (w.drop l).take (b + 1 - l)
theorem IsPart.get {w : List Str} {a b l : Nat} (i : Nat) (h : i < b + 1 - l) : ((w.drop l).take (b + 1 - l))[i]? = w[l + i]? := by
  rw [List.getElem?_take_of_lt h, List.getElem?_drop]
/-- the highest place passed since k -/
def TopI (order w : List Str) (k i : Nat) (most spot : Int) : Prop := (most = -1 ∧ spot = -1 ∧ i = k + 1) ∨
  ∃ (s : Nat) (x : Str), k < s ∧ s < i ∧ w[s]? = some x ∧ spot = (s : Nat) ∧ most = (order.idxOf x : Nat) ∧ (∀ j z, k < j → j < i → w[j]? = some z → order.idxOf z ≤ order.idxOf x) ∧ ∀ j z, k < j → j < s → w[j]? = some z → order.idxOf z < order.idxOf x
theorem TopI.more {order w : List Str} {k i : Nat} {most spot : Int} {z : Str} (h : TopI order w k i most spot) (ki : k < i) (g : w[i]? = some z) (lt : most < (order.idxOf z : Nat)) : TopI order w k (i + 1) (order.idxOf z : Nat) (i : Nat) := by
  refine .inr ⟨i, z, ki, Nat.lt_succ_self i, g, rfl, rfl, fun j z' h1 h2 g2 => ?_, fun j z' h1 h2 g2 => ?_⟩
  · by_cases c : j = i
    · subst c
      rw [g] at g2
      cases g2
      exact Nat.le_refl _
    · rcases h with ⟨_, _, e⟩ | ⟨s, x, _, _, _, _, em, q, _⟩
      · omega
      · have := q j z' h1 (by omega) g2
        omega
  · rcases h with ⟨_, _, e⟩ | ⟨s, x, _, _, _, _, em, q, _⟩
    · omega
    · have := q j z' h1 h2 g2
      omega
theorem TopI.mid {order w : List Str} {k i : Nat} {most spot m : Int} (h : TopI order w k i most spot) (lt : most < m) : ∀ j z, k < j → j < i → w[j]? = some z → (order.idxOf z : Int) < m := by
  intro j z h1 h2 g
  rcases h with ⟨_, _, e⟩ | ⟨s, x, _, _, _, _, em, q, _⟩
  · omega
  · have := q j z h1 h2 g
    omega
end Fb
set_option Elab.async false
set_option linter.all false
set_option maxRecDepth 100000
set_option maxHeartbeats 4000000
namespace PySem.W
open PySem PySem.Calls PyProof.Rows Builtin
section
variable {prog : Program} {w : World} {A : Around} {E : Value → Shared → Prop} {s : Shared} {K : Frag} {x C L f : Addr} {h₀ : Heap} {m : Str → Option Value} {ox : Obj} {od : Option Obj} {name : Str} {b tb : Value}
end
end PySem.W
namespace Fb
open PySem PySem.Spec L2
open PyProof.Rows hiding St
open C8 (Cal Met Mak Def cal0 met0 mak0 pe_c pe_mk pe_mt pe_mt0 fnScope fnBody fnArgs)
section
variable {X : Cx} {k j : Nat} {C : Addr} {sp : Sp}
end
end Fb
set_option Elab.async false
set_option linter.all false
set_option maxRecDepth 100000
set_option maxHeartbeats 4000000
namespace Fb
open PySem PySem.Spec L2
open PyProof.Rows hiding St
def WebAt (H : Hp) (W : Addr) (ns : List Str) (ps : List Tw) : Prop := ∃ D F xs, H W = some (.tup [.ref D, .ref F]) ∧ H D = some (.lst (ns.map V.str)) ∧ H F = some (.lst xs) ∧ TwsV H xs ps
theorem WebAt.mono {H H' : Hp} {W : Addr} {ns : List Str} {ps : List Tw} (h : WebAt H W ns ps) (e : Same H H') : WebAt H' W ns ps := by
  obtain ⟨D, F, xs, a, b, c, d⟩ := h
  exact ⟨D, F, xs, e _ _ a, e _ _ b, e _ _ c, d.kp (Same.kpt e)⟩
/-- what is known: reached through P, and as many different ones as rounds -/
structure KnI (E : List Tw) (P : Str → Prop) (ws : List Str) (one : Str) (i : Nat) (known : List Str) : Prop where
  has : one ∈ known
  rch : ∀ x ∈ known, x = one ∨ (P x ∧ Rch E P one x)
  sub : ∀ x ∈ known, x ∈ ws
  many : ∃ us : List Str, us.Nodup ∧ us.length = i + 1 ∧ ∀ x ∈ us, x ∈ known
theorem KnI.start {E : List Tw} {P : Str → Prop} {ws : List Str} {one : Str} (m : one ∈ ws) : KnI E P ws one 0 [one] :=
  ⟨List.mem_singleton.mpr rfl, fun x h => .inl (List.mem_singleton.mp h), fun x h => by rw [List.mem_singleton.mp h]; exact m, [one], nd1, rfl, fun x h => h⟩
theorem KnI.yes {E : List Tw} {P : Str → Prop} {ws : List Str} {one two x : Str} {i : Nat} {known : List Str} (h : KnI E P ws one i known) (m : x ∈ known) (e : (x, two) ∈ E) : Rch E P one two := by
  rcases h.rch x m with rfl | ⟨p, r⟩
  · exact .edge e
  · exact .step r p e
theorem KnI.no {E : List Tw} {P : Str → Prop} {ws : List Str} {one two : Str} {i : Nat} {known : List Str} (h : KnI E P ws one i known) (n : ∀ x, x ∈ known → (x, two) ∉ E) (c : ∀ x y, x ∈ known → (x, y) ∈ E → P y → y ∈ known) : ¬ Rch E P one two := by
  intro r
  have key : ∀ t, Rch E P one t → ∃ x ∈ known, (x, t) ∈ E := by
    intro t r
    induction r with
    | edge e => exact ⟨one, h.has, e⟩
    | step r p e ih =>
      obtain ⟨x, mx, ex⟩ := ih
      exact ⟨_, c _ _ mx ex p, e⟩
  obtain ⟨x, mx, ex⟩ := key two r
  exact n x mx ex
theorem KnI.more {E : List Tw} {P : Str → Prop} {ws : List Str} {one f0 : Str} {i : Nat} {known fresh : List Str} (h : KnI E P ws one i known) (m0 : f0 ∈ fresh) (n0 : f0 ∉ known) (all : ∀ y ∈ fresh, P y ∧ y ∈ ws ∧ ∃ x ∈ known, (x, y) ∈ E) : KnI E P ws one (i + 1) (known ++ fresh) := by
  obtain ⟨us, nu, lu, su⟩ := h.many
  refine ⟨List.mem_append_left _ h.has, fun x m => ?_, fun x m => ?_, us ++ [f0], List.nodup_append.mpr ⟨nu, nd1, fun a ma b mb e => ?_⟩, by rw [List.length_append, lu]; rfl, fun x m => ?_⟩
  · rcases List.mem_append.mp m with m | m
    · exact h.rch x m
    · obtain ⟨p, _, y, my, ey⟩ := all x m
      exact .inr ⟨p, h.yes my ey⟩
  · rcases List.mem_append.mp m with m | m
    · exact h.sub x m
    · exact (all x m).2.1
  · rw [List.mem_singleton.mp mb] at e
    rw [e] at ma
    exact n0 (su _ ma)
  · rcases List.mem_append.mp m with m | m
    · exact List.mem_append_left _ (su x m)
    · rw [List.mem_singleton.mp m]
      exact List.mem_append_right _ m0
theorem KnI.le {E : List Tw} {P : Str → Prop} {ws : List Str} {one : Str} {i : Nat} {known : List Str} (h : KnI E P ws one i known) : i + 1 ≤ ws.length := by
  obtain ⟨us, nu, lu, su⟩ := h.many
  have := nd_le nu fun x m => h.sub x (su x m)
  omega
end Fb
set_option Elab.async false
set_option linter.all false
set_option maxRecDepth 100000
set_option maxHeartbeats 4000000
namespace Fb
open PySem PySem.Spec L2
open PyProof.Rows hiding St
abbrev Cm := List (Str × Option Str)
/-- a way whose inner roads are all P -/
structure LowWay (E : List Tw) (P : Str → Prop) (s t : Str) (w : List Str) : Prop where
  nd : w.Nodup
  wlk : Wlk E w
  hd : w.head? = some s
  lt : w.getLast? = some t
  inn : ∀ z ∈ w, z = s ∨ z = t ∨ P z
/-- what came from where: all but the first from one ahead -/
structure CmI (E : List Tw) (al : Str → Prop) (src : Str) (cl : Cm) : Prop where
  nd : (cl.map Prod.fst).Nodup
  hd : cl[0]? = some (src, none)
  up : ∀ i z o, cl[i + 1]? = some (z, o) → ∃ p, o = some p ∧ p ∈ (cl.take (i + 1)).map Prod.fst ∧ (p, z) ∈ E ∧ al z
theorem CmI.start {E : List Tw} {al : Str → Prop} {src : Str} : CmI E al src [(src, none)] :=
  ⟨nd1, rfl, fun i z o h => by cases h⟩
theorem CmI.more {E : List Tw} {al : Str → Prop} {src z p : Str} {cl : Cm} (h : CmI E al src cl) (n : z ∉ cl.map Prod.fst) (mp : p ∈ cl.map Prod.fst) (e : (p, z) ∈ E) (a : al z) : CmI E al src (cl ++ [(z, some p)]) := by
  refine ⟨?_, ?_, fun i y o g => ?_⟩
  · rw [List.map_append]
    exact List.nodup_append.mpr ⟨h.nd, nd1, fun a ma b mb e => by rw [List.mem_singleton.mp mb] at e; rw [e] at ma; exact n ma⟩
  · rw [List.getElem?_append_left (List.getElem?_eq_some_iff.mp h.hd).1]
    exact h.hd
  · by_cases c : i + 1 < cl.length
    · rw [List.getElem?_append_left c] at g
      obtain ⟨q, h1, h2, h3, h4⟩ := h.up i y o g
      refine ⟨q, h1, ?_, h3, h4⟩
      rw [List.take_append_of_le_length (by omega)]
      exact h2
    · have l := (List.getElem?_eq_some_iff.mp g).1
      rw [List.length_append, List.length_singleton] at l
      have ei : i + 1 = cl.length := by omega
      rw [ei, List.getElem?_append_right (Nat.le_refl _), Nat.sub_self] at g
      cases g
      refine ⟨p, rfl, ?_, e, a⟩
      rw [ei, List.take_append_of_le_length (Nat.le_refl _), List.take_length]
      exact mp
theorem CmI.imp {E : List Tw} {al al' : Str → Prop} {src : Str} {cl : Cm} (h : CmI E al src cl) (k : ∀ z, al z → al' z) : CmI E al' src cl :=
  ⟨h.nd, h.hd, fun i z o g => by obtain ⟨p, a, b, c, d⟩ := h.up i z o g; exact ⟨p, a, b, c, k _ d⟩⟩
/-- the place of a road -/
def cmI (cl : Cm) (z : Str) : Nat := (cl.map Prod.fst).idxOf z
theorem CmI.at {E : List Tw} {al : Str → Prop} {src z : Str} {cl : Cm} {o : Option Str} (h : CmI E al src cl) (m : (z, o) ∈ cl) : (o = none ∧ z = src ∧ cmI cl z = 0) ∨ ∃ p, o = some p ∧ p ∈ cl.map Prod.fst ∧ cmI cl p < cmI cl z ∧ (p, z) ∈ E ∧ al z := by
  obtain ⟨j, hj⟩ := List.getElem?_of_mem m
  have hk : (cl.map Prod.fst)[j]? = some z := by rw [List.getElem?_map, hj]; rfl
  have ij : cmI cl z = j := by
    obtain ⟨l, e⟩ := List.getElem?_eq_some_iff.mp hk
    have m2 : z ∈ cl.map Prod.fst := List.mem_of_getElem? hk
    have l2 := List.idxOf_lt_length_of_mem m2
    have e2 := List.getElem_idxOf l2
    exact (List.getElem_inj h.nd).mp (e2.trans e.symm)
  cases j with
  | zero =>
    rw [h.hd] at hj
    cases hj
    exact .inl ⟨rfl, rfl, ij⟩
  | succ i =>
    obtain ⟨p, h1, h2, h3, h4⟩ := h.up i z o hj
    have l := (List.getElem?_eq_some_iff.mp hj).1
    rw [List.map_take] at h2
    have mp := List.mem_of_mem_take h2
    refine .inr ⟨p, h1, mp, ?_, h3, h4⟩
    rw [ij]
    exact (idx_take mp _).mpr h2
/-- the way back, as far as it is traced -/
structure TrI (E : List Tw) (al : Str → Prop) (cl : Cm) (t z : Str) (o : Option Str) (w : List Str) : Prop where
  at_ : (z, o) ∈ cl
  nd : (z :: w).Nodup
  wlk : Wlk E (z :: w)
  lt : (z :: w).getLast? = some t
  lo : ∀ y ∈ w, cmI cl z < cmI cl y
  al : ∀ y ∈ w, al y
theorem TrI.start {E : List Tw} {al : Str → Prop} {cl : Cm} {t : Str} {o : Option Str} (m : (t, o) ∈ cl) : TrI E al cl t t o [] :=
  ⟨m, nd1, (fun i a b _ g => (by cases i <;> cases g)), rfl, (fun y m => (nomatch m)), (fun y m => (nomatch m))⟩
theorem TrI.step {E : List Tw} {al : Str → Prop} {src : Str} {cl : Cm} {t z p : Str} {o : Option Str} {w : List Str} (h : TrI E al cl t z (some p) w) (I : CmI E al src cl) (m : (p, o) ∈ cl) : TrI E al cl t p o (z :: w) := by
  obtain ⟨h1, h2, h3⟩ : cmI cl p < cmI cl z ∧ (p, z) ∈ E ∧ al z := by
    rcases I.at h.at_ with ⟨q, _⟩ | ⟨p', q, a, b, c⟩
    · cases q
    · cases q
      exact ⟨b, c⟩
  have lo : ∀ y ∈ z :: w, cmI cl p < cmI cl y := fun y my => by
    rcases List.mem_cons.mp my with rfl | my
    · exact h1
    · exact Nat.lt_trans h1 (h.lo y my)
  refine ⟨m, List.nodup_cons.mpr ⟨fun mp => Nat.lt_irrefl _ (lo p mp), h.nd⟩, fun i a b ga gb => ?_, ?_, lo, fun y my => ?_⟩
  · cases i with
    | zero =>
      cases ga
      cases gb
      exact h2
    | succ i => exact h.wlk i a b ga gb
  · have := h.lt
    rw [List.getLast?_cons_cons]
    exact this
  · rcases List.mem_cons.mp my with rfl | my
    · exact h3
    · exact h.al y my
theorem TrI.whole {E : List Tw} {al P : Str → Prop} {src : Str} {cl : Cm} {t z : Str} {w : List Str} (h : TrI E al cl t z none w) (I : CmI E al src cl) (k : ∀ y, al y → y = t ∨ P y) : LowWay E P src t (z :: w) := by
  rcases I.at h.at_ with ⟨_, rfl, _⟩ | ⟨p, q, _⟩
  · refine ⟨h.nd, h.wlk, rfl, h.lt, fun y my => ?_⟩
    rcases List.mem_cons.mp my with rfl | my
    · exact .inl rfl
    · exact .inr (k y (h.al y my))
  · cases q
theorem LowWay.len {E : List Tw} {P : Str → Prop} {s t : Str} {w : List Str} (h : LowWay E P s t w) (ne : s ≠ t) : 2 ≤ w.length := by
  cases w with
  | nil => cases h.hd
  | cons a w =>
    cases w with
    | nil =>
      have h1 := h.hd
      have h2 := h.lt
      cases h1
      cases h2
      exact absurd rfl ne
    | cons b w => exact Nat.le_add_left _ _
abbrev Ip := Int × Int
def ipD (p : Ip) : PyData := .tuple [.int p.1, .int p.2]
def ipLe (a b : Ip) : Prop := a.1 < b.1 ∨ (a.1 = b.1 ∧ a.2 ≤ b.2)
instance (a b : Ip) : Decidable (ipLe a b) := by unfold ipLe; infer_instance
def IpV (H : Hp) (v : V) (p : Ip) : Prop := ∃ a, v = .ref a ∧ H a = some (.tup [.int p.1, .int p.2])
abbrev IpsV (H : Hp) : List V → List Ip → Prop := Paired (IpV H)
theorem IpV.kp {H H' : Hp} {v : V} {p : Ip} (e : Kpt H H') (h : IpV H v p) : IpV H' v p := by
  obtain ⟨a, rfl, h⟩ := h
  exact ⟨a, rfl, e _ _ h⟩
theorem IpsV.kp {H H' : Hp} {xs : List V} {ps : List Ip} (e : Kpt H H') (h : IpsV H xs ps) : IpsV H' xs ps := Paired.mapP h fun _ _ h => h.kp e
theorem IpV.dp {K : PySem.W.Frag} {H : Hp} {v : V} {p : Ip} (h : IpV H v p) : Dp K H v (ipD p) := by
  obtain ⟨a, rfl, h⟩ := h
  exact .tup (SqT.of h) (.cons (.int _) (.cons (.int _) .nil))
theorem IpsV.dp {K : PySem.W.Frag} {H : Hp} {xs : List V} {ps : List Ip} (h : IpsV H xs ps) : DpAll K H xs (ps.map ipD) := by
  unfold IpsV at h
  induction h with
  | nil => exact .nil
  | cons a _ ih => exact .cons a.dp ih
theorem IpsV.app {H : Hp} : ∀ {xs : List V} {ps : List Ip}, IpsV H xs ps → ∀ {ys : List V} {qs : List Ip}, IpsV H ys qs → IpsV H (xs ++ ys) (ps ++ qs)
  | _, _, .nil, _, _, h => h
  | _, _, .cons a r, _, _, h => .cons a (IpsV.app r h)
def tkF (n m : Int) : List (Str × V) := [("taken", .bl true), ("needed", .int n), ("spare", .int m)]
def TakAt (C : Addr) (H : Hp) (x : Addr) (n m : Int) : Prop := ∃ dx, H x = some (.ins C dx (tkF n m))
def rfF (s t : Str) (W : Addr) : List (Str × V) := [("taken", .bl false), ("source", .str s), ("target", .str t), ("way", .ref W)]
def RefAt (C : Addr) (H : Hp) (x : Addr) (s t : Str) (W : Addr) : Prop := ∃ dx, H x = some (.ins C dx (rfF s t W))
theorem TakAt.mono {C : Addr} {H H' : Hp} {x : Addr} {n m : Int} (h : TakAt C H x n m) (e : Same H H') : TakAt C H' x n m := by
  obtain ⟨dx, h⟩ := h
  exact ⟨dx, e _ _ h⟩
theorem RefAt.mono {C : Addr} {H H' : Hp} {x : Addr} {s t : Str} {W : Addr} (h : RefAt C H x s t W) (e : Same H H') : RefAt C H' x s t W := by
  obtain ⟨dx, h⟩ := h
  exact ⟨dx, e _ _ h⟩
section
variable {P : Program} {w : World} {K : PySem.W.Frag} {mg : Str → Option Value} {base : Heap} {m qual : Str} {st : Stmt} {f : Addr} {fd : FuncData} {N : List Str} {k : Nat} {p1 p2 p3 p4 : Str}
end
theorem LowWay.imp {E : List Tw} {P P' : Str → Prop} {s t : Str} {w : List Str} (h : LowWay E P s t w) (k : ∀ z, P z → P' z) : LowWay E P' s t w :=
  ⟨h.nd, h.wlk, h.hd, h.lt, fun z m => (h.inn z m).imp id fun h => h.imp id (k z)⟩
end Fb
set_option Elab.async false
set_option linter.all false
set_option maxRecDepth 100000
set_option maxHeartbeats 4000000
namespace Fb
open PySem PySem.Spec L2
open PyProof.Rows hiding St
section
variable {X : Cx}
end
end Fb
set_option Elab.async false
set_option linter.all false
set_option maxRecDepth 100000
set_option maxHeartbeats 4000000
namespace Fb
open PySem PySem.Spec L2
open PyProof.Rows hiding St
open LamX (TabB Tabs TabS ExtN CodeO)
end Fb
set_option Elab.async false
set_option linter.all false
set_option maxRecDepth 100000
set_option maxHeartbeats 4000000
namespace Fb
open PySem PySem.Spec L2
open PyProof.Rows hiding St
open NdefX (NF NScope CellsAt inv_startN startF ncx envF)
section
variable {prog : Program} {w : World} {A : Around} {E : Value → Shared → Prop} {h : Heap} {g : Array GenState} {d : Drawn} {t : Nat} {os : OsState}
variable {nm q : Str} {C N : Addr} {bs bm : List Value} {hdct : Bool} {sn : List Str} {sub : List Value} {ab : Bool} {col : Option Bool} {dd : Option Addr} {k0 k1 k2 k3 k5 : Option Value}
end
section
variable {CX : CXT} {P : Program} {w : World} {K : PySem.W.Frag} {mg : Str → Option Value} {base : Heap} {k : Nat} {f C cda cc : Addr} {name qual self : Str} {params : Arguments} {e : Expr} {rest : List Stmt} {scope : Scope} {dV kV doc pm ct oc ccl ccx : Value} {an od cdd cxd : Option Addr}
  {osl ccs cxs : Array (Option Value)} {N ps : List Str} {sp : Sp} {p0 p1 p2 p3 p4 : Pos} {pl : Addr → Sem Bool} {ar : Arg} {vsc : Array Value} {file : Str} {tf : Tok}
end
end Fb
set_option Elab.async false
set_option linter.all false
set_option maxRecDepth 100000
set_option maxHeartbeats 4000000
namespace Fb
open PySem PySem.Spec L2
open PyProof.Rows hiding St
open C8 (Cal Met Mak Def fnScope fnBody fnArgs)
section
variable {P : Program} {w : World} {K : PySem.W.Frag} {mg : Str → Option Value} {base : Heap}
section
variable {x : Str} {st : Stmt} {f : Addr} {fd : FuncData} {N ps : List Str} {k : Nat} {sp : Sp} {p1 p2 p3 : Str}
end
end
section
variable {X : Cx} {k j : Nat} {C : Addr} {x m : Str} {sp : Sp} {dvs : List V} {p pos apos : Pos} {e o : Expr} {es : List Expr} {ta : TE} {t : TA} {E : XK}
end
end Fb
set_option Elab.async false
set_option linter.all false
set_option maxRecDepth 100000
set_option maxHeartbeats 4000000
namespace Fb
open PySem PySem.Spec L2
open PyProof.Rows hiding St
theorem Nm.signs {z : Str} (h : Nm z) : z.length ≤ 1000 ∧ ∀ c ∈ z.cps.toList, c < 16 ^ 8 := by
  obtain ⟨_, h8, h⟩ := h.len
  refine ⟨by omega, fun c m => ?_⟩
  have := List.all_eq_true.mp h c m
  unfold letC at this
  rw [Bool.and_eq_true, decide_eq_true_eq, decide_eq_true_eq] at this
  exact Nat.lt_of_le_of_lt this.2 (by decide)
end Fb
set_option Elab.async false
set_option linter.all false
set_option maxRecDepth 100000
set_option maxHeartbeats 4000000
namespace Fb
open PySem PySem.Spec L2
open PyProof.Rows hiding St
open LamX (TabB Tabs TabS ExtN CodeO)
end Fb
set_option Elab.async false
set_option linter.all false
set_option maxRecDepth 100000
set_option maxHeartbeats 4000000
namespace Fb
open PySem PySem.Spec L2
open PyProof.Rows hiding St
open C8 (Cal Met Mak Def fnScope fnBody fnArgs)
section
variable {X : Cx} {k j : Nat} {C : Addr} {sp : Sp}
end
section
variable {P : Program} {w : World} {K : PySem.W.Frag} {mg : Str → Option Value} {base : Heap} {x : Str} {st : Stmt} {f : Addr} {fd : FuncData} {N ps : List Str} {k : Nat} {sp : Sp} {cd : Value}
end
end Fb
set_option Elab.async false
set_option linter.all false
set_option maxRecDepth 100000
set_option maxHeartbeats 4000000
namespace Fb
open PySem PySem.Spec L2
open PyProof.Rows hiding St
end Fb
set_option Elab.async false
set_option linter.all false
set_option maxRecDepth 100000
namespace Fb
open PySem PySem.Spec L2
open PyProof.Rows hiding St
section
variable {P : Program} {w : World} {A : Around} {E : Value → Shared → Prop} {s : Shared}
end
end Fb
set_option Elab.async false
set_option linter.all false
set_option maxRecDepth 100000
namespace Fb
open PySem PySem.Spec L2
open PyProof.Rows hiding St
end Fb
set_option Elab.async false
set_option linter.all false
set_option maxRecDepth 100000
set_option maxHeartbeats 4000000
namespace Fb
open PySem PySem.Spec L2
open PyProof.Rows hiding St
/-- a table of texts on the heap -/
def TabV (K : PySem.W.Frag) (H : Hp) (B : Addr) (rows : List (List Str)) : Prop := ∃ as : List Addr, SqL K H B (as.map V.ref) ∧ as.length = rows.length ∧ ∀ (i : Nat) (a : Addr) (r : List Str), as[i]? = some a → rows[i]? = some r → SqL K H a (r.map V.str)
theorem TabV.mono {K : PySem.W.Frag} {H H' : Hp} {B : Addr} {rows : List (List Str)} (h : TabV K H B rows) (e : Same H H') : TabV K H' B rows := by
  obtain ⟨as, h1, h2, h3⟩ := h
  exact ⟨as, e.seq h1, h2, fun i a r g1 g2 => e.seq (h3 i a r g1 g2)⟩
theorem TabV.at {K : PySem.W.Frag} {H : Hp} {B : Addr} {rows : List (List Str)} (h : TabV K H B rows) {i : Nat} {r : List Str} (g : rows[i]? = some r) : ∃ (as : List Addr) (a : Addr), SqL K H B (as.map V.ref) ∧ (as.map V.ref)[i]? = some (.ref a) ∧ SqL K H a (r.map V.str) := by
  obtain ⟨as, h1, h2, h3⟩ := h
  obtain ⟨lt, _⟩ := List.getElem?_eq_some_iff.mp g
  have ga : as[i]? = some as[i] := List.getElem?_eq_getElem (by omega)
  exact ⟨as, _, h1, by rw [List.getElem?_map, ga]; rfl, h3 i _ r ga g⟩
def tlf (N B E : Addr) (st : V) : List (Str × V) := putF "stay" st (putF "_thens" (.ref E) (putF "_bests" (.ref B) (putF "_names" (.ref N) [])))
theorem tlf_no (N B E : Addr) (st : V) {m : Str} (h1 : ¬ m = "stay") (h2 : ¬ m = "_thens") (h3 : ¬ m = "_bests") (h4 : ¬ m = "_names") : (tlf N B E st).lookup m = none := by
  unfold tlf
  rw [lookup_putF, if_neg h1, lookup_putF, if_neg h2, lookup_putF, if_neg h3, lookup_putF, if_neg h4]
  rfl
structure ToldAt (K : PySem.W.Frag) (C : Addr) (H : Hp) (p : Addr) (names : List Str) (bests thens : List (List Str)) : Prop where
  ex : ∃ (dx N B E : Addr) (st : V), H p = some (.ins C dx (tlf N B E st)) ∧ SqL K H N (names.map V.str) ∧ TabV K H B bests ∧ TabV K H E thens
theorem ToldAt.mono {K : PySem.W.Frag} {C : Addr} {H H' : Hp} {p : Addr} {names : List Str} {bests thens : List (List Str)} (h : ToldAt K C H p names bests thens) (e : Same H H') : ToldAt K C H' p names bests thens := by
  obtain ⟨dx, N, B, E, st, h1, h2, h3, h4⟩ := h.ex
  exact ⟨dx, N, B, E, st, e _ _ h1, e.seq h2, h3.mono e, h4.mono e⟩
def sumsO (one two : List OpR) : List OpR := one.flatMap fun p => two.map fun q => (p.1 + q.1, p.2 ++ q.2)
def sp5 (f : V → V → V → V → V → Hp → VK → Prop) : Sp := fun vs H Q _ => ∃ a b c d e, vs = [a, b, c, d, e] ∧ f a b c d e H Q
section
variable {P : Program} {w : World} {K : PySem.W.Frag} {mg : Str → Option Value} {base : Heap} {m qual : Str} {st : Stmt} {f : Addr} {fd : FuncData} {N : List Str} {k : Nat} {p1 p2 p3 p4 p5 : Str}
end
end Fb
set_option Elab.async false
set_option linter.all false
set_option maxRecDepth 100000
set_option maxHeartbeats 4000000
namespace Fb
open PySem PySem.Spec L2
open PyProof.Rows hiding St
theorem good_of {roof : Int} {S : List Ln} (al : ∀ t ∈ S, AloneP t S roof) : ∀ R : List Ln, (∀ t ∈ R, t ∈ S) → R.Pairwise (fun y x => Bf x y) → Good roof R
  | [], _, _ => trivial
  | [_], _, _ => trivial
  | y :: x :: r, sub, pw => by
    have p1 := List.pairwise_cons.mp pw
    have bf := p1.1 x (List.mem_cons_self ..)
    have hy := sub y (List.mem_cons_self ..)
    have hx := sub x (List.mem_cons_of_mem _ (List.mem_cons_self ..))
    refine ⟨bf, ?_, fun w r' e => ?_, good_of al (x :: r) (fun t h => sub t (List.mem_cons_of_mem _ h)) p1.2⟩
    · obtain ⟨n, d, n0, d0, le, k⟩ := al y hy
      have b1 := bf.1
      have b2 := bf.2
      have k := (va_lt y x n d).mp (k x hx fun e => by rw [e] at b2; omega)
      have m := Int.mul_le_mul_of_nonneg_left le (show 0 ≤ x.2 - y.2 by omega)
      have e1 : (x.2 - y.2) * (roof * d) = (x.2 - y.2) * roof * d := (Int.mul_assoc _ _ _).symm
      have m2 : (y.1 - x.1) * d < (x.2 - y.2) * roof * d := by omega
      have m3 := Int.lt_of_mul_lt_mul_right m2 (Int.le_of_lt d0)
      rw [Int.sub_mul] at m3
      refine decide_eq_true ?_
      omega
    · subst e
      have p2 := List.pairwise_cons.mp p1.2
      have bw := p2.1 w (List.mem_cons_self ..)
      have hw := sub w (List.mem_cons_of_mem _ (List.mem_cons_of_mem _ (List.mem_cons_self ..)))
      obtain ⟨n, d, n0, d0, le, k⟩ := al x hx
      have b2 := bf.2
      have w2 := bw.2
      have k1 := (va_lt x w n d).mp (k w hw fun e => by rw [e] at w2; omega)
      have k2 := (va_lt x y n d).mp (k y hy fun e => by rw [e] at b2; omega)
      refine decide_eq_false fun h => ?_
      have m1 := Int.mul_lt_mul_of_pos_right k1 (show 0 < x.2 - y.2 by omega)
      have k3 : (x.2 - y.2) * n < (y.1 - x.1) * d := by
        rw [Int.sub_mul] at k2 ⊢
        rw [Int.sub_mul] at k2 ⊢
        omega
      have m2 := Int.mul_lt_mul_of_pos_right k3 (show 0 < w.2 - x.2 by omega)
      have m3 := Int.mul_le_mul_of_nonneg_right h (Int.le_of_lt d0)
      have e1 : (x.1 - w.1) * d * (x.2 - y.2) = (x.1 - w.1) * (x.2 - y.2) * d := by grind
      have e2 : (w.2 - x.2) * n * (x.2 - y.2) = (x.2 - y.2) * n * (w.2 - x.2) := by grind
      have e3 : (y.1 - x.1) * d * (w.2 - x.2) = (y.1 - x.1) * (w.2 - x.2) * d := by grind
      omega
theorem Chn.good {roof : Int} {S : List Ln} (h : Chn roof S) : Good roof S.reverse :=
  good_of h.al S.reverse (fun t m => List.mem_reverse.mp m) (List.pairwise_reverse.mpr h.bf)
theorem Chn.again {roof : Int} {S : List Ln} (h : Chn roof S) (ne : S ≠ []) : lowestM roof S = some S := low_again ne h.good
/-- a trade of n wishes -/
structure TradeV (K : PySem.W.Frag) (C : Addr) (H : Hp) (p : Addr) (n : Nat) : Prop where
  ex : ∃ (dx l : Addr) (fs : List (Str × V)) (ws : List V), H p = some (.ins C dx fs) ∧ fs.lookup ("best" : Str) = none ∧ fs.lookup ("then" : Str) = none ∧ fs.lookup ("is_value" : Str) = none ∧ fs.lookup ("_wishes" : Str) = some (.ref l) ∧ SqL K H l ws ∧ ws.length = n
theorem TradeV.mono {K : PySem.W.Frag} {C : Addr} {H H' : Hp} {p : Addr} {n : Nat} (h : TradeV K C H p n) (e : Same H H') : TradeV K C H' p n := by
  obtain ⟨dx, l, fs, ws, h1, h2, h3, h4, h5, h6, h7⟩ := h.ex
  exact ⟨dx, l, fs, ws, e _ _ h1, h2, h3, h4, h5, e.seq h6, h7⟩
end Fb
set_option Elab.async false
set_option linter.all false
set_option maxRecDepth 100000
set_option maxHeartbeats 4000000
namespace Fb
open PySem PySem.Spec L2
open PyProof.Rows hiding St
inductive Bk
  | price | width | trade | lots
  | dial (top : Int)
  | hours (day : Nat)
inductive Vl
  | num (i : Int) | rows (ls : List Ln) | lots (rs : List OpR) | hrs (f : List Int) | name (s : Str)
inductive M1
  | bk (b : Bk)
  | told (ns : List Str) (bs ts : List (List Str)) (st : Str)
inductive Ms
  | one (m : M1) | first (b : Bk) | several (a b : M1)
inductive Wl
  | one (v : Vl) | fst (i : Int) (v : Vl) | sev (a b : Option Vl)
def Vl.dat : Vl → PyData
  | .num i => .int i
  | .rows ls => lnD (some ls)
  | .lots rs => .tuple (rs.map openD)
  | .hrs f => .tuple (f.map .int)
  | .name s => .str s
def oD {α : Type} (f : α → PyData) : Option α → PyData
  | none => .none
  | some v => f v
def Wl.dat : Wl → PyData
  | .one v => v.dat
  | .fst i v => .tuple [.int i, v.dat]
  | .sev a b => .tuple [oD Vl.dat a, oD Vl.dat b]
def Bk.kind : Bk → PyData
  | .price => .tuple [.str "price"]
  | .width => .tuple [.str "width"]
  | .trade => .tuple [.str "trade"]
  | .lots => .tuple [.str "lots"]
  | .dial top => .tuple [.str "dial", .int top]
  | .hours d => .tuple [.str "hours", .int (d : Int)]
def tabD (t : List (List Str)) : PyData := .list (t.map fun r => .list (r.map .str))
def M1.kind : M1 → PyData
  | .bk b => b.kind
  | .told ns bs ts st => .tuple [.str "told", .list (ns.map .str), tabD bs, tabD ts, .str st]
def Ms.kind : Ms → PyData
  | .one m => m.kind
  | .first b => .tuple [.str "first", b.kind]
  | .several a b => .tuple [.str "several", a.kind, b.kind]
def cell (t : List (List Str)) (i j : Nat) : Str := (t.getD i []).getD j ""
def M1.best : M1 → Vl → Vl → Vl
  | .bk .price, .num i, .num j => .num (if j < i then j else i)
  | .bk .width, .num i, .num j => .num (if i < j then j else i)
  | .bk .trade, .rows a, .rows b => .rows (thinP (a ++ b))
  | .bk .lots, .lots a, .lots b => .lots (outM (a ++ b))
  | .bk (.dial top), .rows a, .rows b => .rows (lowM top (thinP (a ++ b)))
  | .bk (.hours _), .hrs f, .hrs g => .hrs ((List.range f.length).map fun i => if g.getD i 0 < f.getD i 0 then g.getD i 0 else f.getD i 0)
  | .told ns bs _ _, .name s, .name t => .name (cell bs (ns.idxOf s) (ns.idxOf t))
  | _, v, _ => v
def M1.then : M1 → Vl → Vl → Vl
  | .bk .price, .num i, .num j => .num (i + j)
  | .bk .width, .num i, .num j => .num (if j < i then j else i)
  | .bk .trade, .rows a, .rows b => .rows (thinP (sumsM a b))
  | .bk .lots, .lots a, .lots b => .lots (outM (sumsO a b))
  | .bk (.dial top), .rows a, .rows b => .rows (lowM top (thinP (sumsM a b)))
  | .bk (.hours _), .hrs f, .hrs g => .hrs (f.map (readM g))
  | .told ns _ ts _, .name s, .name t => .name (cell ts (ns.idxOf s) (ns.idxOf t))
  | _, v, _ => v
/-- None stands for no way -/
def bestO {α : Type} (f : α → α → α) : Option α → Option α → Option α
  | none, y => y
  | some x, none => some x
  | some x, some y => some (f x y)
def thenO {α : Type} (f : α → α → α) : Option α → Option α → Option α
  | some x, some y => some (f x y)
  | _, _ => none
def Ms.bestW : Ms → Wl → Wl → Wl
  | .one m, .one u, .one v => .one (m.best u v)
  | .first b, .fst i u, .fst j v => if i ≠ j then (if i < j then .fst i u else .fst j v) else .fst i ((M1.bk b).best u v)
  | .several m n, .sev a b, .sev c d => .sev (bestO m.best a c) (bestO n.best b d)
  | _, v, _ => v
def sevO : Option Vl → Option Vl → Option Wl
  | none, none => none
  | a, b => some (.sev a b)
def Ms.thenW : Ms → Wl → Wl → Option Wl
  | .one m, .one u, .one v => some (.one (m.then u v))
  | .first b, .fst i u, .fst j v => some (.fst (i + j) ((M1.bk b).then u v))
  | .several m n, .sev a b, .sev c d => sevO (thenO m.then a c) (thenO n.then b d)
  | _, v, _ => some v
def Ms.best (M : Ms) : Option Wl → Option Wl → Option Wl := bestO M.bestW
def Ms.then (M : Ms) : Option Wl → Option Wl → Option Wl
  | some x, some y => M.thenW x y
  | _, _ => none
def BdC (c : Nat) (r : Ln) : Prop := 0 ≤ r.1 ∧ r.1 ≤ 10000000 * (c : Int) ∧ 0 ≤ r.2 ∧ r.2 ≤ 10000000 * (c : Int)
def LotC (c : Nat) (r : OpR) : Prop := 0 ≤ r.1 ∧ r.2.length ≤ c ∧ Nms r.2
def M1.Ok : M1 → Prop
  | .bk (.dial top) => 1 ≤ top ∧ top ≤ 1000000
  | .bk (.hours d) => 0 < d ∧ d ≤ 96
  | .told ns bs ts st => ns.Nodup ∧ Nms ns ∧ 1 ≤ ns.length ∧ ns.length ≤ 6 ∧ bs.length = ns.length ∧ ts.length = ns.length ∧ (∀ r ∈ bs, r.length = ns.length ∧ ∀ s ∈ r, s ∈ ns) ∧ (∀ r ∈ ts, r.length = ns.length ∧ ∀ s ∈ r, s ∈ ns) ∧ st ∈ ns
  | _ => True
def Ms.Ok : Ms → Prop
  | .one m => m.Ok
  | .first b => (M1.bk b).Ok
  | .several a b => a.Ok ∧ b.Ok
def M1.Val (c : Nat) : M1 → Vl → Prop
  | .bk .price, .num _ => True
  | .bk .width, .num _ => True
  | .bk .trade, .rows ls => ls ≠ [] ∧ ls.length ≤ c ∧ (∀ r ∈ ls, BdC c r) ∧ Rows ls
  | .bk .lots, .lots rs => rs ≠ [] ∧ rs.length ≤ c ∧ (∀ r ∈ rs, LotC c r) ∧ outM rs = rs
  | .bk (.dial top), .rows ls => ls ≠ [] ∧ ls.length ≤ c ∧ (∀ r ∈ ls, BdC c r) ∧ Chn top ls
  | .bk (.hours d), .hrs f => f.length = d
  | .told ns _ _ _, .name s => s ∈ ns
  | _, _ => False
def OpV {α : Type} (P : α → Prop) (o : Option α) : Prop := ∀ v, o = some v → P v
def Ms.Val (c : Nat) : Ms → Wl → Prop
  | .one m, .one v => m.Val c v
  | .first b, .fst _ v => (M1.bk b).Val c v
  | .several m n, .sev a b => OpV (m.Val c) a ∧ OpV (n.Val c) b ∧ (a ≠ none ∨ b ≠ none)
  | _, _ => False
theorem BdC.le {c d : Nat} {r : Ln} (h : BdC c r) (l : c ≤ d) : BdC d r := by
  obtain ⟨a, b, e, f⟩ := h
  exact ⟨a, by omega, e, by omega⟩
theorem LotC.le {c d : Nat} {r : OpR} (h : LotC c r) (l : c ≤ d) : LotC d r := ⟨h.1, Nat.le_trans h.2.1 l, h.2.2⟩
theorem M1.Val.le {c d : Nat} {m : M1} {v : Vl} (h : m.Val c v) (l : c ≤ d) : m.Val d v := by
  cases m with
  | told ns bs ts st => cases v <;> exact h
  | bk b => cases b <;> cases v <;> first | exact h | exact ⟨h.1, Nat.le_trans h.2.1 l, fun r m => (h.2.2.1 r m).le l, h.2.2.2⟩
theorem Ms.Val.le {c d : Nat} {M : Ms} {v : Wl} (h : M.Val c v) (l : c ≤ d) : M.Val d v := by
  cases M with
  | one m => cases v <;> first | exact M1.Val.le h l | exact h.elim
  | first b => cases v <;> first | exact M1.Val.le h l | exact h.elim
  | several m n => cases v <;> first | exact h.elim | exact ⟨fun v e => (h.1 v e).le l, fun v e => (h.2.1 v e).le l, h.2.2⟩
theorem OpV.le {M : Ms} {c d : Nat} {u : Option Wl} (h : OpV (M.Val c) u) (l : c ≤ d) : OpV (M.Val d) u := fun v e => (h v e).le l
end Fb
set_option Elab.async false
set_option linter.all false
set_option maxRecDepth 100000
set_option maxHeartbeats 4000000
namespace Fb
open PySem PySem.Spec L2
open PyProof.Rows hiding St
structure MC where
  price : Addr
  width : Addr
  trade : Addr
  lots : Addr
  dial : Addr
  hours : Addr
  told : Addr
  first : Addr
  several : Addr
def MC.at (c : MC) : Nat → Addr
  | 0 => c.price
  | 1 => c.width
  | 2 => c.trade
  | 3 => c.lots
  | 4 => c.dial
  | 5 => c.hours
  | 6 => c.told
  | 7 => c.first
  | _ => c.several
def Bk.tag : Bk → Nat
  | .price => 0
  | .width => 1
  | .trade => 2
  | .lots => 3
  | .dial _ => 4
  | .hours _ => 5
def M1.tag : M1 → Nat
  | .bk b => b.tag
  | .told .. => 6
def Ms.tag : Ms → Nat
  | .one m => m.tag
  | .first _ => 7
  | .several .. => 8
def Bk.stay : Bk → Vl
  | .price => .num 0
  | .width => .num 1000000000
  | .trade => .rows [(0, 0)]
  | .lots => .lots [(0, [])]
  | .dial _ => .rows [(0, 0)]
  | .hours d => .hrs ((List.range d).map fun (i : Nat) => (i : Int))
def M1.stay : M1 → Vl
  | .bk b => b.stay
  | .told _ _ _ st => .name st
def Ms.stay : Ms → Wl
  | .one m => .one m.stay
  | .first b => .fst 0 b.stay
  | .several a b => .sev (some a.stay) (some b.stay)
def StayAt (K : PySem.W.Frag) (H : Hp) (p : Addr) (d : PyData) : Prop := ∃ C dx fs v, H p = some (.ins C dx fs) ∧ fs.lookup ("stay" : Str) = some v ∧ Dp K H v d
theorem StayAt.mono {K : PySem.W.Frag} {H H' : Hp} {p : Addr} {d : PyData} (h : StayAt K H p d) (e : Same H H') : StayAt K H' p d := by
  obtain ⟨C, dx, fs, v, h1, h2, h3⟩ := h
  exact ⟨C, dx, fs, v, e _ _ h1, h2, dp_mono e _ h3⟩
def PlainAt (C : Addr) (H : Hp) (p : Addr) : Prop := ∃ dx fs, H p = some (.ins C dx fs) ∧ fs.lookup ("best" : Str) = none ∧ fs.lookup ("then" : Str) = none ∧ fs.lookup ("is_value" : Str) = none
theorem PlainAt.mono {C : Addr} {H H' : Hp} {p : Addr} (h : PlainAt C H p) (e : Same H H') : PlainAt C H' p := by
  obtain ⟨dx, fs, h1, h2⟩ := h
  exact ⟨dx, fs, e _ _ h1, h2⟩
def M1.Obj (K : PySem.W.Frag) (c : MC) (H : Hp) (p : Addr) : M1 → Prop
  | .bk .price => PlainAt c.price H p
  | .bk .width => PlainAt c.width H p
  | .bk .trade => TradeV K c.trade H p 2
  | .bk .lots => PlainAt c.lots H p
  | .bk (.dial top) => DialW c.dial H p top
  | .bk (.hours d) => HoursAt c.hours H p d
  | .told ns bs ts _ => ToldAt K c.told H p ns bs ts
def M1At (K : PySem.W.Frag) (c : MC) (H : Hp) (p : Addr) (m : M1) : Prop := m.Obj K c H p ∧ StayAt K H p m.stay.dat
theorem HoursAt.mono' {C : Addr} {H H' : Hp} {p : Addr} {d : Nat} (h : HoursAt C H p d) (e : Same H H') : HoursAt C H' p d := by
  obtain ⟨dx, t, a, b⟩ := h
  exact ⟨dx, t, e _ _ a, e _ _ b⟩
theorem M1.Obj.mono {K : PySem.W.Frag} {c : MC} {H H' : Hp} {p : Addr} {m : M1} (h : m.Obj K c H p) (e : Same H H') : m.Obj K c H' p := by
  cases m with
  | told => exact ToldAt.mono h e
  | bk b =>
    cases b with
    | price => exact PlainAt.mono h e
    | width => exact PlainAt.mono h e
    | trade => exact TradeV.mono h e
    | lots => exact PlainAt.mono h e
    | dial => exact DialW.mono h e
    | hours => exact HoursAt.mono' h e
theorem M1At.mono {K : PySem.W.Frag} {c : MC} {H H' : Hp} {p : Addr} {m : M1} (h : M1At K c H p m) (e : Same H H') : M1At K c H' p m := ⟨h.1.mono e, h.2.mono e⟩
def fstF (z : Str) (q : Addr) (st : V) : List (Str × V) := putF "stay" st (putF "inner" (.ref q) (putF "wish" (.str z) []))
def sevF (L : Addr) (st : V) : List (Str × V) := putF "stay" st (putF "_measures" (.ref L) [])
def Ms.Obj (K : PySem.W.Frag) (c : MC) (H : Hp) (p : Addr) : Ms → Prop
  | .one m => m.Obj K c H p
  | .first b => ∃ dx z q st, H p = some (.ins c.first dx (fstF z q st)) ∧ M1At K c H q (.bk b)
  | .several a b => ∃ dx L q1 q2 st, H p = some (.ins c.several dx (sevF L st)) ∧ SqL K H L [.ref q1, .ref q2] ∧ M1At K c H q1 a ∧ M1At K c H q2 b
def MsAt (K : PySem.W.Frag) (c : MC) (H : Hp) (p : Addr) (M : Ms) : Prop := M.Obj K c H p ∧ StayAt K H p M.stay.dat
theorem Ms.Obj.mono {K : PySem.W.Frag} {c : MC} {H H' : Hp} {p : Addr} {M : Ms} (h : M.Obj K c H p) (e : Same H H') : M.Obj K c H' p := by
  cases M with
  | one m => exact M1.Obj.mono h e
  | first b =>
    obtain ⟨dx, z, q, st, h1, h2⟩ := h
    exact ⟨dx, z, q, st, e _ _ h1, h2.mono e⟩
  | several a b =>
    obtain ⟨dx, L, q1, q2, st, h1, h2, h3, h4⟩ := h
    exact ⟨dx, L, q1, q2, st, e _ _ h1, e.seq h2, h3.mono e, h4.mono e⟩
theorem MsAt.mono {K : PySem.W.Frag} {c : MC} {H H' : Hp} {p : Addr} {M : Ms} (h : MsAt K c H p M) (e : Same H H') : MsAt K c H' p M := ⟨h.1.mono e, h.2.mono e⟩
theorem fstF_no (z : Str) (q : Addr) (st : V) {m : Str} (h1 : ¬ m = "stay") (h2 : ¬ m = "inner") (h3 : ¬ m = "wish") : (fstF z q st).lookup m = none := by
  unfold fstF
  rw [lookup_putF, if_neg h1, lookup_putF, if_neg h2, lookup_putF, if_neg h3]
  rfl
theorem sevF_no (L : Addr) (st : V) {m : Str} (h1 : ¬ m = "stay") (h2 : ¬ m = "_measures") : (sevF L st).lookup m = none := by
  unfold sevF
  rw [lookup_putF, if_neg h1, lookup_putF, if_neg h2]
  rfl
/-- the three methods that measures have -/
def IsM (x : Str) : Prop := x = "best" ∨ x = "then" ∨ x = "is_value"
theorem M1.Obj.cls {K : PySem.W.Frag} {c : MC} {H : Hp} {p : Addr} {m : M1} (h : m.Obj K c H p) {x : Str} (hx : IsM x) : ∃ dx fs, H p = some (.ins (c.at m.tag) dx fs) ∧ fs.lookup x = none := by
  have pl : ∀ {C : Addr}, PlainAt C H p → ∃ dx fs, H p = some (.ins C dx fs) ∧ fs.lookup x = none := by
    rintro C ⟨dx, fs, a, b, c, d⟩
    rcases hx with rfl | rfl | rfl
    · exact ⟨dx, fs, a, b⟩
    · exact ⟨dx, fs, a, c⟩
    · exact ⟨dx, fs, a, d⟩
  cases m with
  | told ns bs ts st =>
    obtain ⟨dx, N, B, E, st, a, _⟩ := ToldAt.ex h
    refine ⟨dx, _, a, ?_⟩
    rcases hx with rfl | rfl | rfl <;> exact tlf_no _ _ _ _ (by decide +kernel) (by decide +kernel) (by decide +kernel) (by decide +kernel)
  | bk b =>
    cases b with
    | price => exact pl h
    | width => exact pl h
    | lots => exact pl h
    | trade =>
      obtain ⟨dx, l, fs, ws, a, b, c, d, _⟩ := TradeV.ex h
      exact pl ⟨dx, fs, a, b, c, d⟩
    | dial top =>
      obtain ⟨dx, t, w1, w2, a⟩ := h
      refine ⟨dx, _, a, ?_⟩
      rcases hx with rfl | rfl | rfl <;> exact dfw_no _ _ _ _ (by decide +kernel) (by decide +kernel) (by decide +kernel) (by decide +kernel)
    | hours d =>
      obtain ⟨dx, t, a, _⟩ := h
      refine ⟨dx, _, a, ?_⟩
      rcases hx with rfl | rfl | rfl <;> exact hfl_no _ _ (by decide +kernel) (by decide +kernel)
theorem Ms.Obj.cls {K : PySem.W.Frag} {c : MC} {H : Hp} {p : Addr} {M : Ms} (h : M.Obj K c H p) {x : Str} (hx : IsM x) : ∃ dx fs, H p = some (.ins (c.at M.tag) dx fs) ∧ fs.lookup x = none := by
  cases M with
  | one m => exact M1.Obj.cls h hx
  | first b =>
    obtain ⟨dx, z, q, st, a, _⟩ := h
    refine ⟨dx, _, a, ?_⟩
    rcases hx with rfl | rfl | rfl <;> exact fstF_no _ _ _ (by decide +kernel) (by decide +kernel) (by decide +kernel)
  | several m n =>
    obtain ⟨dx, L, q1, q2, st, a, _⟩ := h
    refine ⟨dx, _, a, ?_⟩
    rcases hx with rfl | rfl | rfl <;> exact sevF_no _ _ (by decide +kernel) (by decide +kernel)
section
variable {X : Cx}
end
structure InsT (K : PySem.W.Frag) (C : Addr) : Prop where
  cl : Cls K C
  ha : PySem.W.findIn K (.ref C) "__class__" = some (some (.builtin "object.__class__"))
  hn : PySem.W.specialIn K (.builtin "object.__class__") "__get__" = some (some (.builtin "getset_descriptor.__get__"))
  htk : PySem.W.takesIn K (.builtin "object.__class__") = some true
  hm : PySem.W.mroIn K C (.type "object") = some true
theorem InsT.ty {K : PySem.W.Frag} {C a dx : Addr} {H : Hp} {fs : List (Str × V)} (h : InsT K C) (e : H a = some (.ins C dx fs)) : TyX K H (.ref a) (.ref C) := .base (.ins e h.cl h.ha h.hn h.htk h.hm)
/-- what the kinds of the nine classes are -/
structure KitM (K : PySem.W.Frag) (c : MC) (CM : Addr) : Prop where
  ty : ∀ t, t < 9 → InsT K (c.at t)
  me : ∀ t, t < 7 → PySem.W.kitOne K (.ref (c.at t)) (.ref CM) = some true
  se : ∀ t, t < 7 → PySem.W.kitOne K (.ref (c.at t)) (.ref c.several) = some false
  no : ∀ t, t < 6 → ∀ j, j < t → PySem.W.kitOne K (.ref (c.at t)) (.ref (c.at j)) = some false
theorem kit_self {K : PySem.W.Frag} {C : Addr} : PySem.W.kitOne K (.ref C) (.ref C) = some true := if_pos (beq_self_eq_true _)
theorem KitM.six {K : PySem.W.Frag} {c : MC} {CM : Addr} (k : KitM K c CM) {t : Nat} (h : t < 6) : PySem.W.kitAny K (.ref (c.at t)) [.ref c.price, .ref c.width, .ref c.trade, .ref c.lots, .ref c.dial, .ref c.hours] = some true := by
  have one : ∀ j r cs, (j < t → PySem.W.kitAny K (.ref (c.at t)) cs = some true) → j ≤ t → r = c.at j → PySem.W.kitAny K (.ref (c.at t)) (.ref r :: cs) = some true := by
    rintro j r cs hcs le rfl
    rcases Nat.lt_or_eq_of_le le with lt | rfl
    · exact kitAny_cons (k.no t h j lt) (fun _ => hcs lt) (fun e => by cases e)
    · exact kitAny_cons kit_self (fun e => by cases e) (fun _ => rfl)
  exact one 0 _ _ (fun _ => one 1 _ _ (fun _ => one 2 _ _ (fun _ => one 3 _ _ (fun _ => one 4 _ _ (fun _ => one 5 _ _ (fun l => by omega) (by omega) rfl) (by omega) rfl) (by omega) rfl) (by omega) rfl) (by omega) rfl) (Nat.zero_le _) rfl
end Fb
set_option Elab.async false
set_option linter.all false
set_option maxRecDepth 100000
set_option maxHeartbeats 4000000
namespace Fb
open PySem PySem.Spec L2
open PyProof.Rows hiding St
theorem BdC.l {c : Nat} {r : Ln} (h : BdC c r) (l : c ≤ 60000) : BdL r := by
  obtain ⟨a, b, d, e⟩ := h
  refine ⟨by omega, by omega, by omega, by omega⟩
end Fb
set_option Elab.async false
set_option linter.all false
set_option maxRecDepth 100000
set_option maxHeartbeats 4000000
namespace Fb
open PySem PySem.Spec L2
open PyProof.Rows hiding St
inductive SK | l | t
def SK.sq (K : PySem.W.Frag) (k : SK) (H : Hp) (a : Addr) (xs : List V) : Prop := match k with
  | .l => SqL K H a xs
  | .t => SqT K H a xs
def SK.at (k : SK) (h : Heap) (a : Addr) (items : Array Value) : Prop := match k with
  | .l => h.IsList a items
  | .t => h.IsTuple a items
def SK.it (k : SK) (h : Heap) (i a : Addr) (n : Nat) : Prop := match k with
  | .l => h.IsListIter i a n
  | .t => h.IsTupleIter i a n
def SK.ob (k : SK) (a : Addr) : Obj := match k with
  | .l => { cls := .type "list_iterator", data := .fields #[.ref a, .int 0 0] }
  | .t => { cls := .type "tuple_iterator", data := .fields #[.ref a, .int 0 0] }
theorem SK.draws {P : Program} {w : World} {A : Around} (hh : A.handled = none) (k : SK) (i a : Addr) (ne : a ≠ i) (items : Array Value) : Draws P w A i [i, a] items.size (fun n v => items[n]? = some v) (fun n h => k.it h i a n ∧ k.at h a items) := by
  cases k with
  | l => exact Draws.list hh i a ne items
  | t => exact Draws.tuple hh i a ne items
section
variable {X : Cx} {pins : List (Addr × Obj)} {σ : L2.St} {H : Hp} {s : Shared}
theorem SK.inj (I : Inv X pins σ H s) {k : SK} {a : Addr} {xs ys : List V} (h : k.sq X.K H a xs) (g : k.sq X.K H a ys) : xs = ys := by
  cases k with
  | l => exact I.list_inj h g
  | t => exact I.tuple_inj h g
end
end Fb
set_option Elab.async false
set_option linter.all false
set_option maxRecDepth 100000
set_option maxHeartbeats 4000000
namespace Fb
open PySem PySem.Spec L2
open PyProof.Rows hiding St
def Emp (o : HO) : Prop := ∃ C dx, o = .ins C dx []
def Keep (H H' : Hp) : Prop := ∀ b o, H b = some o → ¬ Emp o → H' b = some o
theorem emp_lst {xs : List V} : ¬ Emp (.lst xs) := fun ⟨_, _, e⟩ => nomatch e
theorem emp_tup {xs : List V} : ¬ Emp (.tup xs) := fun ⟨_, _, e⟩ => nomatch e
theorem emp_frz {o : Obj} {u : HO} : ¬ Emp (.frz o u) := fun ⟨_, _, e⟩ => nomatch e
theorem emp_ins {C dx : Addr} {fs : List (Str × V)} {x : Str} {v : V} (h : fs.lookup x = some v) : ¬ Emp (.ins C dx fs) := fun ⟨_, _, e⟩ => by
  cases e
  cases h
section
variable {K : PySem.W.Frag} {H H' : Hp} (k : Keep H H')
include k
theorem sqt_keep {a : Addr} {xs : List V} (h : SqT K H a xs) : SqT K H' a xs := by
  rcases h with (h | ⟨o2, h⟩) | h
  · exact .inl (.inl (k _ _ h emp_tup))
  · exact .inl (.inr ⟨o2, k _ _ h emp_frz⟩)
  · exact .inr h
theorem sql_keep {a : Addr} {xs : List V} (h : SqL K H a xs) : SqL K H' a xs := by
  rcases h with (h | ⟨o2, h⟩) | h
  · exact .inl (.inl (k _ _ h emp_lst))
  · exact .inl (.inr ⟨o2, k _ _ h emp_frz⟩)
  · exact .inr h
mutual
theorem dp_keep : ∀ (d : PyData) {v : V}, Dp K H v d → Dp K H' v d
  | .none, _, h => by cases h; exact .non
  | .bool _, _, h => by cases h; exact .bl _
  | .int _, _, h => by cases h; exact .int _
  | .str _, _, h => by cases h; exact .str _
  | .list ds, _, h => by
    cases h with
    | lst s a => exact .lst (sql_keep k s) (dpAll_keep ds a)
  | .tuple ds, _, h => by
    cases h with
    | tup s a => exact .tup (sqt_keep k s) (dpAll_keep ds a)
  | .dict _, _, h => by cases h
theorem dpAll_keep : ∀ (ds : List PyData) {vs : List V}, DpAll K H vs ds → DpAll K H' vs ds
  | [], _, h => by cases h; exact .nil
  | d :: ds, _, h => by
    cases h with
    | cons a b => exact .cons (dp_keep d a) (dpAll_keep ds b)
end
theorem tabV_keep {B : Addr} {rows : List (List Str)} (h : TabV K H B rows) : TabV K H' B rows := by
  obtain ⟨as, h1, h2, h3⟩ := h
  exact ⟨as, sql_keep k h1, h2, fun i a r g1 g2 => sql_keep k (h3 i a r g1 g2)⟩
theorem StayAt.keep {p : Addr} {d : PyData} (h : StayAt K H p d) : StayAt K H' p d := by
  obtain ⟨C, dx, fs, v, h1, h2, h3⟩ := h
  exact ⟨C, dx, fs, v, k _ _ h1 (emp_ins h2), h2, dp_keep k _ h3⟩
theorem M1At.keep {c : MC} {p : Addr} {m : M1} (h : M1At K c H p m) : M1At K c H' p m := by
  refine ⟨?_, h.2.keep k⟩
  obtain ⟨C, dx, fs, v, h1, h2, h3⟩ := h.2
  have at' : ∀ o, H p = some o → H' p = some o := fun o e => k _ _ e (by
    rw [h1] at e
    cases e
    exact emp_ins h2)
  have hO := h.1
  cases m with
  | told ns bs ts st =>
    obtain ⟨dx, N, B, E, st2, g1, g2, g3, g4⟩ := ToldAt.ex hO
    exact ToldAt.mk ⟨dx, N, B, E, st2, at' _ g1, sql_keep k g2, tabV_keep k g3, tabV_keep k g4⟩
  | bk b =>
    cases b with
    | price =>
      obtain ⟨dx, fs, g1, g2⟩ := hO
      exact ⟨dx, fs, at' _ g1, g2⟩
    | width =>
      obtain ⟨dx, fs, g1, g2⟩ := hO
      exact ⟨dx, fs, at' _ g1, g2⟩
    | lots =>
      obtain ⟨dx, fs, g1, g2⟩ := hO
      exact ⟨dx, fs, at' _ g1, g2⟩
    | trade =>
      obtain ⟨dx, l, fs, ws, g1, g2, g3, g4, g5, g6, g7⟩ := TradeV.ex hO
      exact TradeV.mk ⟨dx, l, fs, ws, at' _ g1, g2, g3, g4, g5, sql_keep k g6, g7⟩
    | dial top =>
      obtain ⟨dx, t, w1, w2, g⟩ := hO
      exact ⟨dx, t, w1, w2, at' _ g⟩
    | hours d =>
      obtain ⟨dx, t, g1, g2⟩ := hO
      exact ⟨dx, t, at' _ g1, k _ _ g2 emp_tup⟩
end
section
variable {K : PySem.W.Frag} {H H' : Hp}
/-- all tuples stay -/
def Tpt (H H' : Hp) : Prop := (∀ b xs, H b = some (.tup xs) → H' b = some (.tup xs)) ∧ ∀ b o u, H b = some (.frz o u) → H' b = some (.frz o u)
theorem Tpt.trans {H2 : Hp} (e : Tpt H H') (f : Tpt H' H2) : Tpt H H2 := ⟨fun b xs h => f.1 _ _ (e.1 _ _ h), fun b o u h => f.2 _ _ _ (e.2 _ _ _ h)⟩
variable (k : Tpt H H')
include k
end
end Fb
set_option Elab.async false
set_option linter.all false
set_option maxRecDepth 100000
set_option maxHeartbeats 4000000
namespace Fb
open PySem PySem.Spec L2
open PyProof.Rows hiding St
section
variable {X : Cx} {pins : List (Addr × Obj)} {σ : L2.St} {H : Hp} {s : Shared}
/-- what is asked of the things that are sorted, and what comes -/
def SortOk (K : PySem.W.Frag) (H : Hp) (xs : List V) (Q : VK) : Prop := ∃ zs : List (V × PyData), zs.map Prod.fst = xs ∧ (∀ z ∈ zs, Dp K H z.1 z.2 ∧ z.2.depth ≤ 60) ∧ PySem.W.AllAlike (zs.map Prod.snd) ∧ PySem.W.Sortable (zs.map Prod.snd) ∧
  ∀ p, H p = none → Q (.ref p) (upd H p (.lst ((sortD zs).map Prod.fst)))
theorem sort_after (hr : Room k X.A) (I : Inv X pins σ H s) {l : Value} {xs : List V} {Q : VK} (h : SortOk X.K H xs Q) (hz : xs.length ≤ sizeLine)
    (cl : ∀ (A : Around) (E : Value → Shared → Prop) (R : List Value → Shared → Prop), A.handled = none → (∀ (h' : Heap) (tk : Nat) (vs : List Value), (∀ b o, s.heap.get? b = some o → h'.get? b = some o) → Vals xs vs → R vs { s with heap := h', toks := tk }) → wpAny (model X.prog X.w) A (collect l) R E s) (hc : X.calm = true) :
    wpAny (model X.prog X.w) X.A (call (.builtin "sorted") [l]) (EP X pins σ Q) X.xe s := by
  have hu := hr.units
  obtain ⟨zs, rfl, hd, al, so, q⟩ := h
  rw [List.length_map] at hz
  refine PyProof.Rows.call_function_entry_kw kind_sorted plain_sorted entry_sorted (args_sorted1 _) ?_
  unfold Builtin.«sorted»
  refine wpAny_bind (m := checkCount "sorted" 1 1 _) (wpAny_pure ?_)
  refine wpAny_bind (cl _ _ _ (by simp [I.ok.hd hc]) fun h1 tk vs k1 rv => ?_)
  have I1 : Inv X pins σ H { s with heap := h1, toks := tk } := I.kept (t' := tk) k1
  have lv : vs.length ≤ sizeLine := by
    have := rv.length
    rw [List.length_map] at this
    omega
  refine wpAny_bind (wpAny_newList ?_ lv)
  have at1 : (h1.push (seqObj "list" vs.toArray 0)).get? h1.objs.size = some (seqObj "list" vs.toArray 0) := Heap.get?_push_size _ rfl
  have er0 : PySem.W.EachIs (fun v (z : V × PyData) => ∃ as, Reads h1 v z.2 as) vs zs := each_reads I1 rv fun z m => (hd z m).1
  have er : PySem.W.EachIs (fun v (z : V × PyData) => ∃ as, Reads (PySem.W.sortingHeap (h1.push (seqObj "list" vs.toArray 0)) h1.objs.size vs) v z.2 as) vs zs := by
    refine er0.mono ?_
    rintro v z ⟨as, r⟩
    refine ⟨as, PyProof.Rows.Reads.keeps (fun b u e => ?_) r⟩
    exact PySem.W.sortingHeap_old (Nat.ne_of_lt (Heap.lt_size e)) (Heap.get?_push_of_some _ e)
  refine wpAny_bind (wpAny_holding (PyProof.Rows.wpAny_call_entry_kw slot_list_sort ⟨_, at1, rfl⟩ entry_list_sort ?_ (args_list_sort _)))
  refine PySem.W.list_sort_vals (s := { s with heap := h1.push (seqObj "list" vs.toArray 0), toks := tk }) at1 (PySem.W.SortsAt.data (s := { s with heap := PySem.W.sortingHeap (h1.push (seqObj "list" vs.toArray 0)) h1.objs.size vs, toks := tk }) (PySem.W.each_map (R := fun v d => ∃ as, Reads (PySem.W.sortingHeap (h1.push (seqObj "list" vs.toArray 0)) h1.objs.size vs) v d as) Prod.snd er) al so (PySem.W.bound_map (enc := Prod.snd) fun z m => ?_)) lv ⟨_, rfl, ?_⟩
  · have := (hd z m).2
    show X.A.units + 2 + z.2.depth < cLine
    omega
  · have out := PySem.W.sortVals_data (R := fun u (z : V × PyData) => RelV z.1 u) false (each_vals rv) er al
    generalize PySem.W.sortVals _ false vs vs = ov at out ⊢
    obtain ⟨c, hc2⟩ := sortedHeap_at (vs := vs) (out := ov.toArray) at1
    have keep2 : ∀ b o, h1.get? b = some o → (sortedHeap (h1.push (seqObj "list" vs.toArray 0)) h1.objs.size vs ov.toArray).get? b = some o := fun b o e' => by
      have lt := Heap.lt_size e'
      refine (sortedHeap_old (Nat.ne_of_lt lt) ?_).trans (Heap.get?_push_of_some _ e')
      rw [size_push']
      exact Nat.lt_succ_of_lt lt
    refine wpAny_pure ⟨_, rfl, ?_⟩
    refine ⟨.ref h1.objs.size, upd H h1.objs.size (.lst ((sortD zs).map Prod.fst)), I1.laid (t' := tk) keep2 (Nat.le_refl _) ⟨?_, ov, c, vals_each out, hc2⟩, rfl, q _ (I1.hok.fresh (Nat.le_refl _))⟩
    rw [List.length_map, List.length_mergeSort]
    exact hz
end
def rSortDic (K : PySem.W.Frag) : List V → Hp → VK → Prop := fun vs H Q => ∃ a, vs = [V.ref a] ∧ ((∃ kvs, Rd H a (.dK kvs) ∧ SortOk K H (kvs.map fun kv => kV kv.1) Q) ∨ ∃ kvs, Rd H a (.dT kvs) ∧ ∀ bs, IsKeys H kvs bs → SortOk K H (bs.map V.ref) Q)
theorem cr_sortDic {X : Cx} {K : PySem.W.Frag} {k : Nat} (eK : X.K = K) (hr : Room k X.A) (hc : X.calm = true) : CallR X (.builtin "sorted") (rSortDic K) := by
  subst eK
  rintro pins s σ H vs us Q I r ⟨a, rfl, h⟩
  rw [Vals.ref1 r]
  rcases h with ⟨kvs, hd, h⟩ | ⟨kvs, hd, h⟩
  · obtain ⟨z, lo, vs, rk, hdo⟩ := (show ObjOk X.prog X.w H s.heap a (.dK kvs) from hd.ok I.hok)
    obtain ⟨ep, hat⟩ := hdo.dictAt
    have hl : kvs.length = vs.length := Paired.length rk
    refine sort_after hr I h (by rw [List.length_map]; exact z) (fun A E R hh g => ?_) hc
    refine PySem.W.kdu_collect (PySem.W.kdl_dict (knd := mixKind X.prog X.w) (kvs := vs) (ep := ep) lo) hh hat (by rw [← hl]; exact z) fun h' tk acc kp it => g h' tk _ kp ?_
    have el : acc.toList.length = acc.size := by simp
    refine vals_of_at (by rw [List.length_map, el, it.1, hl]) fun j x w h1 h2 => ?_
    obtain ⟨k, y, hky, hi⟩ := it.2 j w (by rw [← Array.getElem?_toList]; exact h2)
    rw [List.getElem?_map] at h1
    have e1 : (kvs.map (·.1))[j]? = some k := by
      rw [KV.keys rk, List.getElem?_map, hky]
      rfl
    rw [List.getElem?_map] at e1
    cases ek : kvs[j]? with
    | none =>
      rw [ek] at e1
      cases e1
    | some kv =>
      rw [ek] at e1 h1
      cases e1
      cases h1
      exact keyIs_rel hi
  · obtain ⟨z, hs, ks, pr, o, es, ep, ho, hx, hdt, he, hn⟩ := (show ObjOk X.prog X.w H s.heap a (.dT kvs) from hd.ok I.hok)
    have l1 : es.size = ks.length := size_of_entries he
    have l2 : kvs.length = ks.length := Paired.length pr
    refine sort_after hr I (h _ (isKeys_of pr)) (by rw [List.length_map, List.length_map]; omega) (fun A E R hh g => ?_) hc
    refine PySem.W.kdu_collect (kdl_raw hs hx hdt) hh ho (by omega) fun h' tk acc kp it => g h' tk _ kp ?_
    have el : acc.toList.length = acc.size := by simp
    refine vals_of_at (by rw [List.length_map, List.length_map, el, it.1, l1]) fun j x w h1 h2 => ?_
    obtain ⟨en, hen, hv⟩ := it.2 j w (by rw [← Array.getElem?_toList]; exact h2)
    have qe := entry_at he j
    rw [hen] at qe
    rw [List.getElem?_map, List.getElem?_map] at h1
    cases hb : ks[j]? with
    | none =>
      rw [hb] at h1
      cases h1
    | some b =>
      rw [hb] at qe h1
      have e2 : en = entryOfKey (tupleKind (mixKind X.prog X.w)) b := Option.some.inj qe
      cases h1
      rw [hv, e2]
      rfl
end Fb
set_option Elab.async false
set_option linter.all false
set_option maxRecDepth 100000
namespace Fb
open PySem PySem.W PySem.Calls PyProof.Rows HeadRun
section
variable (st : SharedT → Thread → Option (SharedT × Thread)) (n0 : Nat) (ann : Option Value)
/-- just so many steps -/
def goS : Nat → SharedT → Thread → Option (SharedT × Thread)
  | 0, s, t => some (s, t)
  | m + 1, s, t => match through t with
    | true => none
    | false => match stepOk n0 ann t with
      | false => none
      | true => match st s t with
        | none => none
        | some (s1, t1) => frS s1 fun s2 => goS m s2 t1
end
theorem goS_ok {tb : String → Option Builtin} {p : Program} {w : World} {n0 : Nat} {ann : Option Value} : ∀ {m : Nat} {s s' : SharedT} {t t' : Thread}, goS (stepT (denote tb) p w) n0 ann m s t = some (s', t') → topGo tb p w n0 ann m s.abs t = some (s'.abs, t')
  | 0, _, _, _, _, h => by
    cases h
    rfl
  | m + 1, s, s', t, t', h => by
    unfold goS at h
    unfold topGo
    cases a : through t with
    | true =>
      rw [a] at h
      cases h
    | false =>
      cases b : stepOk n0 ann t with
      | false =>
        rw [a, b] at h
        cases h
      | true =>
        cases c : stepT (denote tb) p w s t with
        | none =>
          rw [a, b, c] at h
          cases h
        | some r =>
          obtain ⟨s1, t1⟩ := r
          rw [a, b, c] at h
          dsimp only at h
          rw [frS_eq] at h
          have ih := goS_ok h
          dsimp only
          rw [stepT_spec c]
          exact ih
/-- the state ahead of the top, and so many steps from it -/
noncomputable def preS (st : SharedT → Thread → Option (SharedT × Thread)) (m : Nat) (p : Program) (w : World) (os : OsState) : Option (SharedT × Thread) := match putAll (boot_heap w.params).objs.toList .nil 0 with
  | none => none
  | some (t, n) => frNat n fun k => goS st k (bootAnn w) m (bootT w os (t, k)) (topStub p)
theorem preS_ok {m : Nat} {p : Program} {w : World} {os : OsState} {s : SharedT} {t' : Thread} (h : preS (stepT (denote treeTable) p w) m p w os = some (s, t')) :
    topGo treeTable p w (boot_heap w.params).objs.size (bootAnn w) m ⟨boot_heap w.params, #[], boot_drawn, boot_toks, os⟩ (topStub p) = some (s.abs, t') := by
  unfold preS at h
  cases e : putAll (boot_heap w.params).objs.toList .nil 0 with
  | none =>
    rw [e] at h
    cases h
  | some r =>
    obtain ⟨t, n⟩ := r
    rw [e] at h
    dsimp only at h
    rw [frNat_eq] at h
    have g := goS_ok h
    have z := putAll_heap e
    have en : n = (boot_heap w.params).objs.size := by rw [← z]; exact (absHeap_size t n _).symm
    have eb : (⟨absHeap t n (boot_heap w.params).life, #[], boot_drawn, boot_toks, os⟩ : Shared) = ⟨boot_heap w.params, #[], boot_drawn, boot_toks, os⟩ := by rw [z]
    rw [← en]
    rw [← eb]
    exact g
theorem left_cut2 {p q : Program} {loose : List PySem.Str} {Xt : Shared → Bool} {K : Params → Frag} {as : List Addr} {ek : ∀ P, as = (K P).map (·.1)} {N m m0 L : Nat} {C : Nat → Nat} {ann : Option Value} {Sb Sk Sf : World → OsState → SharedT} {Tk : Thread} {b bs : List Stmt} {env : Env} {ps qs : Pos}
    (e : opening p = plainProg p.main.scope.names) (hN : Nat.ble 600 N = true) (f : ∀ s, fenceModules? p s = some s)
    (sz : ∀ w : World, (boot_heap w.params).objs.size = m0) (an : ∀ w : World, bootAnn w = ann)
    (pre : ∀ (w : World) (os : OsState), preS (stepQ (denQ tabQ) p w) m p w os = some (Sb w os, ⟨denQ tabQ (.body b env), .body b env, ps, [topFrame qs]⟩))
    (block : ∀ (w : World) (os : OsState), segRun treeTable p w m0 ann 1 1 (Sb w os).abs (blockOf b env (.body b env) ps [topFrame qs]) = some (.next, (Sb w os).abs, .body b env, ps)) (eb : b = bs)
    (chain : ∀ (w : World) (os : OsState) (n : Nat) (r : Shared), topRun treeTable p w m0 ann n (Sk w os).abs Tk = some r → topRun treeTable p w m0 ann (C n) (Sb w os).abs (restOf bs env (.body b env) ps [topFrame qs]) = some r)
    (fin : ∀ (w : World) (os : OsState), goF (stepQ (denQ tabQ) p w) m0 ann L (Sk w os) Tk = some (Sf w os))
    (f1 : ∀ (w : World) (os : OsState), staticsOk (importedModules p.main.body) (boot_heap w.params) (Sf w os).abs.heap = true) (f2 : ∀ (w : World) (os : OsState), namesBound p (Sf w os).abs.heap = true)
    (f3 : ∀ (w : World) (os : OsState), gensDone (Sf w os).abs = true) (f4 : ∀ (w : World) (os : OsState), laidKept (boot_heap w.params) (Sf w os).abs.heap = true)
    (sn : ∀ (w : World) (os : OsState), seenQ q loose (importedModules p.main.body) Xt (Sf w os).abs = openGood q loose)
    (ks : ∀ (w : World) (os : OsState), as.map (getT (Sf w os)) = (K w.params).map fun x => some x.2)
    (le : Nat.ble (m + (1 + C L)) N = true) : LeftO p q loose Xt (Hook.obs (kHook K as ek)) (Hook.val (kHook K as ek)) N true := fun w => by
  obtain ⟨⟨h, gs, dr, tk, os⟩, b1, b2⟩ := Option.map_eq_some_iff.mp (boot_open e hN f w)
  simp only [Prod.mk.injEq] at b2
  obtain ⟨rfl, rfl, rfl, rfl⟩ := b2
  have g1 := pre w os
  have g2 := fin w os
  rw [← stepQ_eq, ← denQ_eq, ← tabQ_eq] at g1 g2
  obtain ⟨s, hs⟩ : ∃ s, Sf w os = s := ⟨_, rfl⟩
  have l1 : looksF p (boot_heap w.params) s.abs = true := by
    rw [← hs]
    unfold looksF
    rw [f1, f2, f3, f4]
    rfl
  have l2 := sn w os
  have l3 := ks w os
  rw [hs] at g2 l2 l3
  have hs := g2
  have r1 := chain w os L s.abs (goF_ok hs)
  have r2 := preS_ok g1
  rw [sz w, an w] at r2
  rw [← eb] at r1
  have r3 := go_top r2 (piece_block (block w os) r1)
  have r4 := topRun_mono (N - (m + (1 + C L))) _ _ _ _ r3
  rw [show m + (1 + C L) + (N - (m + (1 + C L))) = N by have := Nat.le_of_ble_eq_true le; omega] at r4
  have t : topFrom treeTable p w N ⟨boot_heap w.params, Array.mk [], boot_drawn, boot_toks, os⟩ = some s.abs := by
    unfold topFrom
    dsimp only
    rw [boot_ns]
    rw [sz w]
    rw [show (boot_heap w.params).nsMap mainGlobals "__annotations__" = ann from an w]
    show Option.bind (topRun _ _ _ _ _ _ _ _) _ = _
    rw [r4]
    show (match looksF p (boot_heap w.params) s.abs with | true => some s.abs | false => none) = _
    rw [l1]
  unfold openEnds
  rw [b1]
  show Option.map _ (topFrom _ _ _ _ _) = _
  rw [t]
  refine congrArg some (Prod.ext ?_ ?_)
  · rw [← seenQ_eq] at l2
    exact l2
  · show List.map s.abs.heap.get? as = List.map (fun x => some x.2) (K w.params)
    rw [← l3]
    exact List.map_congr_left fun a _ => (getT_eq s a).symm
theorem tup9 {A B C D E F G H I : Type} {a b : A × B × C × D × E × F × G × H × I} (h1 : a.1 = b.1) (h2 : a.2.1 = b.2.1) (h3 : a.2.2.1 = b.2.2.1) (h4 : a.2.2.2.1 = b.2.2.2.1) (h5 : a.2.2.2.2.1 = b.2.2.2.2.1) (h6 : a.2.2.2.2.2.1 = b.2.2.2.2.2.1) (h7 : a.2.2.2.2.2.2.1 = b.2.2.2.2.2.2.1) (h8 : a.2.2.2.2.2.2.2.1 = b.2.2.2.2.2.2.2.1) (h9 : a.2.2.2.2.2.2.2.2 = b.2.2.2.2.2.2.2.2) : a = b :=
  Prod.ext h1 (Prod.ext h2 (Prod.ext h3 (Prod.ext h4 (Prod.ext h5 (Prod.ext h6 (Prod.ext h7 (Prod.ext h8 h9)))))))
def chL {α : Type} (i n : Nat) (l : List α) : List α := (l.drop i).take n
def chR {α : Type} (i n : Nat) (l : List α) : List α := (l.drop i).take n
theorem ch_step {α : Type} {l r : List α} (i m : Nat) (a : chL i 1 l = chR i 1 r) (b : chL (i + 1) m l = chR (i + 1) m r) : chL i (m + 1) l = chR i (m + 1) r := by
  unfold chL chR at *
  have h : ∀ x : List α, (x.drop i).take (m + 1) = (x.drop i).take 1 ++ (x.drop (i + 1)).take m := fun x => by
    rw [Nat.add_comm m 1, List.take_add, List.drop_drop]
  rw [h l, h r, a, b]
theorem ch_all {α : Type} {l r : List α} {m : Nat} (a : chL 0 m l = chR 0 m r) (hl : l.length ≤ m) (hr : r.length ≤ m) : l = r := by
  unfold chL chR at a
  rw [List.drop_zero, List.drop_zero, List.take_of_length_le hl, List.take_of_length_le hr] at a
  exact a
theorem head_cut {r : OpenRow} {q : Program} {loose : List PySem.Str} {K : Params → Frag} {as : List Addr} {ek : ∀ P, as = (K P).map (·.1)} {N : Nat} {d : DefRec} {kwd : List (PySem.Str × PySem.Expr)}
    (left : LeftO r.prog q loose (fun s => xlAt q [] s && recOk r.toRowW.records s) (Hook.obs (kHook K as ek)) (Hook.val (kHook K as ek)) N true)
    (hdef : defOf q r.name = some (d, kwd)) (hp : r.prog.theDef r.name = some (d.params, d.body, d.scope)) (hk : kwWritten? d.params.kwonlyargs d.params.kw_defaults = some kwd)
    (hwr : (!r.writes || r.records.isEmpty) = true) (k1 : r.wellSaid = true) (ok : (chainsOk q && opensWell r.prog && (frees r.toRowW && r.within.isEmpty)) = true) (hb : r.prog.bare) (hw : r.toRowW.promised)
    (call : WalkO q loose (XL q []) (Hook.says (kHook K as ek)) r.toRowW d kwd fun f vs => PySem.call f vs) : r.Holds :=
  holds_open left (Hook.of (kHook K as ek)) (Hook.keeps (kHook K as ek)) (fun s y => xl_of s (Bool.and_eq_true_iff.mp y).1) XL.keeps hdef hp hk (fun s y => recFacts_of (Bool.and_eq_true_iff.mp y).2) hwr k1 ok hb hw call
end Fb
set_option Elab.async false
set_option linter.all false
set_option maxRecDepth 100000
set_option maxHeartbeats 4000000
namespace Fb
open PySem PySem.Spec L2
open PyProof.Rows hiding St
section
variable {P : Program} {w : World} {A : Around} {E : Value → Shared → Prop} {I : Addr} {fp wr : List Addr} {n : Nat} {Pv : Nat → Value → Prop} {St : Nat → Heap → Prop} {R : Result → Shared → Prop}
theorem word_min : (toString "min" ++ toString ".loop" : String) = "min.loop" := by decide
theorem min_turn (W : Walks P w A.in1 I fp wr n Pv St) (val : Nat → Int) (hv : ∀ i v, Pv i v → ∃ t, v = .int (val i) t) (S : Addr) (out : S ∉ fp) (d : Value) :
    ∀ (m j : Nat) (s : Shared) (b : Nat) (vb : Value) (c : Nat), n - j = m → j ≤ n → b < j → St j s.heap → Pv b vb → (∀ i < j, val b ≤ val i) →
    s.heap.get? S = some { cls := .type "list", dict := none, data := .seq #[vb, vb] c, slots := #[] } →
    (∀ b v h' tk, b < n → Pv b v → (∀ i < n, val b ≤ val i) → (∀ a o, a ∉ wr → a ≠ S → s.heap.get? a = some o → h'.get? a = some o) → R (.ok (.ret v)) { s with heap := h', toks := tk }) →
    codeAny (model P w) A (.builtin "min.loop" ⟨[.ref I, .none, .ref S], [("default", d)]⟩) R s := by
  have Sw : S ∉ wr := fun h => out (W.sub _ h)
  intro m
  induction m with
  | zero =>
    intro j s b vb c hk hj hb st pb le hS q
    have e : j = n := by omega
    refine codeAny_builtin F.entry_min_loop ?_
    rw [Around.under_plainId F.plain_min_loop _]
    show wpAny _ A.in1 (seqItems? (.ref S) >>= _) _ _ s
    refine wpAny_bind (wpAny_seqItems hS rfl ?_)
    show wpAny _ A.in1 (tryCatch (pyNext (.ref I)) _ >>= _) _ _ s
    refine wpAny_bind (wpAny_tryCatch (W.done s _ _ (e ▸ st) fun h' tk k1 => ?_))
    have hS1 := k1 S _ Sw hS
    show wpAny _ A.in1 (updateSeq S (fun _ => #[]) >>= _) _ _ _
    refine wpAny_bind ?_
    refine wpAny_updateSeq hS1 rfl (wpAny_bind (wpAny_letGo (wpAny_pure ?_)))
    exact q b vb _ tk (by omega) pb (fun i hi => le i (by omega)) fun a o aw aS z => (Heap.get?_update_other _ _ (Ne.symm aS)).trans (k1 a o aw z)
  | succ m ih =>
    intro j s b vb c hk hj hb st pb le hS q
    have lt : j < n := by omega
    refine codeAny_builtin F.entry_min_loop ?_
    rw [Around.under_plainId F.plain_min_loop _]
    show wpAny _ A.in1 (seqItems? (.ref S) >>= _) _ _ s
    refine wpAny_bind (wpAny_seqItems hS rfl ?_)
    show wpAny _ A.in1 (tryCatch (pyNext (.ref I)) _ >>= _) _ _ s
    refine wpAny_bind (wpAny_tryCatch (W.item j s _ _ lt st fun v h' tk pv st1 k1 => ?_))
    have hS1 := k1 S _ Sw hS
    show wpAny _ A.in1 (tryCatch (holding [v, v] (richCompare .Lt v vb >>= _)) _ >>= _) _ _ _
    refine wpAny_bind (wpAny_tryCatch (wpAny_holding (wpAny_bind (CmpOf.ints_lt val hv j b v vb _ _ _ pv pb ?_))))
    refine wpAny_bind (wpAny_holding (wpAny_truthy_bool (wpAny_bind (wpAny_letGo (wpAny_pure ?_)))))
    by_cases lb : val j < val b
    · rw [if_pos (decide_eq_true lb)]
      refine wpAny_bind ?_
      refine wpAny_updateSeq hS1 rfl (wpAny_bind (wpAny_letGo ?_))
      rw [word_min]
      refine wpAny_pure ⟨plainId_quiet F.plain_min_loop _, ih (j + 1) _ j v _ (by omega) lt (Nat.lt_succ_self _) (W.frame _ _ _ st1 fun a ha o z => ?_) pv (fun i hi => ?_) (Heap.get?_update_self _ hS1 rfl) fun b2 v2 h2 t2 l2 p2 le2 k2 => ?_⟩
      · exact (Heap.get?_update_other _ _ (fun h : S = a => out (h ▸ ha))).trans z
      · by_cases z : i = j
        · rw [z]
          exact Int.le_refl _
        · have := le i (by omega)
          omega
      · exact q b2 v2 h2 t2 l2 p2 le2 fun a o aw aS z => k2 a o aw aS ((Heap.get?_update_other _ _ (Ne.symm aS)).trans (k1 a o aw z))
    · rw [if_neg fun c => lb (of_decide_eq_true c)]
      refine wpAny_bind (wpAny_letGo ?_)
      rw [word_min]
      refine wpAny_pure ⟨plainId_quiet F.plain_min_loop _, ih (j + 1) _ b vb c (by omega) lt (by omega) st1 pb (fun i hi => ?_) hS1 fun b2 v2 h2 t2 l2 p2 le2 k2 => q b2 v2 h2 t2 l2 p2 le2 fun a o aw aS z => k2 a o aw aS (k1 a o aw z)⟩
      by_cases z : i = j
      · rw [z]
        omega
      · exact le i (by omega)
theorem min_first (W : Walks P w A.in1 I fp wr n Pv St) (val : Nat → Int) (hv : ∀ i v, Pv i v → ∃ t, v = .int (val i) t) (S : Addr) (out : S ∉ fp) (d : Value) {s : Shared} {c : Nat} (st : St 0 s.heap)
    (hS : s.heap.get? S = some { cls := .type "list", dict := none, data := .seq #[] c, slots := #[] })
    (z : n = 0 → ∀ h' tk, (∀ a o, a ∉ wr → a ≠ S → s.heap.get? a = some o → h'.get? a = some o) → R (.ok (.ret d)) { s with heap := h', toks := tk })
    (q : ∀ b v h' tk, b < n → Pv b v → (∀ i < n, val b ≤ val i) → (∀ a o, a ∉ wr → a ≠ S → s.heap.get? a = some o → h'.get? a = some o) → R (.ok (.ret v)) { s with heap := h', toks := tk }) :
    codeAny (model P w) A (.builtin "min.loop" ⟨[.ref I, .none, .ref S], [("default", d)]⟩) R s := by
  have Sw : S ∉ wr := fun h => out (W.sub _ h)
  refine codeAny_builtin F.entry_min_loop ?_
  rw [Around.under_plainId F.plain_min_loop _]
  show wpAny _ A.in1 (seqItems? (.ref S) >>= _) _ _ s
  refine wpAny_bind (wpAny_seqItems hS rfl ?_)
  show wpAny _ A.in1 (tryCatch (pyNext (.ref I)) _ >>= _) _ _ s
  rcases Nat.eq_zero_or_pos n with e | pos
  · refine wpAny_bind (wpAny_tryCatch (W.done s _ _ (e ▸ st) fun h' tk k1 => ?_))
    show wpAny _ A.in1 (rule _ >>= _) _ _ _
    refine wpAny_bind (wpAny_rule (wpAny_pure ?_))
    exact z e h' tk fun a o aw aS z => k1 a o aw z
  · refine wpAny_bind (wpAny_tryCatch (W.item 0 s _ _ pos st fun v h' tk pv st1 k1 => ?_))
    have hS1 := k1 S _ Sw hS
    show wpAny _ A.in1 (updateSeq S (fun _ => #[v, v]) >>= _) _ _ _
    refine wpAny_bind ?_
    refine wpAny_updateSeq hS1 rfl ?_
    rw [word_min]
    refine wpAny_pure ⟨plainId_quiet F.plain_min_loop _, min_turn W val hv S out d _ 1 _ 0 v _ rfl pos Nat.zero_lt_one (W.frame _ _ _ st1 fun a ha o y => ?_) pv (fun i hi => ?_) (Heap.get?_update_self _ hS1 rfl) fun b2 v2 h2 t2 l2 p2 le2 k2 => ?_⟩
    · exact (Heap.get?_update_other _ _ (fun h : S = a => out (h ▸ ha))).trans y
    · rw [show i = 0 by omega]
      exact Int.le_refl _
    · exact q b2 v2 h2 t2 l2 p2 le2 fun a o aw aS z => k2 a o aw aS ((Heap.get?_update_other _ _ (Ne.symm aS)).trans (k1 a o aw z))
end
theorem intsX_len : ∀ {us : List Value} {xs : List Int}, PyProof.Rows.IntsAre us xs → us.length = xs.length
  | _, _, .nil => rfl
  | _, _, .cons _ _ r => congrArg (· + 1) (intsX_len r)
theorem intsX_at : ∀ {us : List Value} {xs : List Int}, PyProof.Rows.IntsAre us xs → ∀ (i : Nat) (v : Value), us[i]? = some v → ∃ t, v = .int (xs.getD i 0) t
  | _, _, .nil, i, v, h => by simp at h
  | _, _, .cons n t r, 0, v, h => by
    cases h
    exact ⟨t, rfl⟩
  | _, _, .cons n t r, i + 1, v, h => by
    obtain ⟨t', e⟩ := intsX_at r i v h
    exact ⟨t', e⟩
theorem args_minD (a d : Value) : argsOk "min" ⟨[a], [("default", d)]⟩ := by unfold argsOk; kernel_rfl
section
variable {P : Program} {w : World} {A : Around} {E : Value → Shared → Prop} {s : Shared} {l : Addr}
theorem min_dflt {its : List Value} {ns : List Int} {d : Value} {Q : Value → Shared → Prop} (hh : A.handled = none) (hl : s.heap.IsList l its.toArray) (hi : PyProof.Rows.IntsAre its ns)
    (z : ns = [] → ∀ h' tk, (∀ a o, s.heap.get? a = some o → h'.get? a = some o) → Q d { s with heap := h', toks := tk })
    (q : ∀ m t h' tk, m ∈ ns → (∀ x ∈ ns, m ≤ x) → (∀ a o, s.heap.get? a = some o → h'.get? a = some o) → Q (.int m t) { s with heap := h', toks := tk }) :
    wpAny (model P w) A (call (.builtin "min") [.ref l] [("default", d)]) Q E s := by
  obtain ⟨ol, hol, _⟩ := id hl
  have ll : l < s.heap.objs.size := Heap.lt_size hol
  have le := intsX_len hi
  have at_ : ∀ (i : Nat) (v : Value), its.toArray[i]? = some v → ∃ t, v = .int (ns.getD i 0) t := fun i v h => intsX_at hi i v (by rw [← List.getElem?_toArray]; exact h)
  refine PyProof.Rows.kmk_tree PySem.F.kind_min PySem.F.plain_min PySem.F.entry_min (args_minD _ _) ?_
  show wpAny _ A.in1 (Builtin.Builtins.bindParams "min" ["key", "default"] 0 ⟨[], [(Str.ofString "default", d)]⟩ >>= _) _ _ s
  refine wpAny_bind (wpAny_of_eq (show Builtin.Builtins.bindParams "min" ["key", "default"] 0 ⟨[], [(Str.ofString "default", d)]⟩ = pure [none, some d] from rfl) ?_)
  refine wpAny_bind (wpAny_pure ?_)
  refine wpAny_bind (wpAny_pyIter_list hl ?_)
  refine wpAny_bind (wpAny_newList ?_ (Nat.zero_le _))
  rw [word_min]
  have sz : (s.heap.push { cls := .type "list_iterator", data := .fields #[.ref l, .int 0 0] }).objs.size = s.heap.objs.size + 1 := Heap.size_push ..
  have out : (s.heap.push { cls := .type "list_iterator", data := .fields #[.ref l, .int 0 0] }).objs.size ∉ [s.heap.objs.size, l] := by
    rw [sz]
    simp only [List.mem_cons, List.not_mem_nil, or_false, not_or]
    exact ⟨Nat.succ_ne_self _, Nat.ne_of_gt (Nat.lt_succ_of_lt ll)⟩
  have old : ∀ {h' : Heap}, (∀ a o, a ∉ [s.heap.objs.size] → a ≠ (s.heap.push { cls := .type "list_iterator", data := .fields #[.ref l, .int 0 0] }).objs.size → ((s.heap.push { cls := .type "list_iterator", data := .fields #[.ref l, .int 0 0] }).push { cls := .type "list", data := .seq #[] 0 }).get? a = some o → h'.get? a = some o) → ∀ a o, s.heap.get? a = some o → h'.get? a = some o := fun k a o e => by
    have la := Heap.lt_size e
    exact k a o (fun m => absurd la (by rw [List.mem_singleton.mp m]; exact Nat.lt_irrefl _)) (fun m => absurd la (by rw [m, sz]; exact Nat.not_lt_of_le (Nat.le_succ _))) (Heap.get?_push_of_some _ (Heap.get?_push_of_some _ e))
  refine wpAny_pure ⟨plainId_quiet F.plain_min_loop _, min_first (Walks.list (A := A.in1) hh s.heap.objs.size l (Nat.ne_of_lt ll) its.toArray) (fun i => ns.getD i 0) at_ _ out d ⟨⟨_, Heap.get?_push_of_some _ (Heap.get?_push_size _ rfl), rfl, rfl⟩, (hl.push _).push _⟩ (Heap.get?_push_size _ rfl) (fun e h' tk k => ?_) fun b v h' tk hb pv le2 k => ?_⟩
  · refine z (List.length_eq_zero_iff.mp ?_) h' tk (old k)
    have : its.length = 0 := by simpa using e
    omega
  · obtain ⟨t, rfl⟩ := at_ b v pv
    have hb : b < its.length := by simpa using hb
    have gm : ns[b]? = some ns[b] := List.getElem?_eq_getElem (by omega)
    have e1 : ns.getD b 0 = ns[b] := by rw [List.getD_eq_getElem?_getD, gm]; rfl
    refine q _ t h' tk (by rw [e1]; exact List.getElem_mem _) (fun x mx => ?_) (old k)
    obtain ⟨i, hi, rfl⟩ := List.getElem_of_mem mx
    have := le2 i (by simp; omega)
    rwa [show ns.getD i 0 = ns[i] by rw [List.getD_eq_getElem?_getD, List.getElem?_eq_getElem hi]; rfl] at this
end
/-- min(xs, default=None) -/
def rMinN (K : PySem.W.Frag) : List V → List V → Hp → VK → Prop := fun vs ws H Q => ∃ (a : Addr) (ns : List Int), vs = [.ref a] ∧ ws = [.non] ∧ SqL K H a (ns.map V.int) ∧ (ns = [] → Q .non H) ∧ ∀ m, m ∈ ns → (∀ x ∈ ns, m ≤ x) → Q (.int m) H
theorem cr_minN {X : Cx} {K : PySem.W.Frag} (eK : X.K = K) (hc : X.calm = true) : CallRK X (.builtin "min") ["default"] (rMinN K) := by
  rintro pins s σ H vs ws us zs Q I r rz ⟨a, ns, rfl, rfl, hs, z, q⟩
  subst eK
  rw [Vals.ref1 r]
  obtain ⟨its, rv, pl, _⟩ := I.list hs
  cases rz with
  | cons ra rt =>
    cases rt
    refine min_dflt (its := its) (ns := ns) (I.ok.hd hc) pl.isList (intsAre_of rv) (fun e h' tk k => ?_) fun m t h' tk mm le k => ?_
    · exact ⟨.non, H, I.kept k, ra, z e⟩
    · exact ⟨.int m, H, I.kept k, ⟨t, rfl⟩, q m mm le⟩
end Fb
set_option Elab.async false
set_option linter.all false
set_option maxRecDepth 100000
set_option maxHeartbeats 4000000
namespace Fb
open PySem PySem.Spec L2
open PyProof.Rows hiding St
/-- a table of rows: its doubts, its rows -/
def TabO (K : PySem.W.Frag) (C : Addr) (H : Hp) (p : Addr) (N : List Str) (S : List OpR) : Prop := ∃ (dx D R : Addr) (kvs : List (Key × V)) (ys : List V), H p = some (.ins C dx [("_doubts", .ref D), ("_rows", .ref R)]) ∧ H D = some (.dK kvs) ∧ (∀ z ∈ N, (valV kvs (Sum.inr z)).isSome = true) ∧ H R = some (.lst ys) ∧ RowsO K H ys S
theorem TabO.mono {K : PySem.W.Frag} {C : Addr} {H H' : Hp} {p : Addr} {N : List Str} {S : List OpR} (h : TabO K C H p N S) (e : Same H H') : TabO K C H' p N S := by
  obtain ⟨dx, D, R, kvs, ys, h1, h2, h3, h4, h5⟩ := h
  exact ⟨dx, D, R, kvs, ys, e _ _ h1, e _ _ h2, h3, e _ _ h4, h5.mono e⟩
theorem TabO.sub {K : PySem.W.Frag} {C : Addr} {H : Hp} {p : Addr} {N M : List Str} {S : List OpR} (h : TabO K C H p M S) (m : ∀ z ∈ N, z ∈ M) : TabO K C H p N S := by
  obtain ⟨dx, D, R, kvs, ys, h1, h2, h3, h4, h5⟩ := h
  exact ⟨dx, D, R, kvs, ys, h1, h2, fun z mz => h3 z (m z mz), h4, h5⟩
/-- fees by names: each name once, out of N -/
structure FeK (N : List Str) (kvs : List (Key × V)) : Prop where
  nd : (kvs.map Prod.fst).Nodup
  ok : ∀ kv ∈ kvs, ∃ z i, kv = (Sum.inr z, V.int i) ∧ z ∈ N ∧ 0 ≤ i ∧ i ≤ 1000000
def feeF (kvs : List (Key × V)) (z : Str) : Int := match valV kvs (Sum.inr z) with
  | some (.int i) => i
  | _ => 0
theorem FeK.nil (N : List Str) : FeK N [] := ⟨List.nodup_nil, fun _ m => nomatch m⟩
theorem valV_mem {kvs : List (Key × V)} {k : Key} {v : V} (h : valV kvs k = some v) : (k, v) ∈ kvs := by
  unfold valV at h
  cases e : kvs.find? fun kv => decide (kv.1 = k) with
  | none =>
    rw [e] at h
    cases h
  | some kv =>
    rw [e] at h
    cases h
    have := List.find?_some e
    have q : kv.1 = k := of_decide_eq_true this
    have m := List.mem_of_find?_eq_some e
    rw [← q]
    exact m
theorem FeK.val {N : List Str} {kvs : List (Key × V)} (h : FeK N kvs) (z : Str) : (valV kvs (Sum.inr z)).getD (.int 0) = .int (feeF kvs z) ∧ 0 ≤ feeF kvs z ∧ feeF kvs z ≤ 1000000 := by
  unfold feeF
  cases e : valV kvs (Sum.inr z) with
  | none => exact ⟨rfl, Int.le_refl _, by decide⟩
  | some v =>
    obtain ⟨y, i, q, _, i0, i1⟩ := h.ok _ (valV_mem e)
    cases q
    exact ⟨rfl, i0, i1⟩
theorem FeK.at {N : List Str} {kvs : List (Key × V)} (h : FeK N kvs) {z : Str} {i : Int} (m : (Sum.inr z, V.int i) ∈ kvs) : valV kvs (Sum.inr z) = some (.int i) := by
  have := h.nd
  revert m
  clear h
  induction kvs with
  | nil => exact fun m => nomatch m
  | cons kv r ih =>
    intro m
    rw [List.map_cons, List.nodup_cons] at this
    rcases List.mem_cons.mp m with e | m
    · rw [← e]
      exact valV_pos rfl
    · rw [valV_neg fun q => this.1 (by rw [q]; exact List.mem_map.mpr ⟨_, m, rfl⟩)]
      exact ih this.2 m
theorem feeF_put {kvs : List (Key × V)} {z : Str} {i : Int} (y : Str) : feeF (putK kvs (Sum.inr z) (.int i)) y = if y = z then i else feeF kvs y := by
  unfold feeF
  rw [valV_put]
  by_cases h : y = z
  · rw [if_pos h, h, if_pos rfl]
  · rw [if_neg h, if_neg fun q => h (Sum.inr.inj q)]
theorem FeK.put {N : List Str} {kvs : List (Key × V)} (h : FeK N kvs) {z : Str} {i : Int} (m : z ∈ N) (n : valV kvs (Sum.inr z) = none) (i0 : 0 ≤ i) (i1 : i ≤ 1000000) : FeK N (putK kvs (Sum.inr z) (.int i)) := by
  rw [putK_new _ n]
  refine ⟨?_, fun kv mk => ?_⟩
  · rw [List.map_append, List.nodup_append]
    refine ⟨h.nd, List.nodup_cons.mpr ⟨(fun q => nomatch q), List.nodup_nil⟩, fun a ha b hb => ?_⟩
    rw [List.mem_singleton.mp hb]
    rintro rfl
    obtain ⟨kv, mk, e⟩ := List.mem_map.mp ha
    obtain ⟨y, j, rfl, _⟩ := h.ok kv mk
    cases e
    rw [h.at mk] at n
    cases n
  · rcases List.mem_append.mp mk with mk | mk
    · exact h.ok kv mk
    · rw [List.mem_singleton.mp mk]
      exact ⟨z, i, rfl, m, i0, i1⟩
theorem FeK.put2 {N : List Str} {kvs : List (Key × V)} (h : FeK N kvs) {z : Str} {i : Int} (m : z ∈ N) (i0 : 0 ≤ i) (i1 : i ≤ 1000000) : FeK N (putK kvs (Sum.inr z) (.int i)) := by
  by_cases n : valV kvs (Sum.inr z) = none
  · exact h.put m n i0 i1
  · have a : (kvs.any fun kv => decide (kv.1 = Sum.inr z)) = true := by
      rw [valV_any]
      exact Option.isSome_iff_ne_none.mpr n
    unfold putK
    rw [if_pos a]
    refine ⟨?_, fun kv mk => ?_⟩
    · rw [List.map_map, show (kvs.map (Prod.fst ∘ fun kv : Key × V => if kv.1 = Sum.inr z then (kv.1, V.int i) else kv)) = kvs.map Prod.fst from List.map_congr_left fun kv _ => by
        show (if kv.1 = Sum.inr z then (kv.1, V.int i) else kv).1 = kv.1
        split <;> rfl]
      exact h.nd
    · obtain ⟨kv0, m0, rfl⟩ := List.mem_map.mp mk
      by_cases e : kv0.1 = Sum.inr z
      · rw [if_pos e, e]
        exact ⟨z, i, rfl, m, i0, i1⟩
      · rw [if_neg e]
        exact h.ok kv0 m0
theorem FeK.keys {N : List Str} {kvs : List (Key × V)} (h : FeK N kvs) : ∃ zs : List Str, kvs.map Prod.fst = zs.map Sum.inr ∧ zs.Nodup ∧ (∀ z ∈ zs, z ∈ N ∧ (valV kvs (Sum.inr z)).isSome = true) ∧ ∀ z, (valV kvs (Sum.inr z)).isSome = true → z ∈ zs := by
  refine ⟨kvs.map fun kv => match kv.1 with | .inr z => z | .inl _ => "", ?_, ?_, ?_, ?_⟩
  · rw [List.map_map]
    refine List.map_congr_left fun kv m => ?_
    obtain ⟨z, i, rfl, _⟩ := h.ok kv m
    rfl
  · have e : kvs.map Prod.fst = (kvs.map fun kv => match kv.1 with | .inr z => z | .inl _ => "").map Sum.inr := by
      rw [List.map_map]
      refine List.map_congr_left fun kv m => ?_
      obtain ⟨z, i, rfl, _⟩ := h.ok kv m
      rfl
    have nd := h.nd
    rw [e] at nd
    exact List.Pairwise.of_map Sum.inr (fun a b q z => q (by rw [z])) nd
  · intro z m
    obtain ⟨kv, mk, rfl⟩ := List.mem_map.mp m
    obtain ⟨y, i, rfl, my, _⟩ := h.ok kv mk
    exact ⟨my, by rw [h.at mk]; rfl⟩
  · intro z q
    obtain ⟨v, e⟩ := Option.isSome_iff_exists.mp q
    have m := valV_mem e
    exact List.mem_map.mpr ⟨_, m, rfl⟩
theorem names_keys {kvs : List (Key × V)} {zs : List Str} (e : kvs.map Prod.fst = zs.map Sum.inr) : kvs.map (fun kv => kV kv.1) = zs.map V.str := by
  rw [show kvs.map (fun kv => kV kv.1) = (kvs.map Prod.fst).map kV by rw [List.map_map]; rfl, e, List.map_map]
  rfl
theorem SqT.but {K : PySem.W.Frag} {H H' : Hp} {p C dx : Addr} {fs : List (Str × V)} {a : Addr} {xs : List V} (hp : H p = some (.ins C dx fs)) (k : ∀ c o, H c = some o → c ≠ p → H' c = some o) (h : SqT K H a xs) : SqT K H' a xs := by
  rcases h with h | h
  · rcases h with e | ⟨od, e⟩
    · exact .inl (.inl (k _ _ e fun z => by rw [z, hp] at e; cases e))
    · exact .inl (.inr ⟨od, k _ _ e (fun z => by rw [z, hp] at e; cases e)⟩)
  · exact .inr h
theorem RowV.but {K : PySem.W.Frag} {H H' : Hp} {p C dx : Addr} {fs : List (Str × V)} {v : V} {r : OpR} (hp : H p = some (.ins C dx fs)) (k : ∀ c o, H c = some o → c ≠ p → H' c = some o) (h : RowV K H v r) : RowV K H' v r := by
  obtain ⟨t, u, rfl, h1, ⟨ob, h2, d⟩⟩ := h
  exact ⟨t, u, rfl, SqT.but hp k h1, ⟨ob, k _ _ h2 (fun z => by rw [z, hp] at h2; cases h2), d⟩⟩
theorem RowsO.but {K : PySem.W.Frag} {H H' : Hp} {p C dx : Addr} {fs : List (Str × V)} (hp : H p = some (.ins C dx fs)) (k : ∀ c o, H c = some o → c ≠ p → H' c = some o) : ∀ {vs : List V} {rs : List OpR}, RowsO K H vs rs → RowsO K H' vs rs
  | _, _, .nil => .nil
  | _, _, .cons a t => .cons (a.but hp k) (RowsO.but hp k t)
theorem lkp1 {f : Str} {v : V} {fs : List (Str × V)} : List.lookup f ((f, v) :: fs) = some v := by
  rw [List.lookup_cons, beq_self_eq_true]
theorem lkp2 {f g : Str} {v : V} {u : V} {fs : List (Str × V)} (n : ¬ f = g) : List.lookup f ((g, u) :: (f, v) :: fs) = some v := by
  rw [List.lookup_cons, beq_eq_false_iff_ne.mpr n]
  exact lkp1
theorem lkp0 {m f g : Str} {v u : V} (n1 : ¬ m = f) (n2 : ¬ m = g) : List.lookup m [(f, v), (g, u)] = none := by
  rw [List.lookup_cons, beq_eq_false_iff_ne.mpr n1]
  show List.lookup m [(g, u)] = none
  rw [List.lookup_cons, beq_eq_false_iff_ne.mpr n2]
  rfl
def oI : Option Int → V
  | none => .non
  | some i => .int i
section
variable {P : Program} {w : World} {K : PySem.W.Frag} {mg : Str → Option Value} {base : Heap} {x : Str} {st : Stmt} {f : Addr} {fd : FuncData} {N : List Str} {k : Nat} {p1 p2 p3 p4 p5 : Str}
open C8 (Def fnScope fnBody)
theorem fn5 {g : V → V → V → V → V → Hp → VK → Prop} (F : Def K mg x st f fd) (S : FnScope N [p1, p2, p3, p4, p5] (fnScope st))
    (body : ∀ (cdv : Value) (A : Around) (outer : List Env) (s : Shared) (H : Hp) (a b c d e : V) (Q : VK) (E : XK), Room k (A.deeper (envOfC x (fnScope st) s.heap.objs.size f cdv)) → g a b c d e H Q →
      ∃ t, PSs (cxOf C8.CX0 P w K mg base N x (fnScope st) f cdv A outer s H E).nox (fnBody st) t ∧ t { nx := fun _ H' => Q .non H', rt := Q } (L2.start N [a, b, c, d, e]) H) : FnOk P w K mg base C8.CX0 (k + 1) f fd [p1, p2, p3, p4, p5] (sp5 g) := by
  refine C8.fn0 F.fn S ?_ ?_
  · rintro vs H Q E ⟨a, b, c, d, e, rfl, _⟩
    rfl
  · rintro cdv A outer s H vs Q E hr ⟨a, b, c, d, e, rfl, h⟩
    exact body cdv A outer s H a b c d e Q E hr h
end
end Fb
set_option Elab.async false
set_option linter.all false
set_option maxRecDepth 100000
set_option maxHeartbeats 4000000
namespace Fb
open PySem PySem.Spec L2
open PyProof.Rows hiding St
open C8 (Cal Met Mak Def cal0 met0 mak0 pe_c pe_mk pe_mt pe_mt0 fnScope fnBody fnArgs pss_cut tCut)
def topS (i : Nat) : Stmt := PySem.Challenge.pw_feeblind_k73_whole_open_read_goes_throug.main.body.getD i (.Pass ⟨0, 0, 0, 0⟩)
abbrev s_is_name : Stmt := topS 10
theorem sc_is_name : FnScope ["value", "letter"] ["value"] (fnScope s_is_name) := ⟨rfl, rfl, rfl, by decide +kernel, rfl, by decide +kernel, by decide +kernel⟩
abbrev s_is_number : Stmt := topS 11
theorem sc_is_number : FnScope ["value", "least", "most"] ["value", "least", "most"] (fnScope s_is_number) := ⟨rfl, rfl, rfl, by decide +kernel, rfl, by decide +kernel, by decide +kernel⟩
abbrev s_covers : Stmt := topS 15
theorem sc_covers : FnScope ["one", "other", "name"] ["one", "other"] (fnScope s_covers) := ⟨rfl, rfl, rfl, by decide +kernel, rfl, by decide +kernel, by decide +kernel⟩
abbrev s_thin_open : Stmt := topS 16
theorem sc_thin_open : FnScope ["rows", "sized", "kept", "price", "_", "lot"] ["rows"] (fnScope s_thin_open) := ⟨rfl, rfl, rfl, by decide +kernel, rfl, by decide +kernel, by decide +kernel⟩
abbrev s_any_covers : Stmt := topS 17
theorem sc_any_covers : FnScope ["rows", "row", "other"] ["rows", "row"] (fnScope s_any_covers) := ⟨rfl, rfl, rfl, by decide +kernel, rfl, by decide +kernel, by decide +kernel⟩
abbrev s_is_one_of : Stmt := topS 20
theorem sc_is_one_of : FnScope ["value", "names"] ["value", "names"] (fnScope s_is_one_of) := ⟨rfl, rfl, rfl, by decide +kernel, rfl, by decide +kernel, by decide +kernel⟩
abbrev s_price_of : Stmt := topS 22
theorem sc_price_of : FnScope ["row", "fees", "price", "lot", "name"] ["row", "fees"] (fnScope s_price_of) := ⟨rfl, rfl, rfl, by decide +kernel, rfl, by decide +kernel, by decide +kernel⟩
abbrev s__law_bag : Stmt := topS 25
theorem sc__law_bag : FnScope ["script", "stir", "lump"] ["script"] (fnScope s__law_bag) := ⟨rfl, rfl, rfl, by decide +kernel, rfl, by decide +kernel, by decide +kernel⟩
abbrev s__law_draw : Stmt := topS 26
theorem sc__law_draw : FnScope ["bag", "sides", "lump", "digit"] ["bag", "sides"] (fnScope s__law_draw) := ⟨rfl, rfl, rfl, by decide +kernel, rfl, by decide +kernel, by decide +kernel⟩
abbrev s__law_of : Stmt := topS 27
theorem sc__law_of : FnScope ["bag", "things"] ["bag", "things"] (fnScope s__law_of) := ⟨rfl, rfl, rfl, by decide +kernel, rfl, by decide +kernel, by decide +kernel⟩
abbrev s__law_turned : Stmt := topS 28
theorem sc__law_turned : FnScope ["bag", "things", "left", "found", "k"] ["bag", "things"] (fnScope s__law_turned) := ⟨rfl, rfl, rfl, by decide +kernel, rfl, by decide +kernel, by decide +kernel⟩
abbrev s__law_like : Stmt := topS 29
theorem sc__law_like : FnScope ["told", "due", "k", "a", "b"] ["told", "due"] (fnScope s__law_like) := ⟨rfl, rfl, rfl, by decide +kernel, rfl, by decide +kernel, by decide +kernel⟩
abbrev s__law_is_number : Stmt := topS 30
theorem sc__law_is_number : FnScope ["thing", "low"] ["thing", "low"] (fnScope s__law_is_number) := ⟨rfl, rfl, rfl, by decide +kernel, rfl, by decide +kernel, by decide +kernel⟩
abbrev s__law_is_title : Stmt := topS 31
theorem sc__law_is_title : FnScope ["thing", "sign"] ["thing"] (fnScope s__law_is_title) := ⟨rfl, rfl, rfl, by decide +kernel, rfl, by decide +kernel, by decide +kernel⟩
abbrev s__law_over : Stmt := topS 33
theorem sc__law_over : FnScope ["x", "y", "sign"] ["x", "y"] (fnScope s__law_over) := ⟨rfl, rfl, rfl, by decide +kernel, rfl, by decide +kernel, by decide +kernel⟩
abbrev s__law_open : Stmt := topS 34
theorem sc__law_open : FnScope ["rows_y", "kept", "x", "y"] ["rows_y"] (fnScope s__law_open) := ⟨rfl, rfl, rfl, by decide +kernel, rfl, by decide +kernel, by decide +kernel⟩
abbrev s__law_pairs : Stmt := topS 38
theorem sc__law_pairs : FnScope ["a", "b", "found", "x", "y"] ["a", "b"] (fnScope s__law_pairs) := ⟨rfl, rfl, rfl, by decide +kernel, rfl, by decide +kernel, by decide +kernel⟩
abbrev s__law_fee : Stmt := topS 39
theorem sc__law_fee : FnScope ["bag", "pick"] ["bag"] (fnScope s__law_fee) := ⟨rfl, rfl, rfl, by decide +kernel, rfl, by decide +kernel, by decide +kernel⟩
abbrev s__law_row : Stmt := topS 40
theorem sc__law_row : FnScope ["bag", "kind", "wide", "many", "k"] ["bag", "kind", "wide"] (fnScope s__law_row) := ⟨rfl, rfl, rfl, by decide +kernel, rfl, by decide +kernel, by decide +kernel⟩
abbrev s__law_tuple_of : Stmt := topS 41
theorem sc__law_tuple_of : FnScope ["thing", "many"] ["thing", "many"] (fnScope s__law_tuple_of) := ⟨rfl, rfl, rfl, by decide +kernel, rfl, by decide +kernel, by decide +kernel⟩
abbrev s__law_is : Stmt := topS 42
theorem sc__law_is : FnScope ["spec", "thing", "kind", "x", "k", "y"] ["spec", "thing"] (fnScope s__law_is) := ⟨rfl, rfl, rfl, by decide +kernel, rfl, by decide +kernel, by decide +kernel⟩
abbrev s__law_tree : Stmt := topS 43
theorem sc__law_tree : FnScope ["bag", "steps", "left"] ["bag", "steps"] (fnScope s__law_tree) := ⟨rfl, rfl, rfl, by decide +kernel, rfl, by decide +kernel, by decide +kernel⟩
abbrev s__law_by_program : Stmt := topS 44
theorem sc__law_by_program : FnScope ["made", "tree", "values", "left", "right"] ["made", "tree", "values"] (fnScope s__law_by_program) := ⟨rfl, rfl, rfl, by decide +kernel, rfl, by decide +kernel, by decide +kernel⟩
abbrev s__law_row_then : Stmt := topS 45
theorem sc__law_row_then : FnScope ["spec", "x", "y", "kind", "t_y", "p", "q"] ["spec", "x", "y"] (fnScope s__law_row_then) := ⟨rfl, rfl, rfl, by decide +kernel, rfl, by decide +kernel, by decide +kernel⟩
abbrev s__law_split : Stmt := topS 46
theorem sc__law_split : FnScope ["spec", "thing", "x"] ["spec", "thing"] (fnScope s__law_split) := ⟨rfl, rfl, rfl, by decide +kernel, rfl, by decide +kernel, by decide +kernel⟩
abbrev s__law_raw : Stmt := topS 47
theorem sc__law_raw : FnScope ["spec", "tree", "values", "left", "right", "x", "y"] ["spec", "tree", "values"] (fnScope s__law_raw) := ⟨rfl, rfl, rfl, by decide +kernel, rfl, by decide +kernel, by decide +kernel⟩
abbrev s__law_fits_rows : Stmt := topS 50
theorem sc__law_fits_rows : FnScope ["spec", "told", "raw", "x", "y", "p", "q"] ["spec", "told", "raw"] (fnScope s__law_fits_rows) := ⟨rfl, rfl, rfl, by decide +kernel, rfl, by decide +kernel, by decide +kernel⟩
abbrev s__law_joinings : Stmt := topS 51
theorem sc__law_joinings : FnScope ["tree"] ["tree"] (fnScope s__law_joinings) := ⟨rfl, rfl, rfl, by decide +kernel, rfl, by decide +kernel, by decide +kernel⟩
abbrev s__law_small_tree : Stmt := topS 52
theorem sc__law_small_tree : FnScope ["bag", "tree"] ["bag"] (fnScope s__law_small_tree) := ⟨rfl, rfl, rfl, by decide +kernel, rfl, by decide +kernel, by decide +kernel⟩
abbrev s__law_open_or_none : Stmt := topS 53
theorem sc__law_open_or_none : FnScope ["bag", "k"] ["bag"] (fnScope s__law_open_or_none) := ⟨rfl, rfl, rfl, by decide +kernel, rfl, by decide +kernel, by decide +kernel⟩
abbrev s__law_priced : Stmt := topS 54
theorem sc__law_priced : FnScope ["rows_y", "fees_y", "barred", "found", "x", "y"] ["rows_y", "fees_y", "barred"] (fnScope s__law_priced) := ⟨rfl, rfl, rfl, by decide +kernel, rfl, by decide +kernel, by decide +kernel⟩
abbrev s__law_parts_read : Stmt := topS 55
theorem sc__law_parts_read : FnScope ["tree", "reads", "left", "right"] ["tree", "reads"] (fnScope s__law_parts_read) := ⟨rfl, rfl, rfl, by decide +kernel, rfl, by decide +kernel, by decide +kernel⟩
abbrev s__law_all_names : Stmt := topS 56
theorem sc__law_all_names : FnScope ["values", "found", "x", "y"] ["values"] (fnScope s__law_all_names) := ⟨rfl, rfl, rfl, by decide +kernel, rfl, by decide +kernel, by decide +kernel⟩
abbrev s__law_reads_so : Stmt := topS 57
theorem sc__law_reads_so : FnScope ["bag", "doubts_y", "values", "tree", "told", "x", "due", "tables_y", "reads", "whole", "again", "seen", "rows_all", "fees_y", "barred", "pick", "held", "kept"] ["bag", "doubts_y", "values", "tree", "told"] (fnScope s__law_reads_so) := ⟨rfl, rfl, rfl, by decide +kernel, rfl, by decide +kernel, by decide +kernel⟩
abbrev s_Open___init__ : Stmt := inClass (topS 18) 0
theorem sc_Open___init__ : FnScope ["self", "wish"] ["self", "wish"] (fnScope s_Open___init__) := ⟨rfl, rfl, rfl, by decide +kernel, rfl, by decide +kernel, by decide +kernel⟩
abbrev s_Open_best : Stmt := inClass (topS 18) 1
theorem sc_Open_best : FnScope ["self", "one", "other"] ["self", "one", "other"] (fnScope s_Open_best) := ⟨rfl, rfl, rfl, by decide +kernel, rfl, by decide +kernel, by decide +kernel⟩
abbrev s_Open_then : Stmt := inClass (topS 18) 2
theorem sc_Open_then : FnScope ["self", "one", "other", "price", "lot", "more", "others"] ["self", "one", "other"] (fnScope s_Open_then) := ⟨rfl, rfl, rfl, by decide +kernel, rfl, by decide +kernel, by decide +kernel⟩
abbrev s_OpenTable___init__ : Stmt := inClass (topS 23) 0
theorem sc_OpenTable___init__ : FnScope ["self", "doubts", "value", "name"] ["self", "doubts", "value"] (fnScope s_OpenTable___init__) := ⟨rfl, rfl, rfl, by decide +kernel, rfl, by decide +kernel, by decide +kernel⟩
abbrev s_OpenTable__usable : Stmt := inClass (topS 23) 10
theorem sc_OpenTable__usable : FnScope ["self", "shut", "row", "name"] ["self", "shut"] (fnScope s_OpenTable__usable) := ⟨rfl, rfl, rfl, by decide +kernel, rfl, by decide +kernel, by decide +kernel⟩
abbrev s_OpenTable__checked : Stmt := inClass (topS 23) 9
theorem sc_OpenTable__checked : FnScope ["self", "fees", "shut", "added", "name"] ["self", "fees", "shut"] (fnScope s_OpenTable__checked) := ⟨rfl, rfl, rfl, by decide +kernel, rfl, by decide +kernel, by decide +kernel⟩
abbrev s_OpenTable_reading : Stmt := inClass (topS 23) 3
theorem sc_OpenTable_reading : FnScope ["self", "fees", "shut", "added", "row"] ["self", "fees", "shut"] (fnScope s_OpenTable_reading) := ⟨rfl, rfl, rfl, by decide +kernel, rfl, by decide +kernel, by decide +kernel⟩
abbrev s_law : Stmt := topS 58
theorem sc_law : FnScope ["script", "bag", "spec", "turn", "made", "values", "tree", "told", "doubts_y", "listed", "k", "x"] ["script"] (fnScope s_law) := ⟨rfl, rfl, rfl, by decide +kernel, rfl, by decide +kernel, by decide +kernel⟩
structure Top (K : PySem.W.Frag) (mg : Str → Option Value) (C_Open C_OpenTable A_OpenTable_reading : Addr) : Prop where
  cl_Open : Cls K C_Open
  g_Open : mg "Open" = some (.ref C_Open)
  na_Open_wish : NoAttr K C_Open "wish"
  na_Open_stay : NoAttr K C_Open "stay"
  cl_OpenTable : Cls K C_OpenTable
  g_OpenTable : mg "OpenTable" = some (.ref C_OpenTable)
  na_OpenTable__doubts : NoAttr K C_OpenTable "_doubts"
  na_OpenTable__rows : NoAttr K C_OpenTable "_rows"
  d_is_name : ∃ (f : Addr) (fd : FuncData), Def K mg "is_name" s_is_name f fd ∧ fd.defaults = .none
  d_is_number : ∃ (f : Addr) (fd : FuncData), Def K mg "is_number" s_is_number f fd ∧ DflV K fd.defaults [.int 0, .non]
  d_covers : ∃ (f : Addr) (fd : FuncData), Def K mg "covers" s_covers f fd ∧ fd.defaults = .none
  d_thin_open : ∃ (f : Addr) (fd : FuncData), Def K mg "thin_open" s_thin_open f fd ∧ fd.defaults = .none
  d_any_covers : ∃ (f : Addr) (fd : FuncData), Def K mg "any_covers" s_any_covers f fd ∧ fd.defaults = .none
  d_is_one_of : ∃ (f : Addr) (fd : FuncData), Def K mg "is_one_of" s_is_one_of f fd ∧ fd.defaults = .none
  d_price_of : ∃ (f : Addr) (fd : FuncData), Def K mg "price_of" s_price_of f fd ∧ fd.defaults = .none
  d__law_bag : ∃ (f : Addr) (fd : FuncData), Def K mg "_law_bag" s__law_bag f fd ∧ fd.defaults = .none
  d__law_draw : ∃ (f : Addr) (fd : FuncData), Def K mg "_law_draw" s__law_draw f fd ∧ fd.defaults = .none
  d__law_of : ∃ (f : Addr) (fd : FuncData), Def K mg "_law_of" s__law_of f fd ∧ fd.defaults = .none
  d__law_turned : ∃ (f : Addr) (fd : FuncData), Def K mg "_law_turned" s__law_turned f fd ∧ fd.defaults = .none
  d__law_like : ∃ (f : Addr) (fd : FuncData), Def K mg "_law_like" s__law_like f fd ∧ fd.defaults = .none
  d__law_is_number : ∃ (f : Addr) (fd : FuncData), Def K mg "_law_is_number" s__law_is_number f fd ∧ fd.defaults = .none
  d__law_is_title : ∃ (f : Addr) (fd : FuncData), Def K mg "_law_is_title" s__law_is_title f fd ∧ fd.defaults = .none
  d__law_over : ∃ (f : Addr) (fd : FuncData), Def K mg "_law_over" s__law_over f fd ∧ fd.defaults = .none
  d__law_open : ∃ (f : Addr) (fd : FuncData), Def K mg "_law_open" s__law_open f fd ∧ fd.defaults = .none
  d__law_pairs : ∃ (f : Addr) (fd : FuncData), Def K mg "_law_pairs" s__law_pairs f fd ∧ fd.defaults = .none
  d__law_fee : ∃ (f : Addr) (fd : FuncData), Def K mg "_law_fee" s__law_fee f fd ∧ fd.defaults = .none
  d__law_row : ∃ (f : Addr) (fd : FuncData), Def K mg "_law_row" s__law_row f fd ∧ fd.defaults = .none
  d__law_tuple_of : ∃ (f : Addr) (fd : FuncData), Def K mg "_law_tuple_of" s__law_tuple_of f fd ∧ fd.defaults = .none
  d__law_is : ∃ (f : Addr) (fd : FuncData), Def K mg "_law_is" s__law_is f fd ∧ fd.defaults = .none
  d__law_tree : ∃ (f : Addr) (fd : FuncData), Def K mg "_law_tree" s__law_tree f fd ∧ fd.defaults = .none
  d__law_by_program : ∃ (f : Addr) (fd : FuncData), Def K mg "_law_by_program" s__law_by_program f fd ∧ fd.defaults = .none
  d__law_row_then : ∃ (f : Addr) (fd : FuncData), Def K mg "_law_row_then" s__law_row_then f fd ∧ fd.defaults = .none
  d__law_split : ∃ (f : Addr) (fd : FuncData), Def K mg "_law_split" s__law_split f fd ∧ fd.defaults = .none
  d__law_raw : ∃ (f : Addr) (fd : FuncData), Def K mg "_law_raw" s__law_raw f fd ∧ fd.defaults = .none
  d__law_fits_rows : ∃ (f : Addr) (fd : FuncData), Def K mg "_law_fits_rows" s__law_fits_rows f fd ∧ fd.defaults = .none
  d__law_joinings : ∃ (f : Addr) (fd : FuncData), Def K mg "_law_joinings" s__law_joinings f fd ∧ fd.defaults = .none
  d__law_small_tree : ∃ (f : Addr) (fd : FuncData), Def K mg "_law_small_tree" s__law_small_tree f fd ∧ fd.defaults = .none
  d__law_open_or_none : ∃ (f : Addr) (fd : FuncData), Def K mg "_law_open_or_none" s__law_open_or_none f fd ∧ fd.defaults = .none
  d__law_priced : ∃ (f : Addr) (fd : FuncData), Def K mg "_law_priced" s__law_priced f fd ∧ fd.defaults = .none
  d__law_parts_read : ∃ (f : Addr) (fd : FuncData), Def K mg "_law_parts_read" s__law_parts_read f fd ∧ fd.defaults = .none
  d__law_all_names : ∃ (f : Addr) (fd : FuncData), Def K mg "_law_all_names" s__law_all_names f fd ∧ fd.defaults = .none
  d__law_reads_so : ∃ (f : Addr) (fd : FuncData), Def K mg "_law_reads_so" s__law_reads_so f fd ∧ fd.defaults = .none
  d_Open___init__ : ∃ (f : Addr) (fd : FuncData), Mk K C_Open f ∧ C8.Fun K "__init__" "Open.__init__" s_Open___init__ f fd ∧ fd.defaults = .none
  d_Open_best : ∃ (f : Addr) (fd : FuncData), Meth K C_Open "best" f ∧ C8.Fun K "best" "Open.best" s_Open_best f fd ∧ fd.defaults = .none
  d_Open_then : ∃ (f : Addr) (fd : FuncData), Meth K C_Open "then" f ∧ C8.Fun K "then" "Open.then" s_Open_then f fd ∧ fd.defaults = .none
  d_OpenTable___init__ : ∃ (f : Addr) (fd : FuncData), Mk K C_OpenTable f ∧ C8.Fun K "__init__" "OpenTable.__init__" s_OpenTable___init__ f fd ∧ fd.defaults = .none
  d_OpenTable__usable : ∃ (f : Addr) (fd : FuncData), Meth K C_OpenTable "_usable" f ∧ C8.Fun K "_usable" "OpenTable._usable" s_OpenTable__usable f fd ∧ fd.defaults = .none
  d_OpenTable__checked : ∃ (f : Addr) (fd : FuncData), Meth K C_OpenTable "_checked" f ∧ C8.Fun K "_checked" "OpenTable._checked" s_OpenTable__checked f fd ∧ fd.defaults = .none
  d_OpenTable_reading : ∃ (f : Addr) (fd : FuncData), Meth K C_OpenTable "reading" f ∧ C8.Fun K "reading" "OpenTable.reading" s_OpenTable_reading f fd ∧ FunD K "reading" "OpenTable.reading" (fnArgs s_OpenTable_reading) (fnBody s_OpenTable_reading) (fnScope s_OpenTable_reading) [] [("fees", .non), ("shut", .ref A_OpenTable_reading)] f fd
  e_OpenTable_reading : ∀ H, SqT K H A_OpenTable_reading []
  d_law : ∃ (f : Addr) (fd : FuncData), Def K mg "law" s_law f fd ∧ fd.defaults = .none
  all : mg "all" = none
  any : mg "any" = none
  bool : mg "bool" = none
  dict : mg "dict" = none
  enumerate : mg "enumerate" = none
  int : mg "int" = none
  isinstance : mg "isinstance" = none
  len : mg "len" = none
  list : mg "list" = none
  min : mg "min" = none
  range : mg "range" = none
  set : mg "set" = none
  sorted : mg "sorted" = none
  str : mg "str" = none
  sum : mg "sum" = none
  tuple : mg "tuple" = none
  zip : mg "zip" = none
  m_LETTERS : ∃ u, mg "LETTERS" = some u ∧ RelV (.int 8) u
end Fb
set_option Elab.async false
set_option linter.all false
set_option maxRecDepth 100000
set_option maxHeartbeats 4000000
namespace Fb
open PySem PySem.Spec L2
open PyProof.Rows hiding St
open C8 (Cal Met Mak Def cal0 met0 mak0 pe_c pe_mk pe_mt pe_mt0 fnScope fnBody fnArgs pss_cut tCut)
local macro_rules | `(tactic| walk_at "hp") => `(tactic| first | exact upd_same | assumption | (refine grow (by assumption) _ _ ?_; walk_at "hp") | (refine (show Same _ _ by assumption) _ _ ?_; walk_at "hp"))
local macro_rules | `(tactic| walk_at "sm") => `(tactic| first | exact Same.refl _ | assumption | (refine Same.trans ?_ (grow (by assumption)); walk_at "sm") | (refine Same.trans ?_ (show Same _ _ by assumption); walk_at "sm"))
section
variable {P : Program} {w : World} {K : PySem.W.Frag} {mg : Str → Option Value} {base : Heap}
variable {C_Open C_OpenTable A_OpenTable_reading : Addr}
theorem cut_ints (ns : List Int) (lo hi : Option Int) : ∃ ms : List Int, cutV (ns.map V.int) lo hi = ms.map V.int := by
  unfold cutV
  rw [← List.map_drop, ← List.map_take]
  exact ⟨_, rfl⟩
def spBag (K : PySem.W.Frag) : Sp := sp1 fun a H Q => ∃ (l : Addr) (ns : List Int), a = .ref l ∧ SqL K H l (ns.map V.int) ∧ ∀ p H', Same H H' → BagAt H' p → Q (.ref p) H'
theorem c__law_bag (T : Top K mg C_Open C_OpenTable A_OpenTable_reading) : Cal P w K mg base 1 "_law_bag" (spBag K) [] := by
  obtain ⟨f, fd, F, df⟩ := T.d__law_bag
  refine cal_of F df (fn1 F sc__law_bag fun cdv A outer s H a Q E hr h => ?_) fun _ _ _ _ _ _ us hl => match us, hl with | [_], _ => rfl
  have nd := sc__law_bag.nd
  obtain ⟨l, ns, rfl, hs, k⟩ := h
  refine ⟨_, pss_bagNew (pss_cons 
      (ps_set (i := 1) nd rfl (Or.inl rfl) pe_int) (pss_cons 
      (ps_for PassesOwn.never rfl (pi_K (K := K) rfl (pe_slice (sl_K (K := K) rfl) (pv 0) po_none (po_some pe_int))) (pg_name (i := 2) nd rfl (Or.inl rfl)) (pss_one 
      (ps_set (i := 1) nd rfl (Or.inl rfl) (pe_op op_mod (pe_callTy call_int1 (by rfl) T.int (by decide +kernel) (pa_cons (pe_op op_addU (pe_op op_addU (pe_op op_mul (pv 1) pe_int) (pe_op op_mul (pe_op op_mod (pe_callTy call_int1 (by rfl) T.int (by decide +kernel) (pa_cons (pv 2) pa_nil)) pe_int) pe_int)) pe_int) pa_nil)) pe_int)))) (pss_one 
      (ps_ret (pe_lst (pa_cons (pe_callTy (listOf_K (K := K) rfl) (by rfl) T.list (by decide +kernel) (pa_cons (pe_slice (sl_K (K := K) rfl) (pv 0) po_none (po_some pe_int)) pa_nil)) (pa_cons pe_int (pa_cons pe_int (pa_cons (pv 1) (pa_cons pe_int pa_nil)))))))))), ?_⟩
  -- for lump in script[:63]
  refine ⟨_, rfl, _, rfl, .inl ⟨l, _, rfl, hs, fun c nc => .inl ⟨c, rfl, ⟨_, SqL.of upd_same⟩, ?_⟩⟩⟩
  obtain ⟨ms, em⟩ := cut_ints ns none (some 63)
  rw [em]
  refine for_it (walk_list (xs := ms.map V.int)) (fun i σ H' => H' = upd H c (.lst (ms.map V.int)) ∧ ∃ (st : Int) (y : Option V), σ = [some (.ref l), some (.int st), y] ∧ 0 ≤ st ∧ st < 2147483629) ⟨rfl, _, _, rfl, by decide, by decide⟩ ?_ ?_ ?_
  · rintro i σ H' _ ⟨rfl, _⟩
    exact SqL.of upd_same
  · rintro i x σ H1 H2 hi ⟨rfl, st, y, rfl, s0, s1⟩ ⟨rfl, hx⟩
    obtain ⟨z, rfl⟩ : ∃ z, x = V.int z := by
      rw [List.getElem?_map] at hx
      cases e : ms[i]? with
      | none =>
        rw [e] at hx
        cases hx
      | some z =>
        rw [e] at hx
        exact ⟨z, (Option.some.inj hx).symm⟩
    refine ⟨_, rfl, _, _, rfl, rfl, .inr ⟨by decide, by decide⟩, _, rfl, .inl ⟨_, rfl, _, _, rfl, rfl, (by show (0 : Int) < _; decide), _, _, rfl, rfl, .inr ⟨by decide, by decide⟩, .inl ⟨_, _, rfl, rfl, .inl ⟨_, _, rfl, rfl, .inl ⟨_, rfl, _, _, rfl, rfl, (by show (0 : Int) < _; decide), ?_⟩⟩⟩⟩⟩
    exact ⟨rfl, _, _, rfl, Int.emod_nonneg _ (by decide), Int.emod_lt_of_pos _ (by decide)⟩
  · rintro σ H' ⟨rfl, st, y, rfl, s0, s1⟩
    -- return [list(script[:63]), 0, 0, stir, 0]
    have e1 : Same H (upd H c (.lst (ms.map V.int))) := grow nc
    refine ⟨_, rfl, _, rfl, .inl ⟨l, _, rfl, e1.seq hs, fun c2 n2 => ?_⟩⟩
    rw [em]
    refine ⟨c2, _, rfl, .inl (SqL.of upd_same), fun q nq => ⟨_, rfl, (by show 5 ≤ sizeLine; decide), fun p np => ?_⟩⟩
    have e2 := e1.trans (grow (o := .lst (ms.map V.int)) n2)
    have e3 := e2.trans (grow (o := .lst (ms.map V.int)) nq)
    have npq : q ≠ p := ne_of_none upd_same np
    refine ⟨p, q, rfl, 0, 0, st, 0, ⟨by decide, s0, s1⟩, upd_same, ?_⟩
    rw [upd_upd]
    refine k p _ (same_mut e3 (e3.free np)) ⟨q, ms, upd_same, ?_⟩
    rw [upd_ne npq, upd_same]
def spIsName (K : PySem.W.Frag) : Sp := sp1 fun a H Q => AnyV K H a ∧ Then H Q (.bl (nameB a))
theorem ok_is_name (T : Top K mg C_Open C_OpenTable A_OpenTable_reading) {f : Addr} {fd : FuncData} (F : Def K mg "is_name" s_is_name f fd) : FnOk P w K mg base C8.CX0 1 f fd ["value"] (spIsName K) := by
  refine fn1 F sc_is_name fun cdv A outer s H a Q E hr h => ?_
  have nd := sc_is_name.nd
  obtain ⟨ha, q⟩ := h
  refine ⟨_, (pss_cons 
      (ps_if (PW.pt (pw_or (pt_not (pt_val (pe_callB (isi_K (K := K) rfl) (by rfl) T.isinstance (by decide +kernel) (pa_cons (pv 0) (pa_cons (pe_bltn (v := .ty "str") (by rfl) T.str (by decide +kernel) rfl) pa_nil))))) (pw_or1 (pt_not (pt_chain op_leU op_leU pe_int (pe_callB (len_K (K := K) rfl) (by rfl) T.len (by decide +kernel) (pa_cons (pv 0) pa_nil)) (C8.pe_gc (v := .int 8) (by rfl) T.m_LETTERS)))))) (pss_one 
      (ps_ret pe_bl)) pss_nil) (pss_one 
      (ps_ret (pe_callB (all_K (K := K) rfl rfl) (by rfl) T.all (by decide +kernel) (pa_cons (pe_lc (own := [("letter", 1)]) rfl nd (pi_K (K := K) rfl (pv 0)) (blkOk_by (N := ["value", "letter"]) (sc := fnScope s_is_name) (by decide +kernel)) (fun _ _ _ _ _ => (pg_name (i := 1) nd rfl (Or.inl rfl))) (fun _ _ _ _ _ => pts_nil) (fun _ _ _ _ _ => (pe_chain op_leU op_leU pe_str (pv 1) pe_str))) pa_nil))))), ?_⟩
  rcases ha.strOr with ⟨z, rfl, hz⟩ | ⟨no, t, ty, kb⟩
  · refine ⟨_, rfl, .inl ⟨_, _, _, true, rfl, .base (.str z), by decide +kernel, _, rfl, ?_⟩⟩
    -- not 1 <= len(value) <= LETTERS
    refine iteF ⟨_, rfl, .inr ⟨z, rfl, size5' hz, .inl ⟨_, _, rfl, rfl, _, rfl, ite2 (fun h1 => ?_) (fun h1 => ?_)⟩⟩⟩
    · refine .inl ⟨_, _, rfl, rfl, _, rfl, ?_⟩
      by_cases h8 : (z.length : Int) ≤ 8
      · rw [decide_eq_true h8]
        refine iteF ?_
        -- all([..])
        refine ⟨_, rfl, .inr (.inr ⟨z, rfl, fun D hD => ?_⟩)⟩
        refine lc_map walk_str (fun i => .bl (letC (z.cps.toList.getD i 0))) ?_ (by show z.length ≤ 100000; exact hz) hD (fun _ _ => trivial) ?_ ?_
        · rintro i H x H' ⟨rfl, _⟩
          exact Same.refl _
        · rintro i x H1 H2 hi e ⟨rfl, c, hc, rfl⟩ R k
          have ec : z.cps.toList.getD i 0 = c := by
            rw [List.getD_eq_getElem?_getD, Array.getElem?_toList, hc]
            rfl
          have f97 : decide ((("a" : Str).cps.toList) ≤ [c]) = true → True := fun _ => trivial
          refine ⟨rfl, _, rfl, .inr ⟨_, _, rfl, rfl, _, rfl, ?_⟩⟩
          have k := k H2 (Same.refl _)
          rw [ec] at k
          show (if (!decide (#[c].toList < #[97].toList)) = true then _ else _)
          rw [lt1]
          by_cases h97 : c < 97
          · rw [decide_eq_true h97]
            refine iteF ?_
            rw [show letC c = false by unfold letC; rw [decide_eq_false (by omega)]; rfl] at k
            exact k
          · rw [decide_eq_false h97]
            refine iteT (.inr ⟨_, _, rfl, rfl, ?_⟩)
            show R (.bl (!decide (#[122].toList < #[c].toList))) H2
            rw [lt1, show (!decide (122 < c)) = letC c by unfold letC; rw [decide_eq_true (show 97 ≤ c by omega), ← decide_not, Bool.true_and]; exact decide_eq_decide.mpr (by omega)]
            exact k
        · intro H1 e hd
          rw [str_len] at hd
          have hd := hd.trans (congrArg (fun l => some (HO.lst l)) (map_range_get 0 (fun c => V.bl (letC c)) z.cps.toList))
          refine ⟨D, z.cps.toList.map letC, rfl, SqL.of (by rw [hd, List.map_map]; rfl), ?_⟩
          have k := q H1 e
          rw [show nameB (.str z) = (z.cps.toList.map letC).all id by
            show (decide (1 ≤ z.length) && decide (z.length ≤ 8) && z.cps.toList.all letC) = _
            have h1 := of_decide_eq_true h1
            rw [decide_eq_true (show 1 ≤ z.length by omega), decide_eq_true (show z.length ≤ 8 by omega), List.all_map]
            rfl] at k
          exact k
      · rw [decide_eq_false h8]
        refine iteT ?_
        have k := q.here
        rw [show nameB (.str z) = false by
          show (decide (1 ≤ z.length) && decide (z.length ≤ 8) && z.cps.toList.all letC) = _
          rw [decide_eq_false (show ¬ z.length ≤ 8 by omega), Bool.and_false, Bool.false_and]] at k
        exact k
    · refine ⟨_, rfl, iteT ?_⟩
      have h1 : ¬ (1 : Int) ≤ z.length := fun e => h1 (decide_eq_true e)
      have k := q.here
      rw [show nameB (.str z) = false by
        show (decide (1 ≤ z.length) && decide (z.length ≤ 8) && z.cps.toList.all letC) = _
        rw [decide_eq_false (show ¬ 1 ≤ z.length by omega), Bool.false_and, Bool.false_and]] at k
      exact k
  · refine ⟨_, rfl, .inl ⟨_, _, _, false, rfl, ty, kb, _, rfl, ?_⟩⟩
    have := q.here
    rw [nameB_no no] at this
    exact this
theorem c_is_name (T : Top K mg C_Open C_OpenTable A_OpenTable_reading) : Cal P w K mg base 1 "is_name" (spIsName K) [] := by
  obtain ⟨f, fd, F, df⟩ := T.d_is_name
  exact cal_of F df (ok_is_name T F) fun _ _ _ _ _ _ us hl => match us, hl with | [_], _ => rfl
def OpenAt (C : Addr) (H : Hp) (p : Addr) : Prop := ∃ dx fs, H p = some (.ins C dx fs) ∧ fs.lookup ("best" : Str) = none
def spOpenP (C : Addr) : Sp := sp2 fun a b H Q => ∃ (p dx : Addr), a = .ref p ∧ H p = some (.ins C dx []) ∧ b = .str "a" ∧
  ∀ H' : Hp, (∀ c o, H c = some o → c ≠ p → H' c = some o) → PlainO C H' p → Q .non H'
theorem c_Open___init__ (T : Top K mg C_Open C_OpenTable A_OpenTable_reading) : Mak P w K mg base 2 "Open" C_Open (spOpenP C_Open) [] := by
  obtain ⟨f, fd, me, F, df⟩ := T.d_Open___init__
  refine ⟨f, fd, ["self", "wish"], [], me, ?_, T.g_Open, F.binds df fun _ _ _ _ _ _ us hl => match us, hl with | [_, _], _ => rfl, .nil⟩
  refine fm2 F sc_Open___init__ fun cdv A outer s H a b Q E hr h => ?_
  have nd := sc_Open___init__.nd
  obtain ⟨p, dx, rfl, hp, rfl, k⟩ := h
  refine ⟨_, (pss_cons 
      (ps_if (pt_not (pt_val (pe_c (c_is_name T) hr (by decide) (by rfl) (pa_cons (pv 1) pa_nil)))) (pss_one 
      ps_never) pss_nil) (pss_cons 
      (ps_fld (pv 0) (pv 1) rfl) (pss_one 
      (ps_fld (pv 0) (pe_tup (pa_cons (pe_tup (pa_cons pe_int (pa_cons (pe_tup pa_nil) pa_nil))) pa_nil)) rfl)))), ?_⟩
  have n1 : nameB (.str "a") = true := by decide +kernel
  refine ⟨_, rfl, _, rfl, any_str (by decide +kernel), fun H1 e1 => ⟨_, rfl, ?_⟩⟩
  rw [n1]
  refine iteF ?_
  refine ⟨_, rfl, _, rfl, p, C_Open, dx, _, rfl, e1 _ _ hp, T.cl_Open, T.na_Open_wish, (by show 0 < 1000; decide), ?_⟩
  refine ⟨Nat.le_of_ble_eq_true rfl, fun t nt => ⟨Nat.le_of_ble_eq_true rfl, fun u nu => ⟨Nat.le_of_ble_eq_true rfl, fun v nv => ?_⟩⟩⟩
  have hp5 := (grow (o := .tup [.ref u]) nv) _ _ ((grow (o := .tup [.int 0, .ref t]) nu) _ _ ((grow (o := .tup []) nt) _ _ (upd_same (H := H1) (a := p) (o := .ins C_Open dx (putF "wish" (.str "a") [])))))
  refine ⟨_, rfl, p, C_Open, dx, _, rfl, hp5, T.cl_Open, T.na_Open_stay, (by show 1 < 1000; decide), ?_⟩
  refine k _ (fun c o e nc => ?_) ⟨dx, _, upd_same, two_no (by decide +kernel) (by decide +kernel), two_no (by decide +kernel) (by decide +kernel)⟩
  rw [upd_ne nc]
  refine (grow nv) _ _ ((grow nu) _ _ ((grow nt) _ _ ?_))
  rw [upd_ne nc]
  exact e1 _ _ e
def spDraw : Sp := sp2 fun a b H Q => ∃ (p : Addr) (n : Int), a = .ref p ∧ b = .int n ∧ BagAt H p ∧ 0 < n ∧ n.natAbs.log2 < 9000 ∧ ∀ d : Int, 0 ≤ d → d < n → Q (.int d) H
theorem c__law_draw (T : Top K mg C_Open C_OpenTable A_OpenTable_reading) : Cal P w K mg base 1 "_law_draw" spDraw [] := by
  obtain ⟨f, fd, F, df⟩ := T.d__law_draw
  refine cal_of F df (fn2 F sc__law_draw fun cdv A outer s H a b Q E hr h => ?_) fun _ _ _ _ _ _ us hl => match us, hl with | [_, _], _ => rfl
  have nd := sc__law_draw.nd
  obtain ⟨p, n, rfl, rfl, ⟨q, ns, hp, hq⟩, h0, h9, k⟩ := h
  have npq : q ≠ p := fun e => by
    rw [e, hp] at hq
    cases hq
  have hq' : ∀ L, upd H p (.lst L) q = some (.lst (ns.map V.int)) := fun L => by
    rw [upd_ne npq]
    exact hq
  refine ⟨_, pss_bag (pss_cons 
      (ps_asg (pe_op op_addU (pe_ix (ix_K (K := K) rfl) (pv 0) pe_int (fun _ _ => rfl)) pe_int) (pg_sub (pv 0) pe_int set_list)) (pss_cut 
      (ps_if (PW.pt (pw_and (pt_cmpR (eq_K (K := K) rfl hr) (pe_ix (ix_K (K := K) rfl) (pv 0) pe_int (fun _ _ => rfl)) pe_int (nomark _)) (pw_and1 (pt_cmpR (lt_K (K := K) rfl hr) (pe_ix (ix_K (K := K) rfl) (pv 0) pe_int (fun _ _ => rfl)) (pe_callB (len_K (K := K) rfl) (by rfl) T.len (by decide +kernel) (pa_cons (pe_ix (ix_K (K := K) rfl) (pv 0) pe_int (fun _ _ => rfl)) pa_nil)) (nomark _))))) (pss_cons 
      (ps_set (i := 2) nd rfl (Or.inl rfl) (pe_callTy call_int1 (by rfl) T.int (by decide +kernel) (pa_cons (pe_ix (ix_K (K := K) rfl) (pe_ix (ix_K (K := K) rfl) (pv 0) pe_int (fun _ _ => rfl)) (pe_ix (ix_K (K := K) rfl) (pv 0) pe_int (fun _ _ => rfl)) (fun _ _ => rfl)) pa_nil))) (pss_cons 
      (ps_asg (pe_op op_addU (pe_ix (ix_K (K := K) rfl) (pv 0) pe_int (fun _ _ => rfl)) pe_int) (pg_sub (pv 0) pe_int set_list)) (pss_one 
      (ps_if (pt_cmpR op_geU (pv 2) (pe_op op_pow pe_int pe_int) (nomark _)) (pss_one 
      (ps_asg (pv 2) (pg_sub (pv 0) pe_int set_list))) (pss_one 
      (ps_asg (pe_op op_mod (pe_callTy call_int1 (by rfl) T.int (by decide +kernel) (pa_cons (pe_op op_addU (pe_op op_addU (pe_op op_mul (pe_ix (ix_K (K := K) rfl) (pv 0) pe_int (fun _ _ => rfl)) pe_int) (pe_op op_mul (pe_op op_mod (pv 2) pe_int) pe_int)) pe_int) pa_nil)) pe_int) (pg_sub (pv 0) pe_int set_list))))))) pss_nil) (pss_cons 
      (ps_if (pt_cmpR op_gtU (pe_ix (ix_K (K := K) rfl) (pv 0) pe_int (fun _ _ => rfl)) pe_int (nomark _)) (pss_cons 
      (ps_set (i := 3) nd rfl (Or.inl rfl) (pe_op op_mod (pe_callTy call_int1 (by rfl) T.int (by decide +kernel) (pa_cons (pe_ix (ix_K (K := K) rfl) (pv 0) pe_int (fun _ _ => rfl)) pa_nil)) (pv 1))) (pss_cons 
      (ps_asg (pe_op op_fdivW (pe_ix (ix_K (K := K) rfl) (pv 0) pe_int (fun _ _ => rfl)) (pv 1)) (pg_sub (pv 0) pe_int set_list)) (pss_one 
      (ps_ret (pv 3))))) pss_nil) (pss_cons 
      (ps_asg (pe_op op_mod (pe_callTy call_int1 (by rfl) T.int (by decide +kernel) (pa_cons (pe_op op_addU (pe_op op_addU (pe_op op_pow (pe_ix (ix_K (K := K) rfl) (pv 0) pe_int (fun _ _ => rfl)) pe_int) (pe_op op_mul (pe_ix (ix_K (K := K) rfl) (pv 0) pe_int (fun _ _ => rfl)) pe_int)) pe_int) pa_nil)) pe_int) (pg_sub (pv 0) pe_int set_list)) (pss_one 
      (ps_ret (pe_op op_mod (pe_callTy call_int1 (by rfl) T.int (by decide +kernel) (pa_cons (pe_op op_addU (pe_op op_fdivW (pe_ix (ix_K (K := K) rfl) (pv 0) pe_int (fun _ _ => rfl)) pe_int) (pe_op op_mul (pe_op op_mod (pe_callTy call_int1 (by rfl) T.int (by decide +kernel) (pa_cons (pe_ix (ix_K (K := K) rfl) (pv 0) pe_int (fun _ _ => rfl)) pa_nil)) pe_int) pe_int)) pa_nil)) (pv 1)))))))), ?_⟩
  refine ⟨p, q, hp, fun i c st t bk => ?_⟩
  obtain ⟨bi, b0, b1⟩ := id bk
  have md : ∀ x m : Int, 0 < m → m < 2147483629 → 0 ≤ x % m ∧ x % m < 2147483629 := fun x m h1 h2 =>
    ⟨Int.emod_nonneg _ (by omega), Int.lt_trans (Int.emod_lt_of_pos _ h1) h2⟩
  -- bag[4] = bag[4] + 1
  refine ⟨_, rfl, rd_bag rfl (.inl ⟨_, _, rfl, rfl, ⟨_, rfl, set_bag rfl ?_⟩⟩)⟩
  -- behind the first if: a bag, whatever it holds
  refine ⟨fun σ H' => ∃ i c st t y, BagOk i st ∧ H' = upd H p (.lst (bagL q i c st t)) ∧ σ = [some (.ref p), some (.int n), y, none], ?_, ?_⟩
  -- if bag[2] == 0 and ..
  · refine ⟨_, rfl, rd_bag rfl (.inl ⟨rfl, _, rfl, ite2 (fun ec => ?_) (fun ec => ?_)⟩)⟩
    · refine ⟨_, rfl, rd_bag rfl ⟨_, rfl, rd_bag rfl (.inl ⟨q, _, rfl, .inl (SqL.of (hq' _)), .inl ⟨_, _, rfl, rfl, _, rfl, ite2 (fun ei => ?_) (fun ei => ?_)⟩⟩)⟩⟩
      · have ei := of_decide_eq_true ei
        rw [List.length_map] at ei
        obtain ⟨j, rfl⟩ := Int.eq_ofNat_of_zero_le bi
        have hj : j < ns.length := by omega
        have gj : atI (ns.map V.int) (j : Int) = some (.int ns[j]) := atI_nat (by rw [List.getElem?_map, List.getElem?_eq_getElem hj]; rfl)
        -- lump = int(bag[0][bag[1]]); bag[1] = bag[1] + 1
        refine ⟨_, rfl, rd_bag rfl ⟨_, rfl, rd_bag rfl (.inl ⟨q, _, _, _, rfl, rfl, SqL.of (hq' _), gj, .inl ⟨_, rfl, ?_⟩⟩)⟩⟩
        refine ⟨_, rfl, rd_bag rfl (.inl ⟨_, _, rfl, rfl, ⟨_, rfl, set_bag rfl ?_⟩⟩)⟩
        refine ⟨_, rfl, _, _, rfl, rfl, ⟨by decide, by decide, by decide⟩, _, _, rfl, rfl, _, rfl, ite2 (fun el => ?_) (fun el => ?_)⟩
        · refine ⟨_, rfl, _, rfl, set_bag rfl ?_⟩
          exact ⟨(j : Int) + 1, ns[j], st, t + 1, _, ⟨by omega, b0, b1⟩, rfl, rfl⟩
        · refine ⟨_, rfl, rd_bag rfl ⟨_, _, rfl, rfl, .inr ⟨by decide, by decide⟩, _, rfl, _, _, rfl, rfl, (by show (0 : Int) < _; decide), _, _, rfl, rfl, .inr ⟨by decide, by decide⟩, .inl ⟨_, _, rfl, rfl, .inl ⟨_, _, rfl, rfl, .inl ⟨_, rfl, _, _, rfl, rfl, (by show (0 : Int) < _; decide), _, rfl, set_bag rfl ?_⟩⟩⟩⟩⟩
          obtain ⟨m1, m2⟩ := md (st * 69621 + ns[j] % 2147483549 * 271 + 97) 2147483579 (by decide) (by decide)
          exact ⟨(j : Int) + 1, c, _, t + 1, _, ⟨by omega, m1, m2⟩, rfl, rfl⟩
      · exact ⟨i, c, st, t + 1, _, bk, rfl, rfl⟩
    · exact iteF ⟨i, c, st, t + 1, _, bk, rfl, rfl⟩
  · rintro σ H' ⟨i, c, st, t, y, ⟨bi, b0, b1⟩, rfl, rfl⟩
    -- if bag[2] > 0
    refine ⟨_, rfl, rd_bag rfl ⟨_, _, rfl, rfl, _, rfl, ite2 (fun ec => ?_) (fun ec => ?_)⟩⟩
    · refine ⟨_, rfl, rd_bag rfl (.inl ⟨_, rfl, _, rfl, _, _, rfl, rfl, h0, ?_⟩)⟩
      refine ⟨_, rfl, rd_bag rfl ⟨_, rfl, _, _, rfl, rfl, ⟨h0, h9⟩, _, rfl, set_bag rfl ?_⟩⟩
      exact ⟨_, rfl, shut_bag hp ⟨bi, b0, b1⟩ (k _ (Int.emod_nonneg _ (by omega)) (Int.emod_lt_of_pos _ h0))⟩
    · refine ⟨_, rfl, rd_bag rfl ⟨_, _, rfl, rfl, ⟨by decide, by decide, by omega⟩, _, rfl, rd_bag rfl ⟨_, _, rfl, rfl, .inr ⟨by decide, by decide⟩, .inl ⟨_, _, rfl, rfl, .inl ⟨_, _, rfl, rfl, .inl ⟨_, rfl, _, _, rfl, rfl, (by show (0 : Int) < _; decide), _, rfl, set_bag rfl ?_⟩⟩⟩⟩⟩⟩
      obtain ⟨m1, m2⟩ := md (st ^ (3 : Int).toNat + t * 1299709 + 60013) 2147483579 (by decide) (by decide)
      refine ⟨_, rfl, rd_bag rfl ⟨_, _, rfl, rfl, ⟨by decide, by decide⟩, _, rfl, rd_bag rfl (.inl ⟨_, rfl, _, _, rfl, rfl, (by show (0 : Int) < _; decide), _, _, rfl, rfl, .inr ⟨by decide, by decide⟩, .inl ⟨_, _, rfl, rfl, .inl ⟨_, rfl, _, rfl, _, _, rfl, rfl, h0, ?_⟩⟩⟩)⟩⟩
      exact shut_bag hp ⟨bi, m1, m2⟩ (k _ (Int.emod_nonneg _ (by omega)) (Int.emod_lt_of_pos _ h0))
def spOf (K : PySem.W.Frag) : Sp := sp2 fun a b H Q => ∃ (p : Addr), a = .ref p ∧ BagAt H p ∧
  ((∃ (l : Addr) (xs : List V), b = .ref l ∧ (SqL K H l xs ∨ SqT K H l xs) ∧ 0 < xs.length ∧ xs.length ≤ 100000 ∧ ∀ x ∈ xs, Q x H) ∨
    ∃ z : Str, b = .str z ∧ 0 < z.length ∧ z.length ≤ 100000 ∧ ∀ c ∈ z.cps.toList, Q (.str ⟨#[c]⟩) H)
theorem c__law_of (T : Top K mg C_Open C_OpenTable A_OpenTable_reading) : Cal P w K mg base 2 "_law_of" (spOf K) [] := by
  obtain ⟨f, fd, F, df⟩ := T.d__law_of
  refine cal_of F df (fn2 F sc__law_of fun cdv A outer s H a b Q E hr h => ?_) fun _ _ _ _ _ _ us hl => match us, hl with | [_, _], _ => rfl
  have nd := sc__law_of.nd
  obtain ⟨p, rfl, hb, h⟩ := h
  refine ⟨_, (pss_one 
      (ps_ret (pe_ix (ix_K (K := K) rfl) (pv 1) (pe_c (c__law_draw T) hr (by decide) (by rfl) (pa_cons (pv 0) (pa_cons (pe_callB (len_K (K := K) rfl) (by rfl) T.len (by decide +kernel) (pa_cons (pv 1) pa_nil)) pa_nil))) (fun _ _ => rfl)))), ?_⟩
  rcases h with ⟨l, xs, rfl, hs, h0, h1, q⟩ | ⟨z, rfl, h0, h1, q⟩
  · refine ⟨_, rfl, _, rfl, _, rfl, .inl ⟨l, xs, rfl, hs, _, _, rfl, p, _, rfl, rfl, hb, by omega, small_log (by omega) (by omega), fun d d0 d1 => ?_⟩⟩
    obtain ⟨j, rfl⟩ := Int.eq_ofNat_of_zero_le d0
    have hj : j < xs.length := by omega
    have g : atI xs (j : Int) = some xs[j] := atI_nat (List.getElem?_eq_getElem hj)
    have k := q _ (List.getElem_mem hj)
    rcases hs with hs | hs
    · exact .inl ⟨l, xs, _, _, rfl, rfl, hs, g, k⟩
    · exact .inr (.inl ⟨l, xs, _, _, rfl, rfl, hs, g, k⟩)
  · refine ⟨_, rfl, _, rfl, _, rfl, .inr ⟨z, rfl, size5' h1, _, _, rfl, p, _, rfl, rfl, hb, by omega, small_log (by omega) (by omega), fun d d0 d1 => ?_⟩⟩
    obtain ⟨j, rfl⟩ := Int.eq_ofNat_of_zero_le d0
    have hj : j < z.cps.toList.length := by
      have : z.length = z.cps.size := rfl
      rw [← str_len]
      omega
    exact .inr (.inr ⟨z, _, _, rfl, rfl, size5' h1, atI_nat (List.getElem?_eq_getElem hj), q _ (List.getElem_mem hj)⟩)
def spTree (K : PySem.W.Frag) (n : Nat) : Sp := sp2 fun a b H Q => ∃ (p : Addr) (m : Int), a = .ref p ∧ BagAt H p ∧ b = .int m ∧ 0 ≤ m ∧ m < n ∧ m ≤ 4 ∧ ∀ (H' : Hp) (v : V) (t : Tr), Same H H' → Dp K H' v t.dat → t.ok → (t.lvs : Int) = m + 1 → Q v H'
theorem c__law_tree_n (T : Top K mg C_Open C_OpenTable A_OpenTable_reading) : ∀ n, Cal P w K mg base (n + 3) "_law_tree" (spTree K n) []
  | 0 => by
    obtain ⟨f, fd, F, df⟩ := T.d__law_tree
    refine cal_of F df (fn2 F sc__law_tree fun cdv A outer s H a b Q E hr h => ?_) fun _ _ _ _ _ _ us hl => match us, hl with | [_, _], _ => rfl
    obtain ⟨p, m, rfl, hb, rfl, m0, m1, _⟩ := h
    omega
  | n + 1 => by
    have ih := @c__law_tree_n T n
    obtain ⟨f, fd, F, df⟩ := T.d__law_tree
    refine cal_of F df (fn2 F sc__law_tree fun cdv A outer s H a b Q E hr h => ?_) fun _ _ _ _ _ _ us hl => match us, hl with | [_, _], _ => rfl
    have nd := sc__law_tree.nd
    obtain ⟨p, m, rfl, hb, rfl, m0, m1, m4, k⟩ := h
    refine ⟨_, (pss_cons 
      (ps_if (pt_cmpR (eq_K (K := K) rfl hr) (pv 1) pe_int (nomark _)) (pss_one 
      (ps_ret (pe_c (c__law_draw T) hr (by omega) (by rfl) (pa_cons (pv 0) (pa_cons pe_int pa_nil))))) pss_nil) (pss_cons 
      (ps_set (i := 2) nd rfl (Or.inl rfl) (pe_c (c__law_draw T) hr (by omega) (by rfl) (pa_cons (pv 0) (pa_cons (pv 1) pa_nil)))) (pss_one 
      (ps_ret (pe_tup (pa_cons (pe_c (c__law_of T) hr (by omega) (by rfl) (pa_cons (pv 0) (pa_cons (pe_lst (pa_cons pe_str (pa_cons pe_str pa_nil))) pa_nil))) (pa_cons (pe_c ih hr (Nat.le_refl _) (by rfl) (pa_cons (pv 0) (pa_cons (pv 2) pa_nil))) (pa_cons (pe_c ih hr (Nat.le_refl _) (by rfl) (pa_cons (pv 0) (pa_cons (pe_op op_sub (pe_op op_sub (pv 1) pe_int) (pv 2)) pa_nil))) pa_nil)))))))), ?_⟩
    refine ⟨_, rfl, .inl ⟨rfl, _, rfl, ?_⟩⟩
    by_cases z : m = 0
    · subst z
      refine iteT ⟨_, rfl, _, _, rfl, p, 3, rfl, rfl, hb, by decide, small_log (by decide) (by decide), fun d d0 d1 => ?_⟩
      obtain ⟨j, rfl⟩ := Int.eq_ofNat_of_zero_le d0
      exact k _ _ (.leaf j) (Same.refl _) (leaf_tr j) (by show j < 3; omega) rfl
    · rw [show decide (V.int m = V.int 0) = false from decide_eq_false fun e => z (V.int.inj e)]
      refine iteF ⟨_, rfl, _, rfl, _, _, rfl, p, m, rfl, rfl, hb, by omega, small_log (by omega) (by omega), fun l l0 l1 => ?_⟩
      refine ⟨_, rfl, Nat.le_of_ble_eq_true rfl, fun c nc => ?_⟩
      have e1 := grow (o := .lst [.str "best", .str "then"]) nc
      refine ⟨_, _, rfl, p, rfl, hb.mono e1, .inl ⟨c, _, rfl, .inl (SqL.of upd_same), Nat.le_of_ble_eq_true rfl, Nat.le_of_ble_eq_true rfl, fun x hx => ?_⟩⟩
      obtain ⟨b, rfl⟩ : ∃ b : Bool, x = .str (if b = true then "best" else "then") := by
        simp only [List.mem_cons, List.not_mem_nil, or_false] at hx
        rcases hx with rfl | rfl
        · exact ⟨true, rfl⟩
        · exact ⟨false, rfl⟩
      have hb1 := hb.mono e1
      generalize upd H c _ = H1 at e1 hb1
      refine ⟨_, rfl, _, rfl, _, _, rfl, p, l, rfl, hb1, rfl, l0, by omega, by omega, fun H2 v1 t1 e2 d1 o1 s1 => ?_⟩
      refine ⟨_, rfl, _, rfl, _, _, rfl, rfl, _, rfl, _, _, rfl, rfl, _, _, rfl, p, m - 1 - l, rfl, hb1.mono e2, rfl, by omega, by omega, by omega, fun H3 v2 t2 e3 d2 o2 s2 => ?_⟩
      refine ⟨Nat.le_of_ble_eq_true rfl, fun A1 nA => ?_⟩
      have e4 := grow (o := .tup [.str (if b = true then "best" else "then"), v1, v2]) nA
      refine k _ _ (.node b t1 t2) (e1.trans (e2.trans (e3.trans e4))) (node_tr (SqT.of upd_same) (dp_mono (e3.trans e4) _ d1) (dp_mono e4 _ d2)) ⟨o1, o2⟩ ?_
      show ((t1.lvs + t2.lvs : Nat) : Int) = m + 1
      omega
theorem c__law_tree (T : Top K mg C_Open C_OpenTable A_OpenTable_reading) : Cal P w K mg base 8 "_law_tree" (spTree K 5) [] := c__law_tree_n T 5
def spJoin (K : PySem.W.Frag) (n : Nat) : Sp := sp1 fun a H Q => ∃ t : Tr, Dp K H a t.dat ∧ t.lvs ≤ n ∧ n ≤ 1000 ∧ ∀ i : Int, 0 ≤ i → (1 ≤ i → 2 ≤ t.lvs) → i + 1 ≤ t.lvs → Q (.int i) H
theorem c__law_joinings_n (T : Top K mg C_Open C_OpenTable A_OpenTable_reading) : ∀ n, Cal P w K mg base (n + 1) "_law_joinings" (spJoin K n) []
  | 0 => by
    obtain ⟨f, fd, F, df⟩ := T.d__law_joinings
    refine cal_of F df (fn1 F sc__law_joinings fun cdv A outer s H a Q E hr h => ?_) fun _ _ _ _ _ _ us hl => match us, hl with | [_], _ => rfl
    obtain ⟨t, _, lt, _⟩ := h
    have := t.pos
    omega
  | n + 1 => by
    have ih := @c__law_joinings_n T n
    obtain ⟨f, fd, F, df⟩ := T.d__law_joinings
    refine cal_of F df (fn1 F sc__law_joinings fun cdv A outer s H a Q E hr h => ?_) fun _ _ _ _ _ _ us hl => match us, hl with | [_], _ => rfl
    have nd := sc__law_joinings.nd
    obtain ⟨t, ht, lt, ln, k⟩ := h
    refine ⟨_, (pss_cons 
      (ps_if (pt_val (pe_callB (isi_K (K := K) rfl) (by rfl) T.isinstance (by decide +kernel) (pa_cons (pv 0) (pa_cons (pe_bltn (v := .ty "int") (by rfl) T.int (by decide +kernel) rfl) pa_nil)))) (pss_one 
      (ps_ret pe_int)) pss_nil) (pss_one 
      (ps_ret (pe_op op_addU (pe_op op_addU (pe_callTy call_int1 (by rfl) T.int (by decide +kernel) (pa_cons (pe_cmpR (eq_K (K := K) rfl hr) (pe_ix (ix_K (K := K) rfl) (pv 0) pe_int (fun _ _ => rfl)) pe_str (nomark _)) pa_nil)) (pe_c ih hr (Nat.le_refl _) (by rfl) (pa_cons (pe_ix (ix_K (K := K) rfl) (pv 0) pe_int (fun _ _ => rfl)) pa_nil))) (pe_c ih hr (Nat.le_refl _) (by rfl) (pa_cons (pe_ix (ix_K (K := K) rfl) (pv 0) pe_int (fun _ _ => rfl)) pa_nil)))))), ?_⟩
    cases t with
    | leaf j =>
      cases tr_leaf ht
      refine ⟨_, rfl, .inl ⟨_, _, _, true, rfl, .base (.int _), by decide +kernel, _, rfl, iteT ?_⟩⟩
      exact k 0 (by decide) (fun h => absurd h (by decide)) (by show (0 : Int) + 1 ≤ ((1 : Nat) : Int); decide)
    | node b l r =>
      obtain ⟨A1, x, y, rfl, sA, d1, d2⟩ := tr_node ht
      have p1 := l.pos
      have p2 := r.pos
      have lt : l.lvs + r.lvs ≤ n + 1 := lt
      refine ⟨_, rfl, .inl ⟨_, _, _, false, rfl, sqt_ty sA, by decide +kernel, _, rfl, iteF ?_⟩⟩
      refine ⟨_, rfl, .inr (.inl ⟨A1, _, _, _, rfl, rfl, sA, at0, .inl ⟨rfl, ?_⟩⟩)⟩
      refine .inr ⟨_, rfl, ?_⟩
      refine ⟨_, rfl, .inr (.inl ⟨A1, _, _, _, rfl, rfl, sA, at1, ?_⟩)⟩
      refine ⟨_, rfl, l, d1, by omega, by omega, fun i i0 i1 i2 => ?_⟩
      refine .inl ⟨_, _, rfl, rfl, ?_⟩
      refine ⟨_, rfl, .inr (.inl ⟨A1, _, _, _, rfl, rfl, sA, at2, ?_⟩)⟩
      refine ⟨_, rfl, r, d2, by omega, by omega, fun j j0 j1 j2 => ?_⟩
      refine .inl ⟨_, _, rfl, rfl, ?_⟩
      have s2 : (Tr.node b l r).lvs = l.lvs + r.lvs := rfl
      refine k _ ?_ (fun _ => by omega) ?_ <;> (split <;> omega)
theorem c__law_joinings (T : Top K mg C_Open C_OpenTable A_OpenTable_reading) : Cal P w K mg base 7 "_law_joinings" (spJoin K 6) [] := c__law_joinings_n T 6
def spSmall (K : PySem.W.Frag) : Sp := sp1 fun a H Q => ∃ (p : Addr), a = .ref p ∧ BagAt H p ∧ ∀ (H' : Hp) (v : V) (t : Tr), Same H H' → Dp K H' v t.dat → t.ok → t.lvs ≤ 5 → Q v H'
theorem c__law_small_tree (T : Top K mg C_Open C_OpenTable A_OpenTable_reading) : Cal P w K mg base 9 "_law_small_tree" (spSmall K) [] := by
  obtain ⟨f, fd, F, df⟩ := T.d__law_small_tree
  refine cal_of F df (fn1 F sc__law_small_tree fun cdv A outer s H a Q E hr h => ?_) fun _ _ _ _ _ _ us hl => match us, hl with | [_], _ => rfl
  have nd := sc__law_small_tree.nd
  obtain ⟨p, rfl, hb, k⟩ := h
  refine ⟨_, (pss_cons 
      (ps_set (i := 1) nd rfl (Or.inl rfl) (pe_c (c__law_tree T) hr (by decide) (by rfl) (pa_cons (pv 0) (pa_cons (pe_op op_addU pe_int (pe_c (c__law_draw T) hr (by decide) (by rfl) (pa_cons (pv 0) (pa_cons pe_int pa_nil)))) pa_nil)))) (pss_cons 
      (ps_if (pt_cmpR (lt_K (K := K) rfl hr) (pe_c (c__law_joinings T) hr (by decide) (by rfl) (pa_cons (pv 1) pa_nil)) pe_int (nomark _)) (pss_one 
      (ps_ret (pv 1))) pss_nil) (pss_one 
      (ps_ret (pe_ifExp (pt_cmpR (lt_K (K := K) rfl hr) (pe_c (c__law_joinings T) hr (by decide) (by rfl) (pa_cons (pe_ix (ix_K (K := K) rfl) (pv 1) pe_int (fun _ _ => rfl)) pa_nil)) pe_int (nomark _)) (pe_tup (pa_cons pe_str (pa_cons (pe_ix (ix_K (K := K) rfl) (pv 1) pe_int (fun _ _ => rfl)) (pa_cons pe_int pa_nil)))) (pe_tup (pa_cons pe_str (pa_cons (pe_tup (pa_cons pe_str (pa_cons pe_int (pa_cons pe_int pa_nil)))) (pa_cons pe_int pa_nil))))))))), ?_⟩
  refine ⟨_, rfl, _, rfl, _, _, rfl, p, 4, rfl, rfl, hb, by decide, small_log (by decide) (by decide), fun d d0 d1 => .inl ⟨_, _, rfl, rfl, _, _, rfl, p, 1 + d, rfl, hb, rfl, by omega, by omega, by omega, fun H1 v t e1 dt to ls => ?_⟩⟩
  refine ⟨_, rfl, _, rfl, t, dt, by omega, by decide, fun i i0 i1 i2 => .inl ⟨_, _, rfl, rfl, _, rfl, ite2 (fun c1 => ?_) (fun c1 => ?_)⟩⟩
  · exact ⟨_, rfl, k H1 v t e1 dt to (by omega)⟩
  · have c1 : ¬ i < 3 := fun e => c1 (decide_eq_true e)
    cases t with
    | leaf j =>
      have i2 : i + 1 ≤ ((1 : Nat) : Int) := i2
      omega
    | node b l r =>
      obtain ⟨A1, x, y, rfl, sA, d1, d2⟩ := tr_node dt
      have p1 := l.pos
      have p2 := r.pos
      have ls : ((l.lvs + r.lvs : Nat) : Int) = 1 + d + 1 := ls
      refine ⟨_, rfl, .inr (.inl ⟨A1, _, _, _, rfl, rfl, sA, at1, _, rfl, l, d1, by omega, by decide, fun j j0 j1 j2 => .inl ⟨_, _, rfl, rfl, _, rfl, ite2 (fun c2 => ?_) (fun c2 => ?_)⟩⟩)⟩
      · refine ⟨_, rfl, .inr (.inl ⟨A1, _, _, _, rfl, rfl, sA, at1, Nat.le_of_ble_eq_true rfl, fun c nc => ?_⟩)⟩
        have e2 := grow (o := .tup [.str "best", x, .int 0]) nc
        exact k _ _ (.node true l (.leaf 0)) (e1.trans e2) (node_tr (SqT.of upd_same) (dp_mono e2 _ d1) (leaf_tr 0)) ⟨to.1, by show 0 < 3; decide⟩ (by show l.lvs + 1 ≤ 5; omega)
      · refine ⟨Nat.le_of_ble_eq_true rfl, fun c1 nc1 => ⟨Nat.le_of_ble_eq_true rfl, fun c2 nc2 => ?_⟩⟩
        have e2 := grow (o := .tup [.str "best", .int 0, .int 1]) nc1
        have e3 := grow (o := .tup [.str "then", .ref c1, .int 2]) nc2
        exact k _ _ (.node false (.node true (.leaf 0) (.leaf 1)) (.leaf 2)) (e1.trans (e2.trans e3)) (node_tr (SqT.of upd_same) (node_tr (same_tup e3 (SqT.of upd_same)) (leaf_tr 0) (leaf_tr 1)) (leaf_tr 2)) ⟨⟨by show 0 < 3; decide, by show 1 < 3; decide⟩, by show 2 < 3; decide⟩ (by decide)
def spCovers (K : PySem.W.Frag) : Sp := sp2 fun a b H Q => ∃ x y : OpR, RowV K H a x ∧ RowV K H b y ∧ x.2.length ≤ 100000 ∧ Then H Q (.bl (covM x y))
theorem ok_covers (T : Top K mg C_Open C_OpenTable A_OpenTable_reading) {f : Addr} {fd : FuncData} (F : Def K mg "covers" s_covers f fd) : FnOk P w K mg base C8.CX0 1 f fd ["one", "other"] (spCovers K) := by
  refine fn2 F sc_covers fun cdv A outer s H a b Q E hr h => ?_
  have nd := sc_covers.nd
  obtain ⟨x, y, ⟨A1, B1, rfl, a1, b1⟩, ⟨A2, B2, rfl, a2, b2⟩, hl, q⟩ := h
  have lx : (x.2.map V.str).length = x.2.length := List.length_map ..
  refine ⟨_, (pss_cons 
      (ps_if (pt_cmpR op_gtU (pe_ix (ix_K (K := K) rfl) (pv 0) pe_int (fun _ _ => rfl)) (pe_ix (ix_K (K := K) rfl) (pv 1) pe_int (fun _ _ => rfl)) (nomark _)) (pss_one 
      (ps_ret pe_bl)) pss_nil) (pss_cons 
      (ps_for PassesOwn.never rfl (pi_K (K := K) rfl (pe_ix (ix_K (K := K) rfl) (pv 0) pe_int (fun _ _ => rfl))) (pg_name (i := 2) nd rfl (Or.inl rfl)) (pss_one 
      (ps_if (pt_cmpR op_gtU (pe_tm PySem.F.slot_tuple_count PySem.F.type_tuple_count (mt_countS (K := K) rfl (room_cnt hr)) (pe_ix (ix_K (K := K) rfl) (pv 0) pe_int (fun _ _ => rfl)) (pa_cons (pv 2) pa_nil)) (pe_tm PySem.F.slot_tuple_count PySem.F.type_tuple_count (mt_countS (K := K) rfl (room_cnt hr)) (pe_ix (ix_K (K := K) rfl) (pv 1) pe_int (fun _ _ => rfl)) (pa_cons (pv 2) pa_nil)) (nomark _)) (pss_one 
      (ps_ret pe_bl)) pss_nil))) (pss_one 
      (ps_ret pe_bl)))), ?_⟩
  refine ⟨_, rfl, .inr (.inl ⟨A1, _, _, _, rfl, rfl, a1, at0, _, rfl, .inr (.inl ⟨A2, _, _, _, rfl, rfl, a2, at0, ⟨_, _, rfl, rfl, _, rfl, ?_⟩⟩)⟩)⟩
  refine ite2 (fun h => ?_) fun h => ?_
  · have h := of_decide_eq_true h
    have e1 : covM x y = false := by
      unfold covM
      rw [decide_eq_false (by omega)]
      rfl
    rw [e1] at q
    exact q _ (Same.refl _)
  · have h : ¬ y.1 < x.1 := fun z => h (decide_eq_true z)
    refine ⟨_, rfl, .inr (.inl ⟨A1, _, _, _, rfl, rfl, a1, at1, ?_⟩)⟩
    refine .inr (.inl ⟨B1, rfl, ⟨_, b1.sq⟩, ?_⟩)
    refine for_it (walk_tup (xs := x.2.map V.str)) (fun i σ H' => Same H H' ∧ (∀ z ∈ x.2.take i, cnt z x.2 ≤ cnt z y.2) ∧ ∃ y2, σ = [some (.ref A1), some (.ref A2), y2]) ⟨Same.refl _, (fun z m => by simp at m), _, rfl⟩ (fun i σ H' _ ⟨e, _⟩ => same_tup e b1.sq) ?_ ?_
    · rintro i v σ H1 H2 hi ⟨e, hj, y2, rfl⟩ ⟨rfl, g⟩
      obtain ⟨z, gz, rfl⟩ := str_get g
      refine ⟨_, rfl, .inr (.inl ⟨A1, _, _, _, rfl, rfl, same_tup e a1, at1, ⟨_, _, rfl, b1.mono e⟩, _, rfl, B1, _, _, rfl, rfl, (b1.mono e).sq, ?_⟩)⟩
      refine ⟨_, rfl, .inr (.inl ⟨A2, _, _, _, rfl, rfl, same_tup e a2, at1, ⟨_, _, rfl, b2.mono e⟩, _, rfl, B2, _, _, rfl, rfl, (b2.mono e).sq, ?_⟩)⟩
      refine ⟨_, _, rfl, rfl, _, rfl, ite2 (fun h => ?_) fun h => ?_⟩
      · have h := of_decide_eq_true h
        have e1 : covM x y = false := by
          cases e2 : covM x y with
          | false => rfl
          | true =>
            have := of_decide_eq_true (List.all_eq_true.mp (Bool.and_eq_true .. ▸ e2).2 z (List.mem_of_getElem? gz))
            omega
        rw [e1] at q
        exact q _ e
      · have h : ¬ _ := fun z => h (decide_eq_true z)
        refine ⟨e, fun u m => ?_, _, rfl⟩
        rw [take_next gz] at m
        rcases List.mem_append.mp m with m | m
        · exact hj u m
        · cases List.mem_singleton.mp m
          omega
    · rintro σ H1 ⟨e, hj, y2, rfl⟩
      have e1 : covM x y = true := by
        unfold covM
        rw [decide_eq_true (by omega), Bool.true_and]
        refine List.all_eq_true.mpr fun z m => decide_eq_true (hj z ?_)
        rw [lx, List.take_length]
        exact m
      rw [e1] at q
      exact q _ e
theorem c_covers (T : Top K mg C_Open C_OpenTable A_OpenTable_reading) : Cal P w K mg base 1 "covers" (spCovers K) [] := by
  obtain ⟨f, fd, F, df⟩ := T.d_covers
  exact cal_of F df (ok_covers T F) fun _ _ _ _ _ _ us hl => match us, hl with | [_, _], _ => rfl
def spAnyCovers (K : PySem.W.Frag) : Sp := sp2 fun a b H Q => ∃ (R : Addr) (xs : List V) (rs : List OpR) (r : OpR), a = .ref R ∧ SqL K H R xs ∧ RowsO K H xs rs ∧ RowV K H b r ∧ (∀ o ∈ rs, o.2.length ≤ 100000) ∧ Then H Q (.bl (rs.any fun o => covM o r))
theorem c_any_covers (T : Top K mg C_Open C_OpenTable A_OpenTable_reading) : Cal P w K mg base 2 "any_covers" (spAnyCovers K) [] := by
  obtain ⟨f, fd, F, df⟩ := T.d_any_covers
  refine cal_of F df (fn2 F sc_any_covers fun cdv A outer s H a b Q E hr h => ?_) fun _ _ _ _ _ _ us hl => match us, hl with | [_, _], _ => rfl
  have nd := sc_any_covers.nd
  obtain ⟨R, xs, rs, r, rfl, hs, hx, hr', hw, q⟩ := h
  refine ⟨_, (pss_cons 
      (ps_for PassesOwn.never rfl (pi_K (K := K) rfl (pv 0)) (pg_name (i := 2) nd rfl (Or.inl rfl)) (pss_one 
      (ps_if (pt_val (pe_c (c_covers T) hr (by decide) (by rfl) (pa_cons (pv 2) (pa_cons (pv 1) pa_nil)))) (pss_one 
      (ps_ret pe_bl)) pss_nil))) (pss_one 
      (ps_ret pe_bl))), ?_⟩
  refine ⟨_, rfl, .inl ⟨R, rfl, ⟨_, hs⟩, ?_⟩⟩
  refine for_it (walk_list (xs := xs)) (fun i σ H' => Same H H' ∧ (∀ o ∈ rs.take i, covM o r = false) ∧ ∃ y2, σ = [some (.ref R), some b, y2]) ⟨Same.refl _, (fun z m => by simp at m), _, rfl⟩ (fun i σ H' _ ⟨e, _⟩ => e.seq hs) ?_ ?_
  · rintro i x σ H1 H2 hi ⟨e, hj, y2, rfl⟩ ⟨rfl, g⟩
    obtain ⟨o, go, ro⟩ := hx.get g
    refine ⟨_, rfl, _, rfl, _, _, rfl, o, r, ro.mono e, hr'.mono e, hw o (List.mem_of_getElem? go), fun H3 e3 => ⟨_, rfl, ?_⟩⟩
    cases c : covM o r with
    | true =>
      refine iteT ?_
      rw [show (rs.any fun o => covM o r) = true from List.any_eq_true.mpr ⟨o, List.mem_of_getElem? go, c⟩] at q
      exact q _ (e.trans e3)
    | false =>
      refine iteF ⟨e.trans e3, fun u m => ?_, _, rfl⟩
      rw [take_next go] at m
      rcases List.mem_append.mp m with m | m
      · exact hj u m
      · cases List.mem_singleton.mp m
        exact c
  · rintro σ H1 ⟨e, hj, y2, rfl⟩
    have e1 : (rs.any fun o => covM o r) = false := by
      rw [List.any_eq_false]
      intro o m
      rw [hj o ?_]
      · exact Bool.false_ne_true
      · rw [hx.len, List.take_length]
        exact m
    rw [e1] at q
    exact q _ e
def spThinOpen (K : PySem.W.Frag) : Sp := sp1 fun a H Q => ∃ (R : Addr) (ps : List (V × OpR)), a = .ref R ∧ (SqL K H R (ps.map Prod.fst) ∨ SqT K H R (ps.map Prod.fst)) ∧ (∀ p ∈ ps, OpenV K H p.1 p.2) ∧ ps.length ≤ 60000 ∧ (∀ p ∈ ps, p.2.2.length ≤ 60000) ∧
  ∀ H' v, Same H H' → ((opnM (ps.map Prod.snd) = [] ∧ v = .non) ∨ opnM (ps.map Prod.snd) ≠ [] ∧ ∃ D ys, v = .ref D ∧ H' D = some (.tup ys) ∧ RowsO K H' ys (outM (ps.map Prod.snd))) → Q v H'
theorem ok_thin_open (T : Top K mg C_Open C_OpenTable A_OpenTable_reading) {f : Addr} {fd : FuncData} (F : Def K mg "thin_open" s_thin_open f fd) : FnOk P w K mg base C8.CX0 3 f fd ["rows"] (spThinOpen K) := by
  refine fn1 F sc_thin_open fun cdv A outer s H a Q E hr h => ?_
  have nd := sc_thin_open.nd
  obtain ⟨R, ps, rfl, hs, hp, hl, hw, k⟩ := h
  refine ⟨_, (pss_cut 
      (ps_setLc (i := 1) (own := [("price", 3), ("lot", 5)]) rfl nd rfl rfl (sw_true rfl rfl rfl (by decide +kernel)) (pi_K (K := K) rfl (pv 0)) (blkOk_by (N := ["rows", "sized", "kept", "price", "_", "lot"]) (sc := fnScope s_thin_open) (by decide +kernel)) (fun _ _ _ _ _ => (tup_K (K := K) (n := 2) rfl rfl (pgs_cons (pg_name (i := 3) nd rfl (Or.inl rfl)) (pgs_cons (pg_name (i := 5) nd rfl (Or.inl rfl)) pgs_nil)))) (fun _ _ _ _ _ => pts_nil) (fun _ _ _ _ _ => (pe_tup (pa_cons (pv 3) (pa_cons (pe_callB (len_K (K := K) rfl) (by rfl) T.len (by decide +kernel) (pa_cons (pv 5) pa_nil)) (pa_cons (pe_callTy (cr_tupF (K := K) rfl) (by rfl) T.tuple (by decide +kernel) (pa_cons (pe_callB (sortD_K (K := K) rfl hr) (by rfl) T.sorted (by decide +kernel) (pa_cons (pv 5) pa_nil)) pa_nil)) pa_nil)))))) (pss_cons 
      (ps_set (i := 2) nd rfl (Or.inl rfl) (pe_lst pa_nil)) (pss_cons 
      (ps_for PassesOwn.never rfl (pi_K (K := K) rfl (pe_callB (sortD_K (K := K) rfl hr) (by rfl) T.sorted (by decide +kernel) (pa_cons (pv 1) pa_nil))) (tup_K (K := K) (n := 3) rfl rfl (pgs_cons (pg_name (i := 3) nd rfl (Or.inl rfl)) (pgs_cons (pg_name (i := 4) nd rfl (Or.inl rfl)) (pgs_cons (pg_name (i := 5) nd rfl (Or.inl rfl)) pgs_nil)))) (pss_one 
      (ps_if (pt_not (pt_val (pe_c (c_any_covers T) hr (by decide) (by rfl) (pa_cons (pv 2) (pa_cons (pe_tup (pa_cons (pv 3) (pa_cons (pv 5) pa_nil))) pa_nil))))) (pss_one 
      (ps_expr (pe_bm PySem.F.plainAttrs_list PySem.F.slot_list_append PySem.F.type_list_append mt_append (pv 2) (pa_cons (pe_tup (pa_cons (pv 3) (pa_cons (pv 5) pa_nil))) pa_nil)))) pss_nil))) (pss_one 
      (ps_ret (pe_ifExp (pt_truth (pv 2) (fun _ => rfl)) (pe_callTy (tupleOf_K (K := K) rfl) (by rfl) T.tuple (by decide +kernel) (pa_cons (pe_callB (sortD_K (K := K) rfl hr) (by rfl) T.sorted (by decide +kernel) (pa_cons (pv 2) pa_nil)) pa_nil)) pe_non)))))), ?_⟩
  have lp : (ps.map Prod.fst).length = ps.length := List.length_map ..
  have ent : ∀ {i : Nat} {v : V}, (ps.map Prod.fst)[i]? = some v → ∃ p ∈ ps, v = p.1 ∧ ps[i]? = some p := fun {i v} e => by
    rw [List.getElem?_map] at e
    cases g : ps[i]? with
    | none =>
      rw [g] at e
      cases e
    | some p =>
      rw [g] at e
      cases e
      exact ⟨p, List.mem_of_getElem? g, rfl, rfl⟩
  refine ⟨fun σ H' => ∃ (D : Addr) (qs : List (V × OpR)), Same H H' ∧ H' D = some (.lst (qs.map Prod.fst)) ∧ (∀ p ∈ qs, SizV K H' p.1 p.2) ∧ qs.map Prod.snd = (ps.map Prod.snd).map canon ∧ ∃ y2 y3 y4 y5, σ = [some (.ref R), some (.ref D), y2, y3, y4, y5], ?_, ?_⟩
  · rcases hs with hs | hs
    · refine ⟨_, rfl, .inl ⟨R, rfl, ⟨_, hs⟩, fun D hD => ?_⟩⟩
      refine lc_some (walk_list (xs := ps.map Prod.fst)) (fun i v H' => ∃ p, ps[i]? = some p ∧ SizV K H' v (canon p.2)) grow_at (by omega) hD (fun i v H1 H2 e ⟨p, g, h⟩ => ⟨p, g, h.mono e⟩) (fun H1 e => e.seq hs) ?_ ?_
      · rintro i x H1 H2 hi e ⟨acc, hacc⟩ ⟨rfl, g⟩ W kk
        obtain ⟨p, mp, rfl, gp⟩ := ent g
        obtain ⟨t, u, ep, h1, h2⟩ := (hp p mp).mono e
        obtain ⟨z1, z2, z3⟩ := strZ_ok (K := K) (H := H2) p.2.2
        rw [ep]
        have e9 : (sortL p.2.2).length = p.2.2.length := List.length_mergeSort _
        refine ⟨t, _, rfl, h1, rfl, _, _, rfl, _, _, rfl, rfl, rfl, _, rfl, _, rfl, .inl ⟨_, _, rfl, .inr h2, ?_⟩⟩
        refine ⟨_, rfl, u, strZ p.2.2, rfl, .inr (by rw [strZ_fst]; exact h2), z1, z2, z3, fun c nc => ⟨c, _, rfl, SqL.of upd_same, fun l o nl fz => ⟨Nat.le_of_ble_eq_true rfl, fun t2 nt2 => ?_⟩⟩⟩
        have g1 := grow (o := .lst ((sortD (strZ p.2.2)).map Prod.fst)) nc
        have g2 := g1.trans (grow (o := o) nl)
        have fz : ∀ H0 : Hp, FrzT (upd H0 l o) l ((sortL p.2.2).map V.str) := fun H0 => sort_strs p.2.2 ▸ fz H0
        have fl := (fz (upd H2 c (.lst ((sortD (strZ p.2.2)).map Prod.fst)))).mono (grow (o := .tup [.int p.2.1, .int ((p.2.2.map V.str).length : Nat), .ref l]) nt2)
        have hD2 := (g2.trans (grow (o := .tup [.int p.2.1, .int ((p.2.2.map V.str).length : Nat), .ref l]) nt2)) _ _ hacc
        refine kk _ _ (g2.trans (grow nt2)) fun o2 => ⟨p, gp, SizV.upd hD2 ⟨t2, l, rfl, ?_, fl⟩⟩
        show SqT K _ t2 [.int p.2.1, .int ((sortL p.2.2).length : Nat), .ref l]
        rw [e9]
        exact SqT.of (by rw [upd_same, List.length_map])
      · rintro xs H1 e hd lx hx
        obtain ⟨qs, q1, q2, q3⟩ := fst_rows (R := SizV K H1) (rs := (ps.map Prod.snd).map canon) (xs := xs) (by rw [lx]; simp) fun i v g => by
          obtain ⟨p, gp, h⟩ := hx i v g
          refine ⟨canon p.2, ?_, h⟩
          rw [List.getElem?_map, List.getElem?_map, gp]
          rfl
        exact ⟨D, qs, e, by rw [hd, q1], q3, q2.symm, _, _, _, _, rfl⟩
    · refine ⟨_, rfl, .inr (.inl ⟨R, rfl, ⟨_, hs⟩, fun D hD => ?_⟩)⟩
      refine lc_some (walk_tup (xs := ps.map Prod.fst)) (fun i v H' => ∃ p, ps[i]? = some p ∧ SizV K H' v (canon p.2)) grow_at (by omega) hD (fun i v H1 H2 e ⟨p, g, h⟩ => ⟨p, g, h.mono e⟩) (fun H1 e => same_tup e hs) ?_ ?_
      · rintro i x H1 H2 hi e ⟨acc, hacc⟩ ⟨rfl, g⟩ W kk
        obtain ⟨p, mp, rfl, gp⟩ := ent g
        obtain ⟨t, u, ep, h1, h2⟩ := (hp p mp).mono e
        obtain ⟨z1, z2, z3⟩ := strZ_ok (K := K) (H := H2) p.2.2
        rw [ep]
        have e9 : (sortL p.2.2).length = p.2.2.length := List.length_mergeSort _
        refine ⟨t, _, rfl, h1, rfl, _, _, rfl, _, _, rfl, rfl, rfl, _, rfl, _, rfl, .inl ⟨_, _, rfl, .inr h2, ?_⟩⟩
        refine ⟨_, rfl, u, strZ p.2.2, rfl, .inr (by rw [strZ_fst]; exact h2), z1, z2, z3, fun c nc => ⟨c, _, rfl, SqL.of upd_same, fun l o nl fz => ⟨Nat.le_of_ble_eq_true rfl, fun t2 nt2 => ?_⟩⟩⟩
        have g1 := grow (o := .lst ((sortD (strZ p.2.2)).map Prod.fst)) nc
        have g2 := g1.trans (grow (o := o) nl)
        have fz : ∀ H0 : Hp, FrzT (upd H0 l o) l ((sortL p.2.2).map V.str) := fun H0 => sort_strs p.2.2 ▸ fz H0
        have fl := (fz (upd H2 c (.lst ((sortD (strZ p.2.2)).map Prod.fst)))).mono (grow (o := .tup [.int p.2.1, .int ((p.2.2.map V.str).length : Nat), .ref l]) nt2)
        have hD2 := (g2.trans (grow (o := .tup [.int p.2.1, .int ((p.2.2.map V.str).length : Nat), .ref l]) nt2)) _ _ hacc
        refine kk _ _ (g2.trans (grow nt2)) fun o2 => ⟨p, gp, SizV.upd hD2 ⟨t2, l, rfl, ?_, fl⟩⟩
        show SqT K _ t2 [.int p.2.1, .int ((sortL p.2.2).length : Nat), .ref l]
        rw [e9]
        exact SqT.of (by rw [upd_same, List.length_map])
      · rintro xs H1 e hd lx hx
        obtain ⟨qs, q1, q2, q3⟩ := fst_rows (R := SizV K H1) (rs := (ps.map Prod.snd).map canon) (xs := xs) (by rw [lx]; simp) fun i v g => by
          obtain ⟨p, gp, h⟩ := hx i v g
          refine ⟨canon p.2, ?_, h⟩
          rw [List.getElem?_map, List.getElem?_map, gp]
          rfl
        exact ⟨D, qs, e, by rw [hd, q1], q3, q2.symm, _, _, _, _, rfl⟩
  · rintro σ H1 ⟨D, qs, e, hD, hq, eq, y2, y3, y4, y5, rfl⟩
    have lq : qs.length = ps.length := by
      have := congrArg List.length eq
      simpa using this
    have wq : ∀ o ∈ qs.map Prod.snd, o.2.length ≤ 60000 := fun o m => by
      rw [eq] at m
      obtain ⟨r, mr, rfl⟩ := List.mem_map.mp m
      obtain ⟨p, mp, rfl⟩ := List.mem_map.mp mr
      show (sortL p.2.2).length ≤ 60000
      rw [show (sortL p.2.2).length = p.2.2.length from List.length_mergeSort _]
      exact hw p mp
    refine ⟨Nat.le_of_ble_eq_true rfl, fun kp np => ?_⟩
    have hD1 := (grow (o := .lst []) np) _ _ hD
    have hq1 : ∀ p ∈ qs, SizV K (upd H1 kp (.lst [])) p.1 p.2 := fun p m => (hq p m).mono (grow np)
    obtain ⟨z1, z2, z3⟩ := siz_ok hq1
    obtain ⟨ss, pm, f1, f2⟩ := sort_pairs sizD qs
    refine ⟨_, rfl, D, qs.map fun p => (p.1, sizD p.2), rfl, .inl (by rw [pairs_fst]; exact SqL.of hD1), z1, z2, z3, fun c nc => ?_⟩
    rw [f1]
    have f3 : ss.map Prod.snd = ((ps.map Prod.snd).map canon).mergeSort sizLe := f2.trans (by rw [eq]; rfl)
    have nkc : kp ≠ c := fun z => by
      rw [← z, upd_same] at nc
      cases nc
    have e0 := e.trans ((grow (o := .lst []) np).trans (grow (o := .lst (ss.map Prod.fst)) nc))
    have hS : ∀ p ∈ ss, SizV K (upd (upd H1 kp (.lst [])) c (.lst (ss.map Prod.fst))) p.1 p.2 := fun p m => (hq1 p (pm.mem_iff.mp m)).mono (grow nc)
    have hk0 := (grow (o := .lst (ss.map Prod.fst)) nc) _ _ (upd_same (H := H1) (a := kp) (o := .lst []))
    have hc0 := upd_same (H := upd H1 kp (.lst [])) (a := c) (o := .lst (ss.map Prod.fst))
    have wS : ∀ o ∈ ss.map Prod.snd, o.2.length ≤ 60000 := fun o m => wq o ((pm.map Prod.snd).mem_iff.mp m)
    have lS : ss.length = ps.length := pm.length_eq.trans lq
    generalize upd (upd H1 kp (.lst [])) c (.lst (ss.map Prod.fst)) = G at e0 hS hk0 hc0
    have hk0n : H kp = none := by
      cases z : H kp with
      | none => rfl
      | some o =>
        rw [e _ _ z] at np
        cases np
    refine .inl ⟨c, rfl, ⟨_, SqL.of hc0⟩, ?_⟩
    refine for_it (walk_list (xs := ss.map Prod.fst)) (fun i σ H' => Same H H' ∧ H' c = some (.lst (ss.map Prod.fst)) ∧ (∀ p ∈ ss, SizV K H' p.1 p.2) ∧ (∃ us, H' kp = some (.lst us) ∧ us.length ≤ i ∧ RowsO K H' us (((ss.map Prod.snd).take i).foldl opS [])) ∧ ∃ y3 y4 y5, σ = [some (.ref R), some (.ref D), some (.ref kp), y3, y4, y5])
      ⟨e0, hc0, hS, ⟨[], hk0, Nat.le_refl _, .nil⟩, _, _, _, rfl⟩ (fun i σ H' _ ⟨_, h, _⟩ => SqL.of h) ?_ ?_
    · rintro i x σ G1 G2 hi ⟨e, hc, hS, ⟨us, hkp, lu, hu⟩, y3, y4, y5, rfl⟩ ⟨rfl, g⟩
      rw [List.getElem?_map] at g
      cases gz : ss[i]? with
      | none =>
        rw [gz] at g
        cases g
      | some z =>
      rw [gz] at g
      cases g
      have mz := List.mem_of_getElem? gz
      obtain ⟨t, u, ez, h1, h2⟩ := hS z mz
      rw [ez]
      refine ⟨t, _, rfl, h1, rfl, _, _, rfl, _, _, rfl, _, _, rfl, rfl, ?_⟩
      refine ⟨_, rfl, _, rfl, _, rfl, Nat.le_of_ble_eq_true rfl, fun t2 n2 => ?_⟩
      have g2 := grow (o := .tup [.int z.2.1, .ref u]) n2
      have mem : ∀ o ∈ ((ss.map Prod.snd).take i).foldl opS [], o.2.length ≤ 100000 := fun o m => by
        rcases opS_sub _ _ o m with m | m
        · cases m
        · exact Nat.le_trans (wS o (List.mem_of_mem_take m)) (by decide)
      have step : (ss.map Prod.snd)[i]? = some z.2 := by
        rw [List.getElem?_map, gz]
        rfl
      rw [take_fold opS [] _ i z.2 step]
      refine ⟨_, _, rfl, kp, us, _, z.2, rfl, SqL.of (g2 _ _ hkp), hu.mono g2, ⟨t2, u, rfl, SqT.of upd_same, h2.mono g2⟩, mem, fun H3 e3 => ⟨_, rfl, ?_⟩⟩
      have e4 := g2.trans e3
      cases a : (((ss.map Prod.snd).take i).foldl opS []).any fun o => covM o z.2 with
      | true =>
        refine iteF ⟨e.trans e4, e4 _ _ hc, fun p m => (hS p m).mono e4, ⟨us, e4 _ _ hkp, by omega, ?_⟩, _, _, _, rfl⟩
        rw [opS_t a]
        exact hu.mono e4
      | false =>
        refine iteT ⟨_, rfl, .inl ⟨rfl, _, SqL.of (e4 _ _ hkp)⟩, _, rfl, _, rfl, Nat.le_of_ble_eq_true rfl, fun t3 n3 => ?_⟩
        have e5 := e4.trans (grow (o := .tup [.int z.2.1, .ref u]) n3)
        have hk5 := e5 _ _ hkp
        refine ⟨kp, us, _, rfl, rfl, hk5, size5 (by rw [List.length_map] at hi; omega), ?_⟩
        refine ⟨same_mut (e.trans e5) hk0n, by rw [upd_ne nkc.symm]; exact e5 _ _ hc, fun p m => ((hS p m).mono e5).upd hk5, ⟨us ++ [.ref t3], upd_same, by rw [List.length_append]; exact Nat.succ_le_succ lu, ?_⟩, _, _, _, rfl⟩
        rw [opS_f a]
        exact ((hu.mono e5).upd hk5).snoc (RowV.upd hk5 ⟨t3, u, rfl, SqT.of upd_same, h2.mono e5⟩)
    · rintro σ G1 ⟨e, hc, hS, ⟨us, hkp, lu, hu⟩, y3, y4, y5, rfl⟩
      have eT : (((ss.map Prod.snd).take (ss.map Prod.fst).length).foldl opS []) = opnM (ps.map Prod.snd) := by
        rw [List.length_map, ← List.length_map (f := Prod.snd), List.take_length, f3]
        rfl
      rw [eT] at hu
      refine ⟨_, rfl, _, .inl ⟨us, SqL.of hkp, rfl⟩, ?_⟩
      have lu2 := hu.len
      cases us with
      | nil =>
        refine iteF (k _ _ e (.inl ⟨?_, rfl⟩))
        exact List.eq_nil_of_length_eq_zero lu2.symm
      | cons v us =>
        obtain ⟨rs, r1, r2, r3⟩ := rowsO_pairs hu
        rw [r1] at hkp
        obtain ⟨w1, w2, w3⟩ := op_ok r3
        obtain ⟨vs, pm2, f4, f5⟩ := sort_pairs openD rs
        refine iteT ⟨_, rfl, kp, rs.map fun p => (p.1, openD p.2), rfl, .inl (by rw [pairs_fst]; exact SqL.of hkp), w1, w2, w3, fun c2 nc2 => ?_⟩
        rw [f4]
        refine ⟨c2, _, rfl, .inl ⟨SqL.of upd_same, fun q nq => k _ _ (e.trans ((grow nc2).trans (grow nq))) (.inr ⟨fun z => ?_, q, _, rfl, upd_same, ?_⟩)⟩⟩
        · rw [z] at lu2
          cases lu2
        · have := rowsO_of (ps := vs) (K := K) (H := upd (upd G1 c2 (.lst (vs.map Prod.fst))) q (.tup (vs.map Prod.fst))) fun p m => (r3 p (pm2.mem_iff.mp m)).mono ((grow nc2).trans (grow nq))
          rw [f5, ← r2] at this
          exact this
theorem c_thin_open (T : Top K mg C_Open C_OpenTable A_OpenTable_reading) : Cal P w K mg base 3 "thin_open" (spThinOpen K) [] := by
  obtain ⟨f, fd, F, df⟩ := T.d_thin_open
  exact cal_of F df (ok_thin_open T F) fun _ _ _ _ _ _ us hl => match us, hl with | [_], _ => rfl
def spOBestO (K : PySem.W.Frag) : Sp := sp3 fun a b c H Q => ∃ S1 S2 : List OpR, OptO K H b S1 ∧ OptO K H c S2 ∧ outM S1 = S1 ∧ outM S2 = S2 ∧ S1.length + S2.length ≤ 1000 ∧ (∀ r ∈ S1, r.2.length ≤ 1000) ∧ (∀ r ∈ S2, r.2.length ≤ 1000) ∧
  ∀ H' v, Same H H' → OptO K H' v (outM (S1 ++ S2)) → Q v H'
theorem c_Open_best (T : Top K mg C_Open C_OpenTable A_OpenTable_reading) : Met P w K mg base 4 C_Open "best" (spOBestO K) [] := by
  obtain ⟨f, fd, me, F, df⟩ := T.d_Open_best
  refine ⟨f, fd, ["self", "one", "other"], [], T.cl_Open, me, ?_, F.binds df fun _ _ _ _ _ _ us hl => match us, hl with | [_, _, _], _ => rfl, .nil⟩
  refine fm3 F sc_Open_best fun cdv A outer s H a b c Q E hr h => ?_
  have nd := sc_Open_best.nd
  obtain ⟨S1, S2, h1, h2, o1, o2, hl, w1, w2, k⟩ := h
  refine ⟨_, (pss_cons 
      (ps_if (pt_cmpR op_isN (pv 1) pe_non (nomark _)) (pss_one 
      (ps_ret (pv 2))) pss_nil) (pss_cons 
      (ps_if (pt_cmpR op_isN (pv 2) pe_non (nomark _)) (pss_one 
      (ps_ret (pv 1))) pss_nil) (pss_one 
      (ps_ret (pe_c (c_thin_open T) hr (by decide) (by rfl) (pa_cons (pe_op (op_catT_K (K := K) rfl) (pv 1) (pv 2)) pa_nil)))))), ?_⟩
  rcases h1 with ⟨rfl, rfl⟩ | ⟨n1, A1, xs, rfl, hA1, hx⟩
  · refine ⟨_, rfl, rfl, _, rfl, iteT ⟨_, rfl, k H _ (Same.refl _) ?_⟩⟩
    rw [List.nil_append, o2]
    exact h2
  rcases h2 with ⟨rfl, rfl⟩ | ⟨n2, A2, ys, rfl, hA2, hy⟩
  · refine ⟨_, rfl, rfl, _, rfl, iteF ⟨_, rfl, rfl, _, rfl, iteT ⟨_, rfl, k H _ (Same.refl _) ?_⟩⟩⟩
    rw [List.append_nil, o1]
    exact .inr ⟨n1, A1, xs, rfl, hA1, hx⟩
  obtain ⟨ps, rfl, rfl, hp⟩ := rowsO_pairs hx
  obtain ⟨qs, rfl, rfl, hq⟩ := rowsO_pairs hy
  rw [List.length_map, List.length_map] at hl
  refine ⟨_, rfl, rfl, _, rfl, iteF ⟨_, rfl, rfl, _, rfl, iteF ?_⟩⟩
  refine ⟨_, rfl, _, rfl, A1, A2, _, _, rfl, rfl, SqT.of hA1, SqT.of hA2, ?_, ?_, ?_, ?_⟩
  · intro e
    exact n1 (by rw [List.map_eq_nil_iff.mp e]; rfl)
  · exact size5' (by rw [List.length_map, List.length_map]; omega)
  · intro e
    exact absurd (by rw [List.map_eq_nil_iff.mp e]; rfl) n2
  · intro _ c nc
    have e := grow (o := .tup (ps.map Prod.fst ++ qs.map Prod.fst)) nc
    refine ⟨_, rfl, c, ps ++ qs, rfl, .inr (SqT.of ?_), fun p m => ?_, by rw [List.length_append]; omega, fun p m => ?_, fun H' v e2 hv => k H' v (e.trans e2) ?_⟩
    · rw [upd_same, List.map_append]
    · rcases List.mem_append.mp m with m | m
      · exact (hp p m).op.mono e
      · exact (hq p m).op.mono e
    · rcases List.mem_append.mp m with m | m
      · exact Nat.le_trans (w1 _ (List.mem_map.mpr ⟨p, m, rfl⟩)) (by decide)
      · exact Nat.le_trans (w2 _ (List.mem_map.mpr ⟨p, m, rfl⟩)) (by decide)
    · rw [← List.map_append]
      exact optO_of hv
def spOThen (K : PySem.W.Frag) : Sp := sp3 fun a b c H Q => ((b = .non ∨ c = .non) ∧ Q .non H) ∨ ∃ (A1 A2 : Addr) (ps qs : List (V × OpR)), b = .ref A1 ∧ SqT K H A1 (ps.map Prod.fst) ∧ c = .ref A2 ∧ SqT K H A2 (qs.map Prod.fst) ∧ (∀ p ∈ ps, OpenV K H p.1 p.2 ∧ p.2.2.length ≤ 500) ∧ (∀ p ∈ qs, OpenV K H p.1 p.2 ∧ p.2.2.length ≤ 500) ∧ (∀ i j, i ≤ ps.length → j ≤ qs.length → i * qs.length + j ≤ 1000) ∧
  ∀ H' v, Same H H' → ((opnM (sumR (ps.map Prod.snd) (qs.map Prod.snd)) = [] ∧ v = .non) ∨ opnM (sumR (ps.map Prod.snd) (qs.map Prod.snd)) ≠ [] ∧ ∃ D ys, v = .ref D ∧ H' D = some (.tup ys) ∧ RowsO K H' ys (outM (sumR (ps.map Prod.snd) (qs.map Prod.snd)))) → Q v H'
theorem c_Open_then (T : Top K mg C_Open C_OpenTable A_OpenTable_reading) : Met P w K mg base 4 C_Open "then" (spOThen K) [] := by
  obtain ⟨f, fd, me, F, df⟩ := T.d_Open_then
  refine ⟨f, fd, ["self", "one", "other"], [], T.cl_Open, me, ?_, F.binds df fun _ _ _ _ _ _ us hl => match us, hl with | [_, _, _], _ => rfl, .nil⟩
  refine fm3 F sc_Open_then fun cdv A outer s H a b c Q E hr h => ?_
  have nd := sc_Open_then.nd
  refine ⟨_, (pss_cons 
      (ps_if (PW.pt (pw_or (pt_cmpR op_isN (pv 1) pe_non (nomark _)) (pw_or1 (pt_cmpR op_isN (pv 2) pe_non (nomark _))))) (pss_one 
      (ps_ret pe_non)) pss_nil) (pss_one 
      (ps_ret (pe_c (c_thin_open T) hr (by decide) (by rfl) (pa_cons (pe_lc2 (own := [("price", 3), ("lot", 4), ("more", 5), ("others", 6)]) (vs1 := [5, 6]) rfl nd (pi_K (K := K) rfl (pv 1)) (blkOk_by (N := ["self", "one", "other", "price", "lot", "more", "others"]) (sc := fnScope s_Open_then) (by decide +kernel)) (by decide) (fun _ _ _ _ _ => (tup_K (K := K) (n := 2) rfl rfl (pgs_cons (pg_name (i := 3) nd rfl (Or.inl rfl)) (pgs_cons (pg_name (i := 4) nd rfl (Or.inl rfl)) pgs_nil)))) (fun _ _ _ _ _ => pts_nil) (fun _ _ _ _ _ => (pi_K (K := K) rfl (pv 2))) (fun _ _ _ _ _ => (tup_K (K := K) (n := 2) rfl rfl (pgs_cons (pg_name (i := 5) nd rfl (Or.inl rfl)) (pgs_cons (pg_name (i := 6) nd rfl (Or.inl rfl)) pgs_nil)))) (fun _ _ _ _ _ => pts_nil) (fun _ _ _ _ _ => (pe_tup (pa_cons (pe_op op_addU (pv 3) (pv 5)) (pa_cons (pe_op (op_catA_K (K := K) rfl) (pv 4) (pv 6)) pa_nil))))) pa_nil))))), ?_⟩
  rcases h with ⟨n, q⟩ | ⟨A1, A2, ps, qs, rfl, s1, rfl, s2, hp, hq0, bound, k⟩
  · by_cases nb : b = .non
    · subst nb
      exact ⟨_, rfl, rfl, _, rfl, iteT q⟩
    · have nc := n.resolve_left nb
      subst nc
      refine ⟨_, rfl, rfl, _, rfl, ?_⟩
      rw [decide_eq_false nb]
      exact iteF ⟨_, rfl, rfl, _, rfl, iteT q⟩
  have l1 : (ps.map Prod.fst).length = ps.length := List.length_map ..
  have l2 : (qs.map Prod.fst).length = qs.length := List.length_map ..
  have l1' : (ps.map Prod.snd).length = ps.length := List.length_map ..
  have l2' : (qs.map Prod.snd).length = qs.length := List.length_map ..
  refine ⟨_, rfl, rfl, _, rfl, iteF ⟨_, rfl, rfl, _, rfl, iteF ?_⟩⟩
  refine ⟨_, rfl, .inr (.inl ⟨A1, rfl, ⟨_, s1⟩, fun D hD => ?_⟩)⟩
  refine lc_in (walk_tup (xs := ps.map Prod.fst)) (fun i H' => Same H H' ∧ ∃ us : List (V × OpR), H' D = some (.lst (us.map Prod.fst)) ∧ (∀ u ∈ us, OpenV K H' u.1 u.2) ∧ us.map Prod.snd = sumR ((ps.map Prod.snd).take i) (qs.map Prod.snd)) ⟨grow hD, [], upd_same, (fun u m => nomatch m), rfl⟩ (fun i H' _ ⟨e, _⟩ => same_tup e s1) ?_ ?_
  · rintro i x H1 H2 hi ⟨e, us, hq, hu, eu⟩ ⟨rfl, g⟩
    obtain ⟨r, gr⟩ := pair_getR g
    obtain ⟨⟨U, u, rfl, sU, su⟩, lr⟩ := hp _ (List.mem_of_getElem? gr)
    have gr2 : (ps.map Prod.snd)[i]? = some r := by rw [List.getElem?_map, gr]; rfl
    refine ⟨U, _, rfl, same_tup e sU, rfl, _, _, rfl, _, _, rfl, rfl, rfl, ?_⟩
    refine ⟨_, rfl, .inr (.inl ⟨A2, rfl, ⟨_, same_tup e s2⟩, ?_⟩)⟩
    refine lc_in (walk_tup (xs := qs.map Prod.fst)) (fun j H' => Same H H' ∧ ∃ us : List (V × OpR), H' D = some (.lst (us.map Prod.fst)) ∧ (∀ u ∈ us, OpenV K H' u.1 u.2) ∧ us.map Prod.snd = sumR ((ps.map Prod.snd).take i) (qs.map Prod.snd) ++ ((qs.map Prod.snd).take j).map fun q => (r.1 + q.1, r.2 ++ q.2)) ⟨e, us, hq, hu, by rw [List.take_zero, List.map_nil, List.append_nil]; exact eu⟩ (fun i H' _ ⟨e, _⟩ => same_tup e s2) ?_ ?_
    · rintro j y H3 H4 hj ⟨e, us, hq, hu, eu⟩ ⟨rfl, g2⟩
      obtain ⟨q, gq⟩ := pair_getR g2
      obtain ⟨⟨U2, u2, rfl, sU2, su2⟩, lq⟩ := hq0 _ (List.mem_of_getElem? gq)
      have gq2 : (qs.map Prod.snd)[j]? = some q := by rw [List.getElem?_map, gq]; rfl
      have lr : r.2.length ≤ 500 := lr
      have lq : q.2.length ≤ 500 := lq
      refine ⟨U2, _, rfl, same_tup e sU2, rfl, _, _, rfl, _, _, rfl, rfl, rfl, ?_⟩
      refine ⟨_, rfl, _, rfl, .inl ⟨_, _, rfl, rfl, _, rfl, _, rfl, cat_any (same_tup e su) (same_tup e su2) (by rw [List.length_map, List.length_map]; omega) fun H5 c e5 s5 => ⟨Nat.le_of_ble_eq_true rfl, fun t nt => ?_⟩⟩⟩
      have e6 := e5.trans (grow (o := .tup [.int (r.1 + q.1), .ref c]) nt)
      have hq6 := e6 _ _ hq
      have lu := congrArg List.length eu
      simp only [List.length_map, List.length_append, sumR_len, List.length_take] at lu
      have lb := bound (min i ps.length) (min j qs.length) (Nat.min_le_right _ _) (Nat.min_le_right _ _)
      have lu : us.length ≤ 1000 := by omega
      refine ⟨us.map Prod.fst, hq6, size5 (by rw [List.length_map]; omega), same_mut (e.trans e6) hD, us ++ [(.ref t, (r.1 + q.1, r.2 ++ q.2))], ?_, fun u' m => ?_, ?_⟩
      · rw [upd_same, List.map_append]
        rfl
      · rcases List.mem_append.mp m with m | m
        · exact OpenV.upd hq6 ((hu u' m).mono e6)
        · rw [List.mem_singleton.mp m]
          refine OpenV.upd hq6 ⟨t, c, rfl, SqT.of upd_same, ?_⟩
          rw [List.map_append]
          exact same_tup (grow nt) s5
      · rw [take_map_add _ gq2, ← List.append_assoc, List.map_append, eu]
        rfl
    · rintro H3 ⟨e, us, hq, hu, eu⟩
      refine ⟨e, us, hq, hu, ?_⟩
      rw [sumR_take gr2, eu, l2, ← l2', List.take_length]
  · rintro H1 ⟨e, us, hq, hu, eu⟩
    rw [l1, ← l1', List.take_length] at eu
    have lu := congrArg List.length eu
    rw [List.length_map, sumR_len, l1', l2'] at lu
    have lb := bound ps.length 0 (Nat.le_refl _) (Nat.zero_le _)
    refine ⟨_, rfl, D, us, rfl, .inl (SqL.of hq), hu, by omega, fun p mp => ?_, fun H' v e2 hv => ?_⟩
    · have m2 : p.2 ∈ us.map Prod.snd := List.mem_map_of_mem mp
      rw [eu] at m2
      obtain ⟨a1, ha, b1, hb, e1⟩ := mem_sumR.mp m2
      obtain ⟨p1, mp1, rfl⟩ := List.mem_map.mp ha
      obtain ⟨q1, mq1, rfl⟩ := List.mem_map.mp hb
      have := (hp p1 mp1).2
      have := (hq0 q1 mq1).2
      rw [e1]
      show (p1.2.2 ++ q1.2.2).length ≤ 60000
      rw [List.length_append]
      omega
    · rw [eu] at hv
      exact k H' v (e.trans e2) hv
def spByPO (K : PySem.W.Frag) (C_Open : Addr) (n : Nat) : Sp := sp3 fun a b c H Q => ∃ (p L : Addr) (lots : Nat → List OpR) (t : Tr), a = .ref p ∧ PlainO C_Open H p ∧ Dp K H b t.dat ∧ t.ok ∧ t.lvs ≤ n ∧ n ≤ 5 ∧ c = .ref L ∧ ValsO K H L lots ∧ (∀ k < 3, LotK abcN (lots k)) ∧
  ∀ (H' : Hp) (v : V), Same H H' → OptO K H' v (t.valO lots) → Q v H'
theorem c__law_by_program_n (T : Top K mg C_Open C_OpenTable A_OpenTable_reading) : ∀ n, Cal P w K mg base (n + 7) "_law_by_program" (spByPO K C_Open n) []
  | 0 => by
    obtain ⟨f, fd, F, df⟩ := T.d__law_by_program
    refine cal_of F df (fn3 F sc__law_by_program fun cdv A outer s H a b c Q E hr h => ?_) fun _ _ _ _ _ _ us hl => match us, hl with | [_, _, _], _ => rfl
    obtain ⟨p, L, lots, t, _, _, _, _, lt, _⟩ := h
    have := t.pos
    omega
  | n + 1 => by
    have ih := @c__law_by_program_n T n
    obtain ⟨f, fd, F, df⟩ := T.d__law_by_program
    refine cal_of F df (fn3 F sc__law_by_program fun cdv A outer s H a b c Q E hr h => ?_) fun _ _ _ _ _ _ us hl => match us, hl with | [_, _, _], _ => rfl
    have nd := sc__law_by_program.nd
    obtain ⟨p, L, lots, t, rfl, hp, ht, to, lt, ln, rfl, hv, lo, k⟩ := h
    refine ⟨_, (pss_cons 
      (ps_if (pt_val (pe_callB (isi_K (K := K) rfl) (by rfl) T.isinstance (by decide +kernel) (pa_cons (pv 1) (pa_cons (pe_bltn (v := .ty "int") (by rfl) T.int (by decide +kernel) rfl) pa_nil)))) (pss_one 
      (ps_ret (pe_ix (ix_K (K := K) rfl) (pv 2) (pv 1) (fun _ _ => rfl)))) pss_nil) (pss_cons 
      (ps_par (i := 3) (j := 4) rfl nd rfl rfl (by decide) rfl rfl (pa_cons (pe_c ih hr (Nat.le_refl _) (by rfl) (pa_cons (pv 0) (pa_cons (pe_ix (ix_K (K := K) rfl) (pv 1) pe_int (fun _ _ => rfl)) (pa_cons (pv 2) pa_nil)))) (pa_cons (pe_c ih hr (Nat.le_refl _) (by rfl) (pa_cons (pv 0) (pa_cons (pe_ix (ix_K (K := K) rfl) (pv 1) pe_int (fun _ _ => rfl)) (pa_cons (pv 2) pa_nil)))) pa_nil)) (by rfl)) (pss_one 
      (ps_ret (pe_ifExp (pt_cmpR (eq_K (K := K) rfl hr) (pe_ix (ix_K (K := K) rfl) (pv 1) pe_int (fun _ _ => rfl)) pe_str (nomark _)) (pe_mt (c_Open_best T) hr (by omega) (pv 0) (pa_cons (pv 3) (pa_cons (pv 4) pa_nil))) (pe_mt (c_Open_then T) hr (by omega) (pv 0) (pa_cons (pv 3) (pa_cons (pv 4) pa_nil)))))))), ?_⟩
    cases t with
    | leaf j =>
      cases tr_leaf ht
      refine ⟨_, rfl, .inl ⟨_, _, _, true, rfl, .base (.int _), by decide +kernel, _, rfl, iteT ?_⟩⟩
      obtain ⟨vs, hL, l3, all⟩ := id hv
      have jl : j < vs.length := by
        rw [l3]
        exact to
      have g : vs[j]? = some vs[j] := List.getElem?_eq_getElem jl
      exact ⟨_, rfl, _, rfl, .inl ⟨L, _, _, _, rfl, rfl, SqL.of hL, atI_nat g, k _ _ (Same.refl _) (all j _ g)⟩⟩
    | node b l r =>
      obtain ⟨A2, x, y, rfl, sA, d1, d2⟩ := tr_node ht
      have p1 := l.pos
      have p2 := r.pos
      have lt : l.lvs + r.lvs ≤ n + 1 := lt
      refine ⟨_, rfl, .inl ⟨_, _, _, false, rfl, sqt_ty sA, by decide +kernel, _, rfl, iteF ?_⟩⟩
      refine ⟨_, rfl, _, rfl, .inr (.inl ⟨A2, _, _, _, rfl, rfl, sA, at1, _, rfl, _, _, _, rfl, p, L, lots, l, rfl, hp, d1, to.1, by omega, by omega, rfl, hv, lo, fun H1 v1 e1 w1 => ?_⟩)⟩
      refine ⟨_, rfl, _, rfl, .inr (.inl ⟨A2, _, _, _, rfl, rfl, same_tup e1 sA, at2, _, rfl, _, _, _, rfl, p, L, lots, r, rfl, hp.mono e1, dp_mono e1 _ d2, to.2, by omega, by omega, rfl, hv.mono e1, lo, fun H2 v2 e2 w2 => ?_⟩)⟩
      have e12 := e1.trans e2
      have w1 := w1.mono e2
      have q1 : 3 ^ l.lvs ≤ 81 := Nat.le_trans (Nat.pow_le_pow_right (by decide) (show l.lvs ≤ 4 by omega)) (by decide)
      have q2 : 3 ^ r.lvs ≤ 81 := Nat.le_trans (Nat.pow_le_pow_right (by decide) (show r.lvs ≤ 4 by omega)) (by decide)
      have n1 := valO_len lo l to.1 (by omega)
      have n2 := valO_len lo r to.2 (by omega)
      have b1 : ∀ x ∈ l.valO lots, x.2.length ≤ 15 := fun x m => by
        have := (valO_row lo l to.1 x m).2.2.1
        omega
      have b2 : ∀ x ∈ r.valO lots, x.2.length ≤ 15 := fun x m => by
        have := (valO_row lo r to.2 x m).2.2.1
        omega
      refine ⟨_, _, rfl, ?_⟩
      refine ⟨_, rfl, .inr (.inl ⟨A2, _, _, _, rfl, rfl, same_tup e12 sA, at0, .inl ⟨rfl, _, rfl, ?_⟩⟩)⟩
      obtain ⟨dx, fs, hx, f1, f2⟩ := hp.mono e12
      cases b with
      | true =>
        exact iteT ⟨_, rfl, p, dx, fs, rfl, hx, f1, _, rfl, _, rfl, _, _, _, rfl, l.valO lots, r.valO lots, w1, w2, valO_out lo l to.1, valO_out lo r to.2, by omega, fun x m => Nat.le_trans (b1 x m) (by decide), fun x m => Nat.le_trans (b2 x m) (by decide), fun H3 v3 e3 h3 => k _ _ (e12.trans e3) h3⟩
      | false =>
        refine iteF ⟨_, rfl, p, dx, fs, rfl, hx, f2, _, rfl, _, rfl, _, _, _, rfl, ?_⟩
        rcases w1 with ⟨z1, rfl⟩ | ⟨m1, A3, xs, rfl, h3, hx3⟩
        · refine .inl ⟨.inl rfl, k _ _ e12 (.inl ⟨?_, rfl⟩)⟩
          show outM (opsM (l.valO lots) (r.valO lots)) = []
          rw [z1]
          exact (LotK.nil []).out
        rcases w2 with ⟨z2, rfl⟩ | ⟨m2, A4, ys, rfl, h4, hy4⟩
        · refine .inl ⟨.inr rfl, k _ _ e12 (.inl ⟨?_, rfl⟩)⟩
          show outM (opsM (l.valO lots) (r.valO lots)) = []
          rw [z2]
          have : opsM (l.valO lots) [] = [] := List.eq_nil_iff_forall_not_mem.mpr fun x m => by
            obtain ⟨_, _, q, mq, _⟩ := mem_ops.mp m
            cases mq
          rw [this]
          exact (LotK.nil []).out
        obtain ⟨ps, rfl, ep, hp3⟩ := rowsO_pairs hx3
        obtain ⟨qs, rfl, eq, hq3⟩ := rowsO_pairs hy4
        have lp : ps.length ≤ 81 := by
          have := congrArg List.length ep
          rw [List.length_map] at this
          omega
        have lq : qs.length ≤ 81 := by
          have := congrArg List.length eq
          rw [List.length_map] at this
          omega
        have e3 : 3 ^ l.lvs * 3 ^ r.lvs ≤ 243 := by
          rw [← Nat.pow_add]
          exact Nat.le_trans (Nat.pow_le_pow_right (by decide) (show l.lvs + r.lvs ≤ 5 by omega)) (by decide)
        have lpq : ps.length * qs.length ≤ 243 := by
          have a := congrArg List.length ep
          have b := congrArg List.length eq
          rw [List.length_map] at a b
          rw [← a, ← b]
          exact Nat.le_trans (Nat.mul_le_mul n1 n2) e3
        refine .inr ⟨A3, A4, ps, qs, rfl, SqT.of h3, rfl, SqT.of h4, fun x m => ⟨(hp3 x m).op, ?_⟩, fun x m => ⟨(hq3 x m).op, ?_⟩, fun i j hi hj => ?_, fun H3 v3 e3 h => k _ _ (e12.trans e3) ?_⟩
        · exact Nat.le_trans (b1 x.2 (by rw [ep]; exact List.mem_map.mpr ⟨x, m, rfl⟩)) (by decide)
        · exact Nat.le_trans (b2 x.2 (by rw [eq]; exact List.mem_map.mpr ⟨x, m, rfl⟩)) (by decide)
        · have := Nat.mul_le_mul hi (Nat.le_refl qs.length)
          omega
        · have := optO_of h
          rw [← ep, ← eq, out_sum] at this
          exact this
theorem c__law_by_program (T : Top K mg C_Open C_OpenTable A_OpenTable_reading) : Cal P w K mg base 12 "_law_by_program" (spByPO K C_Open 5) [] := c__law_by_program_n T 5
def spAllN (K : PySem.W.Frag) : Sp := sp1 fun a H Q => ∃ (L : Addr) (lots : Nat → List OpR), a = .ref L ∧ ValsO K H L lots ∧ (∀ k < 3, LotK abcN (lots k)) ∧
  ∀ (H' : Hp) (D : Addr) (N : List Str), Same H H' → H' D = some (.lst (N.map V.str)) → N.Nodup → N.length ≤ 27 → Q (.ref D) H'
theorem c__law_all_names (T : Top K mg C_Open C_OpenTable A_OpenTable_reading) : Cal P w K mg base 1 "_law_all_names" (spAllN K) [] := by
  obtain ⟨f, fd, F, df⟩ := T.d__law_all_names
  refine cal_of F df (fn1 F sc__law_all_names fun cdv A outer s H a Q E hr h => ?_) fun _ _ _ _ _ _ us hl => match us, hl with | [_], _ => rfl
  have nd := sc__law_all_names.nd
  obtain ⟨L, lots, rfl, ⟨vs, hL, l3, all⟩, lo, k⟩ := h
  refine ⟨_, (pss_cons 
      (ps_set (i := 1) nd rfl (Or.inl rfl) (pe_lst pa_nil)) (pss_cons 
      (ps_for PassesOwn.never rfl (pi_K (K := K) rfl (pv 0)) (pg_name (i := 2) nd rfl (Or.inl rfl)) (pss_one 
      (ps_for PassesOwn.never rfl (pi_K (K := K) rfl (pe_ifExp (pt_cmpR op_notN (pv 2) pe_non (nomark _)) (pv 2) (pe_tup pa_nil))) (pg_name (i := 3) nd rfl (Or.inl rfl)) (pss_one 
      (ps_set (i := 1) nd rfl (Or.inl rfl) (pe_op op_addU (pv 1) (pe_callTy (listOf_K (K := K) rfl) (by rfl) T.list (by decide +kernel) (pa_cons (pe_ix (ix_K (K := K) rfl) (pv 3) pe_int (fun _ _ => rfl)) pa_nil)))))))) (pss_one 
      (ps_ret (pe_callB (cr_sortX (w := w) rfl rfl (room_3 hr)) (by rfl) T.sorted (by decide +kernel) (pa_cons (pe_callTy (cr_setX (K := K) (w := w) rfl rfl rfl) (by rfl) T.set (by decide +kernel) (pa_cons (pv 1) pa_nil)) pa_nil)))))), ?_⟩
  refine ⟨Nat.le_of_ble_eq_true rfl, fun c nc => ?_⟩
  have e0 := grow (o := .lst []) nc
  refine ⟨_, rfl, .inl ⟨L, rfl, ⟨_, SqL.of (e0 _ _ hL)⟩, ?_⟩⟩
  refine for_it (walk_list (xs := vs)) (fun i σ H' => Same H H' ∧ ∃ (D : Addr) (zs : List Str) (y2 y3 : Option V), H' D = some (.lst (zs.map V.str)) ∧ zs.length ≤ 9 * i ∧ σ = [some (.ref L), some (.ref D), y2, y3]) ⟨e0, c, [], none, none, upd_same, Nat.zero_le _, rfl⟩ (fun i σ H' _ ⟨e, _⟩ => SqL.of (e _ _ hL)) ?_ ?_
  · rintro i x σ H1 H2 hi ⟨e, D, zs, y2, y3, hD, lz, rfl⟩ ⟨rfl, g⟩
    have hx := (all i x g).mono e
    have lk := lo i (by omega)
    rcases hx with ⟨z0, rfl⟩ | ⟨ne, A, ys, rfl, hA, hy⟩
    · refine ⟨_, rfl, rfl, _, rfl, iteF ⟨Nat.le_of_ble_eq_true rfl, fun t nt => ?_⟩⟩
      refine .inr (.inl ⟨t, rfl, ⟨_, SqT.of upd_same⟩, ?_⟩)
      refine for_it (walk_tup (xs := [])) (fun j σ H' => H' = _ ∧ σ = _) ⟨rfl, rfl⟩ (fun j σ H' _ ⟨e, _⟩ => e ▸ SqT.of upd_same) (fun j x σ H1 H2 hj => absurd hj (Nat.not_lt_zero _)) ?_
      rintro σ _ ⟨rfl, rfl⟩
      exact ⟨e.trans (grow nt), D, zs, _, _, (grow nt) _ _ hD, by omega, rfl⟩
    · refine ⟨_, rfl, rfl, _, rfl, iteT ?_⟩
      refine ⟨_, rfl, .inr (.inl ⟨A, rfl, ⟨_, SqT.of hA⟩, ?_⟩)⟩
      have ly := hy.len
      have l3' := lk.len
      refine for_it (walk_tup (xs := ys)) (fun j σ H' => Same H H' ∧ Same H2 H' ∧ ∃ (D : Addr) (zs : List Str) (y3 : Option V), H' D = some (.lst (zs.map V.str)) ∧ zs.length ≤ 9 * i + 3 * j ∧ σ = [some (.ref L), some (.ref D), some (.ref A), y3]) ⟨e, Same.refl _, D, zs, _, hD, by omega, rfl⟩ (fun j σ H' _ ⟨_, e, _⟩ => SqT.of (e _ _ hA)) ?_ ?_
      · rintro j v σ H3 H4 hj ⟨e1, e2, D, zs, y3, hD, lz, rfl⟩ ⟨rfl, gv⟩
        obtain ⟨r, gr, t, u, rfl, h1, h2⟩ := (hy.mono e2).get gv
        have lr := (lk.row r (List.mem_of_getElem? gr)).2.2.1
        refine ⟨_, rfl, _, rfl, .inr (.inl ⟨t, _, _, _, rfl, rfl, h1, at1, ?_⟩)⟩
        refine ⟨u, _, rfl, .inr h2.sq, fun q nq => ?_⟩
        have g1 := grow (o := .lst (r.2.map V.str)) nq
        refine .inr (.inr ⟨D, q, _, _, rfl, rfl, g1 _ _ hD, upd_same, size5' (by rw [List.length_map, List.length_map]; omega), fun c2 nc2 => ?_⟩)
        have g2 := g1.trans (grow (o := .lst (zs.map V.str ++ r.2.map V.str)) nc2)
        exact ⟨e1.trans g2, e2.trans g2, c2, zs ++ r.2, _, by rw [upd_same, List.map_append], by rw [List.length_append]; omega, rfl⟩
      · rintro σ H3 ⟨e1, e2, D, zs, y3, hD, lz, rfl⟩
        exact ⟨e1, D, zs, _, _, hD, by omega, rfl⟩
  · rintro σ H1 ⟨e, D, zs, y2, y3, hD, lz, rfl⟩
    refine ⟨_, rfl, D, zs, rfl, .inl (SqL.of hD), by omega, fun a na => ?_⟩
    refine ⟨a, zs, rfl, upd_same, by omega, fun N p nd mem ln np => ?_⟩
    have pm : (sortL N).Perm N := List.mergeSort_perm ..
    exact k _ p (sortL N) (e.trans ((grow na).trans (grow np))) upd_same (pm.nodup_iff.mpr nd) (by rw [pm.length_eq]; omega)
def spSplitO (K : PySem.W.Frag) : Sp := sp2 fun a b H Q => ∃ (A : Addr) (S : List OpR), a = .ref A ∧ SqT K H A [.str "open", .str "a"] ∧ OptO K H b S ∧ ∀ (H' : Hp) (D : Addr) (ys : List V), Same H H' → H' D = some (.lst ys) → RowsO K H' ys S → Q (.ref D) H'
theorem c__law_split (T : Top K mg C_Open C_OpenTable A_OpenTable_reading) : Cal P w K mg base 1 "_law_split" (spSplitO K) [] := by
  obtain ⟨f, fd, F, df⟩ := T.d__law_split
  refine cal_of F df (fn2 F sc__law_split fun cdv A outer s H a b Q E hr h => ?_) fun _ _ _ _ _ _ us hl => match us, hl with | [_, _], _ => rfl
  have nd := sc__law_split.nd
  obtain ⟨A1, S, rfl, hA, hb, k⟩ := h
  refine ⟨_, (pss_cons 
      (ps_if (pt_cmpR op_isN (pv 1) pe_non (nomark _)) (pss_one 
      (ps_ret (pe_lst pa_nil))) pss_nil) (pss_cons 
      (ps_if (pt_cmpR (in_K (K := K) rfl) (pe_ix (ix_K (K := K) rfl) (pv 0) pe_int (fun _ _ => rfl)) (pe_lst (pa_cons pe_str (pa_cons pe_str (pa_cons pe_str pa_nil)))) (by with_unfolding_all rfl)) (pss_one 
      (ps_ret (pe_callTy (listOf_K (K := K) rfl) (by rfl) T.list (by decide +kernel) (pa_cons (pv 1) pa_nil)))) pss_nil) (pss_cons 
      (ps_if (pt_cmpR (eq_K (K := K) rfl hr) (pe_ix (ix_K (K := K) rfl) (pv 0) pe_int (fun _ _ => rfl)) pe_str (nomark _)) (pss_one ps_never) pss_nil) (pss_one 
      ps_never)))), ?_⟩
  rcases hb with ⟨rfl, rfl⟩ | ⟨_, B1, ys, rfl, hB, hy⟩
  · exact ⟨_, rfl, rfl, _, rfl, iteT ⟨Nat.zero_le _, fun D nD => k _ D _ (grow nD) upd_same .nil⟩⟩
  refine ⟨_, rfl, rfl, _, rfl, iteF ?_⟩
  refine ⟨_, rfl, .inr (.inl ⟨A1, _, _, _, rfl, rfl, hA, at0, Nat.le_of_ble_eq_true rfl, fun l nl => ?_⟩)⟩
  have e1 := grow (o := .lst [.str "trade", .str "open", .str "dial"]) nl
  refine .inr ⟨l, _, rfl, .inl (SqL.of upd_same), rfl, rfl, ?_⟩
  refine ⟨_, rfl, iteT ?_⟩
  exact ⟨_, rfl, B1, ys, rfl, .inr (SqT.of (e1 _ _ hB)), fun D nD => k _ D ys (e1.trans (grow nD)) upd_same (hy.mono (e1.trans (grow nD)))⟩
def spRowThenO (K : PySem.W.Frag) : Sp := sp3 fun a b c H Q => ∃ (A : Addr) (p q : OpR), a = .ref A ∧ SqT K H A [.str "open", .str "a"] ∧ RowV K H b p ∧ RowV K H c q ∧ p.2.length ≤ 1000 ∧ q.2.length ≤ 1000 ∧ ∀ (H' : Hp) (v : V), Same H H' → RowV K H' v (canon (p.1 + q.1, p.2 ++ q.2)) → Q v H'
theorem c__law_row_then (T : Top K mg C_Open C_OpenTable A_OpenTable_reading) : Cal P w K mg base 1 "_law_row_then" (spRowThenO K) [] := by
  obtain ⟨f, fd, F, df⟩ := T.d__law_row_then
  refine cal_of F df (fn3 F sc__law_row_then fun cdv A outer s H a b c Q E hr h => ?_) fun _ _ _ _ _ _ us hl => match us, hl with | [_, _, _], _ => rfl
  have nd := sc__law_row_then.nd
  obtain ⟨A1, p, q, rfl, hA, hp, hq, lp, lq, k⟩ := h
  obtain ⟨t1, u1, rfl, a1, b1⟩ := hp.op
  obtain ⟨t2, u2, rfl, a2, b2⟩ := hq.op
  refine ⟨_, (pss_cons 
      (ps_set (i := 3) nd rfl (Or.inl rfl) (pe_ix (ix_K (K := K) rfl) (pv 0) pe_int (fun _ _ => rfl))) (pss_cons 
      (ps_if (pt_cmpR (eq_K (K := K) rfl hr) (pv 3) pe_str (nomark _)) (pss_one ps_never) pss_nil) (pss_cons 
      (ps_if (pt_cmpR (eq_K (K := K) rfl hr) (pv 3) pe_str (nomark _)) (pss_one ps_never) pss_nil) (pss_cons 
      (ps_if (pt_cmpR (in_K (K := K) rfl) (pv 3) (pe_lst (pa_cons pe_str (pa_cons pe_str pa_nil))) (by with_unfolding_all rfl)) (pss_one ps_never) pss_nil) (pss_cons 
      (ps_if (pt_cmpR (eq_K (K := K) rfl hr) (pv 3) pe_str (nomark _)) (pss_one 
      (ps_ret (pe_tup (pa_cons (pe_op op_addU (pe_ix (ix_K (K := K) rfl) (pv 1) pe_int (fun _ _ => rfl)) (pe_ix (ix_K (K := K) rfl) (pv 2) pe_int (fun _ _ => rfl))) (pa_cons (pe_callTy (cr_tupF (K := K) rfl) (by rfl) T.tuple (by decide +kernel) (pa_cons (pe_callB (sortD_K (K := K) rfl hr) (by rfl) T.sorted (by decide +kernel) (pa_cons (pe_op (op_catA_K (K := K) rfl) (pe_ix (ix_K (K := K) rfl) (pv 1) pe_int (fun _ _ => rfl)) (pe_ix (ix_K (K := K) rfl) (pv 2) pe_int (fun _ _ => rfl))) pa_nil)) pa_nil)) pa_nil))))) pss_nil) (pss_cons 
      (ps_if (pt_cmpR (eq_K (K := K) rfl hr) (pv 3) pe_str (nomark _)) (pss_one ps_never) pss_nil) (pss_cons 
      (ps_if (pt_cmpR (eq_K (K := K) rfl hr) (pv 3) pe_str (nomark _)) (pss_one ps_never) pss_nil) (pss_one 
      ps_never)))))))), ?_⟩
  refine ⟨_, rfl, .inr (.inl ⟨A1, _, _, _, rfl, rfl, hA, at0, ?_⟩)⟩
  refine ⟨_, rfl, .inl ⟨rfl, _, rfl, iteF ?_⟩⟩
  refine ⟨_, rfl, .inl ⟨rfl, _, rfl, iteF ?_⟩⟩
  refine ⟨_, rfl, Nat.le_of_ble_eq_true rfl, fun l nl => ?_⟩
  have e1 := grow (o := .lst [.str "trade", .str "dial"]) nl
  refine .inr ⟨l, _, rfl, .inl (SqL.of upd_same), rfl, rfl, ?_⟩
  refine ⟨_, rfl, iteF ?_⟩
  have a1 := same_tup e1 a1
  have b1 := same_tup e1 b1
  have a2 := same_tup e1 a2
  have b2 := same_tup e1 b2
  generalize upd H l _ = H1 at e1 a1 b1 a2 b2 ⊢
  refine ⟨_, rfl, .inl ⟨rfl, _, rfl, iteT ?_⟩⟩
  refine ⟨_, rfl, .inr (.inl ⟨t1, _, _, _, rfl, rfl, a1, at0, ?_⟩)⟩
  refine ⟨_, rfl, .inr (.inl ⟨t2, _, _, _, rfl, rfl, a2, at0, .inl ⟨_, _, rfl, rfl, ?_⟩⟩)⟩
  refine ⟨_, rfl, .inr (.inl ⟨t1, _, _, _, rfl, rfl, a1, at1, ?_⟩)⟩
  refine ⟨_, rfl, .inr (.inl ⟨t2, _, _, _, rfl, rfl, a2, at1, ?_⟩)⟩
  refine cat_any b1 b2 (by rw [List.length_map, List.length_map]; omega) fun H2 c e2 sc => ?_
  obtain ⟨z1, z2, z3⟩ := strZ_ok (K := K) (H := H2) (p.2 ++ q.2)
  refine ⟨c, strZ (p.2 ++ q.2), rfl, .inr (by rw [strZ_fst, List.map_append]; exact sc), z1, z2, z3, fun c3 nc3 => ⟨c3, _, rfl, SqL.of upd_same, fun l o nl fz => ⟨Nat.le_of_ble_eq_true rfl, fun t3 nt3 => ?_⟩⟩⟩
  have g1 := grow (o := .lst ((sortD (strZ (p.2 ++ q.2))).map Prod.fst)) nc3
  have g2 := g1.trans (grow (o := o) nl)
  have fz : ∀ H0 : Hp, FrzT (upd H0 l o) l ((sortL (p.2 ++ q.2)).map V.str) := fun H0 => sort_strs (p.2 ++ q.2) ▸ fz H0
  have fl := (fz (upd H2 c3 (.lst ((sortD (strZ (p.2 ++ q.2))).map Prod.fst)))).mono (grow (o := .tup [.int (p.1 + q.1), .ref l]) nt3)
  exact k _ _ (e1.trans (e2.trans (g2.trans (grow nt3)))) ⟨t3, l, rfl, SqT.of upd_same, fl⟩
def spPairs (K : PySem.W.Frag) : Sp := sp2 fun a b H Q => ∃ (A B : Addr) (xs ys : List V), a = .ref A ∧ H A = some (.lst xs) ∧ b = .ref B ∧ H B = some (.lst ys) ∧ xs.length ≤ 100 ∧ ys.length ≤ 100 ∧
  ∀ (H' : Hp) (D : Addr) (us : List V), Same H H' → H' D = some (.lst us) → PairsV H' us (prodV xs ys) → Q (.ref D) H'
theorem prod_len (xs ys : List V) : (prodV xs ys).length = xs.length * ys.length := by
  unfold prodV
  rw [List.length_flatMap]
  simp [List.map_const', List.sum_replicate_nat]
theorem c__law_pairs (T : Top K mg C_Open C_OpenTable A_OpenTable_reading) : Cal P w K mg base 1 "_law_pairs" (spPairs K) [] := by
  obtain ⟨f, fd, F, df⟩ := T.d__law_pairs
  refine cal_of F df (fn2 F sc__law_pairs fun cdv A outer s H a b Q E hr h => ?_) fun _ _ _ _ _ _ us hl => match us, hl with | [_, _], _ => rfl
  have nd := sc__law_pairs.nd
  obtain ⟨A1, B1, xs, ys, rfl, ha, rfl, hb, la, lb, k⟩ := h
  refine ⟨_, (pss_cons 
      (ps_set (i := 2) nd rfl (Or.inl rfl) (pe_lst pa_nil)) (pss_cons 
      (ps_for PassesOwn.never rfl (pi_K (K := K) rfl (pv 0)) (pg_name (i := 3) nd rfl (Or.inl rfl)) (pss_one 
      (ps_for PassesOwn.never rfl (pi_K (K := K) rfl (pv 1)) (pg_name (i := 4) nd rfl (Or.inl rfl)) (pss_one 
      (ps_expr (pe_bm PySem.F.plainAttrs_list PySem.F.slot_list_append PySem.F.type_list_append mt_append (pv 2) (pa_cons (pe_tup (pa_cons (pv 3) (pa_cons (pv 4) pa_nil))) pa_nil))))))) (pss_one 
      (ps_ret (pv 2))))), ?_⟩
  refine ⟨Nat.le_of_ble_eq_true rfl, fun q nq => ?_⟩
  have e0 := grow (o := .lst []) nq
  have bound : ∀ i j, i ≤ xs.length → j ≤ ys.length → i * ys.length + j ≤ 20000 := fun i j h1 h2 => by
    have := Nat.mul_le_mul (Nat.le_trans h1 la) lb
    omega
  refine ⟨_, rfl, .inl ⟨A1, rfl, ⟨_, SqL.of (e0 _ _ ha)⟩, ?_⟩⟩
  refine for_it (walk_list (xs := xs)) (fun i σ H' => Same H H' ∧ (∃ us, H' q = some (.lst us) ∧ PairsV H' us (prodV (xs.take i) ys)) ∧ ∃ y3 y4, σ = [some (.ref A1), some (.ref B1), some (.ref q), y3, y4])
    ⟨e0, ⟨[], upd_same, ⟨rfl, fun i u h => by cases h⟩⟩, _, _, rfl⟩ (fun i σ H' _ ⟨e, _⟩ => SqL.of (e _ _ ha)) ?_ ?_
  · rintro i x σ H1 H2 hi ⟨e, ⟨us, hq, pu⟩, y3, y4, rfl⟩ ⟨rfl, g⟩
    refine ⟨_, rfl, .inl ⟨B1, rfl, ⟨_, SqL.of (e _ _ hb)⟩, ?_⟩⟩
    refine for_it (walk_list (xs := ys)) (fun j σ H' => Same H H' ∧ (∃ us, H' q = some (.lst us) ∧ PairsV H' us (prodV (xs.take i) ys ++ (ys.take j).map fun y => (x, y))) ∧ ∃ y4, σ = [some (.ref A1), some (.ref B1), some (.ref q), some x, y4])
      ⟨e, ⟨us, hq, by rw [List.take_zero, List.map_nil, List.append_nil]; exact pu⟩, _, rfl⟩ (fun i σ H' _ ⟨e, _⟩ => SqL.of (e _ _ hb)) ?_ ?_
    · rintro j y σ H3 H4 hj ⟨e, ⟨us, hq, pu⟩, y4, rfl⟩ ⟨rfl, g2⟩
      refine ⟨_, rfl, .inl ⟨rfl, _, SqL.of hq⟩, _, rfl, _, rfl, Nat.le_of_ble_eq_true rfl, fun t nt => ?_⟩
      have hq3 := (grow (o := .tup [x, y]) nt) _ _ hq
      have lu : us.length ≤ 20000 := by
        rw [pu.1, List.length_append, prod_len, List.length_map, List.length_take, List.length_take]
        exact Nat.le_trans (Nat.add_le_add (Nat.mul_le_mul_right _ (Nat.min_le_right _ _)) (Nat.min_le_right _ _)) (bound _ _ (Nat.le_refl _) (Nat.le_refl _))
      refine ⟨q, us, _, rfl, rfl, hq3, size5 (by omega), ?_⟩
      have ntq : t ≠ q := fun z => by
        rw [z, hq] at nt
        cases nt
      refine ⟨same_mut (e.trans (grow nt)) nq, ⟨us ++ [.ref t], upd_same, ?_⟩, _, rfl⟩
      rw [map_take g2, ← List.append_assoc]
      exact ((pu.mono (grow nt)).upd hq3).snoc (by rw [upd_ne ntq, upd_same])
    · rintro σ H3 ⟨e, ⟨us, hq, pu⟩, y4, rfl⟩
      refine ⟨e, ⟨us, hq, ?_⟩, _, _, rfl⟩
      rw [prod_take g]
      rw [List.take_length] at pu
      exact pu
  · rintro σ H1 ⟨e, ⟨us, hq, pu⟩, y3, y4, rfl⟩
    rw [List.take_length] at pu
    exact ⟨_, rfl, k H1 q us e hq pu⟩
def spRawO (K : PySem.W.Frag) (n : Nat) : Sp := sp3 fun a b c H Q => ∃ (A L : Addr) (lots : Nat → List OpR) (t : Tr), a = .ref A ∧ SqT K H A [.str "open", .str "a"] ∧ Dp K H b t.dat ∧ t.ok ∧ t.lvs ≤ n ∧ n ≤ 5 ∧ c = .ref L ∧ ValsO K H L lots ∧ (∀ k < 3, LotK abcN (lots k)) ∧
  ∀ (H' : Hp) (D : Addr) (ys : List V), Same H H' → H' D = some (.lst ys) → RowsO K H' ys (t.rawO lots) → Q (.ref D) H'
theorem c__law_raw_n (T : Top K mg C_Open C_OpenTable A_OpenTable_reading) : ∀ n, Cal P w K mg base (n + 3) "_law_raw" (spRawO K n) []
  | 0 => by
    obtain ⟨f, fd, F, df⟩ := T.d__law_raw
    refine cal_of F df (fn3 F sc__law_raw fun cdv A outer s H a b c Q E hr h => ?_) fun _ _ _ _ _ _ us hl => match us, hl with | [_, _, _], _ => rfl
    obtain ⟨A1, L, lots, t, _, _, _, _, lt, _⟩ := h
    have := t.pos
    omega
  | n + 1 => by
    have ih := @c__law_raw_n T n
    obtain ⟨f, fd, F, df⟩ := T.d__law_raw
    refine cal_of F df (fn3 F sc__law_raw fun cdv A outer s H a b c Q E hr h => ?_) fun _ _ _ _ _ _ us hl => match us, hl with | [_, _, _], _ => rfl
    have nd := sc__law_raw.nd
    obtain ⟨A1, L, lots, t, rfl, hA, ht, to, lt, ln, rfl, hl, lo, k⟩ := h
    refine ⟨_, (pss_cons 
      (ps_if (pt_val (pe_callB (isi_K (K := K) rfl) (by rfl) T.isinstance (by decide +kernel) (pa_cons (pv 1) (pa_cons (pe_bltn (v := .ty "int") (by rfl) T.int (by decide +kernel) rfl) pa_nil)))) (pss_one 
      (ps_ret (pe_c (c__law_split T) hr (by omega) (by rfl) (pa_cons (pv 0) (pa_cons (pe_ix (ix_K (K := K) rfl) (pv 2) (pv 1) (fun _ _ => rfl)) pa_nil))))) pss_nil) (pss_cons 
      (ps_par (i := 3) (j := 4) rfl nd rfl rfl (by decide) rfl rfl (pa_cons (pe_c ih hr (Nat.le_refl _) (by rfl) (pa_cons (pv 0) (pa_cons (pe_ix (ix_K (K := K) rfl) (pv 1) pe_int (fun _ _ => rfl)) (pa_cons (pv 2) pa_nil)))) (pa_cons (pe_c ih hr (Nat.le_refl _) (by rfl) (pa_cons (pv 0) (pa_cons (pe_ix (ix_K (K := K) rfl) (pv 1) pe_int (fun _ _ => rfl)) (pa_cons (pv 2) pa_nil)))) pa_nil)) (by rfl)) (pss_cons 
      (ps_if (pt_cmpR (eq_K (K := K) rfl hr) (pe_ix (ix_K (K := K) rfl) (pv 1) pe_int (fun _ _ => rfl)) pe_str (nomark _)) (pss_one 
      (ps_ret (pe_op op_addU (pv 3) (pv 4)))) pss_nil) (pss_one 
      (ps_ret (pe_lc (own := [("x", 5), ("y", 6)]) rfl nd (pi_K (K := K) rfl (pe_c (c__law_pairs T) hr (by omega) (by rfl) (pa_cons (pv 3) (pa_cons (pv 4) pa_nil)))) (blkOk_by (N := ["spec", "tree", "values", "left", "right", "x", "y"]) (sc := fnScope s__law_raw) (by decide +kernel)) (fun _ _ _ _ _ => (tup_K (K := K) (n := 2) rfl rfl (pgs_cons (pg_name (i := 5) nd rfl (Or.inl rfl)) (pgs_cons (pg_name (i := 6) nd rfl (Or.inl rfl)) pgs_nil)))) (fun _ _ _ _ _ => pts_nil) (fun _ _ _ _ _ => (pe_c (c__law_row_then T) hr (by omega) (by rfl) (pa_cons (pv 0) (pa_cons (pv 5) (pa_cons (pv 6) pa_nil))))))))))), ?_⟩
    cases t with
    | leaf j =>
      cases tr_leaf ht
      refine ⟨_, rfl, .inl ⟨_, _, _, true, rfl, .base (.int _), by decide +kernel, _, rfl, iteT ?_⟩⟩
      obtain ⟨vs, hL, l3, all⟩ := id hl
      have jl : j < vs.length := by
        rw [l3]
        exact to
      have g : vs[j]? = some vs[j] := List.getElem?_eq_getElem jl
      exact ⟨_, rfl, _, rfl, _, rfl, .inl ⟨L, _, _, _, rfl, rfl, SqL.of hL, atI_nat g, _, _, rfl, A1, lots j, rfl, hA, all j _ g, fun H1 D1 ys e1 h1 hy => k _ D1 ys e1 h1 hy⟩⟩
    | node b l r =>
      obtain ⟨A2, x, y, rfl, sA, d1, d2⟩ := tr_node ht
      have p1 := l.pos
      have p2 := r.pos
      have lt : l.lvs + r.lvs ≤ n + 1 := lt
      refine ⟨_, rfl, .inl ⟨_, _, _, false, rfl, sqt_ty sA, by decide +kernel, _, rfl, iteF ?_⟩⟩
      refine ⟨_, rfl, _, rfl, .inr (.inl ⟨A2, _, _, _, rfl, rfl, sA, at1, _, rfl, _, _, _, rfl, A1, L, lots, l, rfl, hA, d1, to.1, by omega, by omega, rfl, hl, lo, fun H1 D1 us1 e1 h1 r1 => ?_⟩)⟩
      refine ⟨_, rfl, _, rfl, .inr (.inl ⟨A2, _, _, _, rfl, rfl, same_tup e1 sA, at2, _, rfl, _, _, _, rfl, A1, L, lots, r, rfl, same_tup e1 hA, dp_mono e1 _ d2, to.2, by omega, by omega, rfl, hl.mono e1, lo, fun H2 D2 us2 e2 h2 r2 => ?_⟩)⟩
      have e12 := e1.trans e2
      have r1 := r1.mono e2
      have h1 := e2 _ _ h1
      have n1 := rawO_len (fun k z => (lo k z).len) l to.1
      have n2 := rawO_len (fun k z => (lo k z).len) r to.2
      have bd1 := rawO_bd (fun k z => (lo k z).bd) l to.1
      have bd2 := rawO_bd (fun k z => (lo k z).bd) r to.2
      have q1 : 3 ^ l.lvs ≤ 81 := Nat.le_trans (Nat.pow_le_pow_right (by decide) (show l.lvs ≤ 4 by omega)) (by decide)
      have q2 : 3 ^ r.lvs ≤ 81 := Nat.le_trans (Nat.pow_le_pow_right (by decide) (show r.lvs ≤ 4 by omega)) (by decide)
      have m1 := r1.len
      have m2 := r2.len
      refine ⟨_, _, rfl, ?_⟩
      refine ⟨_, rfl, .inr (.inl ⟨A2, _, _, _, rfl, rfl, same_tup e12 sA, at0, .inl ⟨rfl, _, rfl, ?_⟩⟩)⟩
      cases b with
      | true =>
        refine iteT ⟨_, rfl, _, rfl, .inr (.inr ⟨D1, D2, _, _, rfl, rfl, h1, h2, size5' (by omega), fun c nc => ?_⟩)⟩
        have e3 := grow (o := .lst (us1 ++ us2)) nc
        exact k _ c _ (e12.trans e3) upd_same ((r1.mono e3).app (r2.mono e3))
      | false =>
        refine iteF ⟨_, rfl, _, rfl, _, _, rfl, D1, D2, us1, us2, rfl, h1, rfl, h2, by omega, by omega, fun H3 D3 zs e3 h3 pz => .inl ⟨D3, rfl, ⟨_, SqL.of h3⟩, fun D hD => ?_⟩⟩
        have e4 := e12.trans e3
        have lz : zs.length = us1.length * us2.length := by rw [pz.1, prod_len]
        have lq := Nat.mul_le_mul (show us1.length ≤ 81 by omega) (show us2.length ≤ 81 by omega)
        refine lc_some (walk_list (xs := zs)) (fun i v H' => ∃ x, (opsM (l.rawO lots) (r.rawO lots))[i]? = some x ∧ RowV K H' v x) grow_at (by omega) hD (fun _ _ _ _ e ⟨x, g, h⟩ => ⟨x, g, h.mono e⟩) (fun H e => SqL.of (e _ _ h3)) ?_ ?_
        · rintro i x H4 H5 hi e ⟨acc, hacc⟩ ⟨rfl, g⟩ R kk
          obtain ⟨z, U, gz, rfl, hU⟩ := pz.2 i x g
          obtain ⟨p, q, tp, tq, mp, mq, gs⟩ := prodO_rows (r2.mono e3) (r1.mono e3) gz
          obtain ⟨zx, zy⟩ := z
          have w1 := (bd1 p mp).2.2.1
          have w2 := (bd2 q mq).2.2.1
          refine ⟨U, _, rfl, SqT.of (e _ _ hU), rfl, _, _, rfl, _, _, rfl, rfl, rfl, _, rfl, _, rfl, _, rfl, _, _, _, rfl, A1, p, q, rfl, same_tup (e4.trans e) hA, tp.mono e, tq.mono e, by omega, by omega, fun H6 v e6 h6 => ?_⟩
          exact kk _ _ e6 fun o => ⟨_, gs, RowV.upd (e6 _ _ hacc) h6⟩
        · intro xs H4 e5 hx hl4 hp
          obtain ⟨ps, q1, q2, q3⟩ := fst_rows (R := RowV K H4) (rs := opsM (l.rawO lots) (r.rawO lots)) (xs := xs) (by rw [hl4, lz, ops_len, m1, m2]) hp
          have rr := rowsO_of q3
          rw [← q1, ← q2] at rr
          exact k _ D xs (e4.trans e5) hx rr
theorem c__law_raw (T : Top K mg C_Open C_OpenTable A_OpenTable_reading) : Cal P w K mg base 8 "_law_raw" (spRawO K 5) [] := c__law_raw_n T 5
def spOver (K : PySem.W.Frag) : Sp := sp2 fun a b H Q => ∃ x y : OpR, RowV K H a x ∧ RowV K H b y ∧ x.2.length ≤ 100000 ∧ Then H Q (.bl (covM x y))
theorem c__law_over (T : Top K mg C_Open C_OpenTable A_OpenTable_reading) : Cal P w K mg base 1 "_law_over" (spOver K) [] := by
  obtain ⟨f, fd, F, df⟩ := T.d__law_over
  refine cal_of F df (fn2 F sc__law_over fun cdv A outer s H a b Q E hr h => ?_) fun _ _ _ _ _ _ us hl => match us, hl with | [_, _], _ => rfl
  have nd := sc__law_over.nd
  obtain ⟨x, y, ⟨A1, B1, rfl, a1, b1⟩, ⟨A2, B2, rfl, a2, b2⟩, hl, q⟩ := h
  have lx : (x.2.map V.str).length = x.2.length := List.length_map ..
  refine ⟨_, (pss_one 
      (ps_ret (pe_and (pe_cmpR op_leU (pe_ix (ix_K (K := K) rfl) (pv 0) pe_int (fun _ _ => rfl)) (pe_ix (ix_K (K := K) rfl) (pv 1) pe_int (fun _ _ => rfl)) (nomark _)) (pe_one (pe_callB (all_K (K := K) rfl rfl) (by rfl) T.all (by decide +kernel) (pa_cons (pe_lc (own := [("sign", 2)]) rfl nd (pi_K (K := K) rfl (pe_ix (ix_K (K := K) rfl) (pv 0) pe_int (fun _ _ => rfl))) (blkOk_by (N := ["x", "y", "sign"]) (sc := fnScope s__law_over) (by decide +kernel)) (fun _ _ _ _ _ => (pg_name (i := 2) nd rfl (Or.inl rfl))) (fun _ _ _ _ _ => pts_nil) (fun _ _ _ _ _ => (pe_cmpR op_leU (pe_tm PySem.F.slot_tuple_count PySem.F.type_tuple_count (mt_countS (K := K) rfl (room_cnt hr)) (pe_ix (ix_K (K := K) rfl) (pv 0) pe_int (fun _ _ => rfl)) (pa_cons (pv 2) pa_nil)) (pe_tm PySem.F.slot_tuple_count PySem.F.type_tuple_count (mt_countS (K := K) rfl (room_cnt hr)) (pe_ix (ix_K (K := K) rfl) (pv 1) pe_int (fun _ _ => rfl)) (pa_cons (pv 2) pa_nil)) (nomark _)))) pa_nil)))))), ?_⟩
  refine ⟨_, rfl, .inr (.inl ⟨A1, _, _, _, rfl, rfl, a1, at0, _, rfl, .inr (.inl ⟨A2, _, _, _, rfl, rfl, a2, at0, .inl ⟨_, _, rfl, rfl, _, rfl, ?_⟩⟩)⟩)⟩
  refine ite2 (fun h => ?_) fun h => ?_
  · have h := of_decide_eq_true h
    refine ⟨_, rfl, .inr (.inl ⟨A1, _, _, _, rfl, rfl, a1, at1, .inr (.inl ⟨B1, rfl, ⟨_, b1.sq⟩, fun D hD => ?_⟩)⟩)⟩
    refine lc_map (walk_tup (xs := x.2.map V.str)) (fun i => .bl (decide (cnt (x.2.getD i default) x.2 ≤ cnt (x.2.getD i default) y.2))) grow_at (by omega) hD (fun H1 e => same_tup e b1.sq) ?_ ?_
    · rintro i v G1 G2 hi e ⟨rfl, g⟩ W kk
      obtain ⟨z, gz, rfl⟩ := str_get g
      rw [show x.2.getD i default = z from getD_of gz] at kk
      refine ⟨rfl, _, rfl, .inr (.inl ⟨A1, _, _, _, rfl, rfl, same_tup e a1, at1, ⟨_, _, rfl, b1.mono e⟩, _, rfl, B1, _, _, rfl, rfl, (b1.mono e).sq, ?_⟩)⟩
      refine ⟨_, rfl, .inr (.inl ⟨A2, _, _, _, rfl, rfl, same_tup e a2, at1, ⟨_, _, rfl, b2.mono e⟩, _, rfl, B2, _, _, rfl, rfl, (b2.mono e).sq, .inl ⟨_, _, rfl, rfl, ?_⟩⟩)⟩
      have := kk _ (Same.refl _)
      show W (.bl (decide (((cnt z x.2 : Nat) : Int) ≤ ((cnt z y.2 : Nat) : Int)))) _
      rw [show decide (((cnt z x.2 : Nat) : Int) ≤ ((cnt z y.2 : Nat) : Int)) = decide (cnt z x.2 ≤ cnt z y.2) from decide_eq_decide.mpr Int.ofNat_le]
      exact this
    · intro H1 e hd
      refine ⟨D, (List.range (x.2.map V.str).length).map fun i => decide (cnt (x.2.getD i default) x.2 ≤ cnt (x.2.getD i default) y.2), rfl, SqL.of (by rw [hd, List.map_map]; rfl), ?_⟩
      have e1 : (((List.range (x.2.map V.str).length).map fun i => decide (cnt (x.2.getD i default) x.2 ≤ cnt (x.2.getD i default) y.2)).all id) = covM x y := by
        rw [lx, map_range_get default (fun n => decide (cnt n x.2 ≤ cnt n y.2)) x.2, List.all_map]
        unfold covM
        rw [decide_eq_true h, Bool.true_and]
        rfl
      rw [e1]
      exact q _ e
  · have h : ¬ x.1 ≤ y.1 := fun z => h (decide_eq_true z)
    have e1 : covM x y = false := by
      unfold covM
      rw [decide_eq_false h]
      rfl
    rw [e1] at q
    exact q _ (Same.refl _)
def spLOpen (K : PySem.W.Frag) : Sp := sp1 fun a H Q => ∃ (R : Addr) (ps : List (V × OpR)), a = .ref R ∧ (SqL K H R (ps.map Prod.fst) ∨ SqT K H R (ps.map Prod.fst)) ∧ (∀ p ∈ ps, OpenV K H p.1 p.2) ∧ ps.length ≤ 3999 ∧ (∀ p ∈ ps, p.2.2.length ≤ 1000) ∧
  ∀ (H' : Hp) (D : Addr) (ys : List V), Same H H' → H' D = some (.tup ys) → RowsO K H' ys (outM (ps.map Prod.snd)) → Q (.ref D) H'
theorem c__law_open (T : Top K mg C_Open C_OpenTable A_OpenTable_reading) : Cal P w K mg base 2 "_law_open" (spLOpen K) [] := by
  obtain ⟨f, fd, F, df⟩ := T.d__law_open
  refine cal_of F df (fn1 F sc__law_open fun cdv A outer s H a Q E hr h => ?_) fun _ _ _ _ _ _ us hl => match us, hl with | [_], _ => rfl
  have nd := sc__law_open.nd
  obtain ⟨R, ps, rfl, hs, hp, hl, hw, k⟩ := h
  refine ⟨_, (pss_cons 
      (ps_set (i := 1) nd rfl (Or.inr rfl) (pe_callB (cr_sortK (K := K) (w := w) rfl rfl rfl (room_set2 hr)) (by rfl) T.sorted (by decide +kernel) (pa_cons (pe_callTy (cr_setK (K := K) (w := w) rfl rfl rfl (room_set2 hr)) (by rfl) T.set (by decide +kernel) (pa_cons (pe_lc (own := [("x", 2)]) rfl nd (pi_K (K := K) rfl (pv 0)) (blkOk_by (N := ["rows_y", "kept", "x", "y"]) (sc := fnScope s__law_open) (by decide +kernel)) (fun _ _ _ _ _ => (pg_name (i := 2) nd rfl (Or.inl rfl))) (fun _ _ _ _ _ => pts_nil) (fun _ _ _ _ _ => (pe_tup (pa_cons (pe_ix (ix_K (K := K) rfl) (pv 2) pe_int (fun _ _ => rfl)) (pa_cons (pe_callTy (cr_tupF (K := K) rfl) (by rfl) T.tuple (by decide +kernel) (pa_cons (pe_callB (sortD_K (K := K) rfl hr) (by rfl) T.sorted (by decide +kernel) (pa_cons (pe_ix (ix_K (K := K) rfl) (pv 2) pe_int (fun _ _ => rfl)) pa_nil)) pa_nil)) pa_nil))))) pa_nil)) pa_nil))) (pss_one 
      (ps_ret (pe_callTy (tupleOf_K (K := K) rfl) (by rfl) T.tuple (by decide +kernel) (pa_cons (pe_lc (own := [("x", 2)]) rfl nd (pi_K (K := K) rfl (pv 1)) (blkOk_by (N := ["rows_y", "kept", "x", "y"]) (sc := fnScope s__law_open) (by decide +kernel)) (fun _ _ _ _ _ => (pg_name (i := 2) nd rfl (by first | exact Or.inr rfl | exact Or.inl rfl))) (fun _ _ _ _ _ => (pts_one (pt_not (pt_val (pe_callB (any_K (K := K) rfl rfl) (by rfl) T.any (by decide +kernel) (pa_cons (pe_lc (own := [("y", 3)]) rfl nd (pi_K (K := K) rfl (pv 1)) (blkOk_by (by kernel_rfl)) (fun _ _ _ _ _ => (pg_name (i := 3) nd rfl (Or.inl rfl))) (fun _ _ _ _ _ => pts_nil) (fun _ _ _ _ _ => (pe_and (pe_cmpR (ne_K (K := K) rfl hr) (pv 3) (pv 2) (nomark _)) (pe_one (pe_c (c__law_over T) hr (by decide) (by rfl) (pa_cons (pv 3) (pa_cons (pv 2) pa_nil))))))) pa_nil)))))) (fun _ _ _ _ _ => (pv 2))) pa_nil))))), ?_⟩
  have lp : (ps.map Prod.fst).length = ps.length := List.length_map ..
  rcases hs with hs | hs
  refine ⟨_, rfl, .inl ⟨R, rfl, ⟨_, hs⟩, fun D hD => ?_⟩⟩
  refine lc_some (walk_list (xs := ps.map Prod.fst)) (fun i v H' => ∃ p, ps[i]? = some p ∧ RowV K H' v (canon p.2)) grow_at (by omega) hD (fun i v H1 H2 e ⟨p, g, h⟩ => ⟨p, g, h.mono e⟩) (fun H1 e => e.seq hs) ?_ ?_
  rotate_left 2
  refine ⟨_, rfl, .inr (.inl ⟨R, rfl, ⟨_, hs⟩, fun D hD => ?_⟩)⟩
  refine lc_some (walk_tup (xs := ps.map Prod.fst)) (fun i v H' => ∃ p, ps[i]? = some p ∧ RowV K H' v (canon p.2)) grow_at (by omega) hD (fun i v H1 H2 e ⟨p, g, h⟩ => ⟨p, g, h.mono e⟩) (fun H1 e => same_tup e hs) ?_ ?_
  rotate_left 2
  · rintro i x H1 H2 hi e ⟨acc, hacc⟩ ⟨rfl, g⟩ W kk
    rw [List.getElem?_map] at g
    cases gp : ps[i]? with
    | none =>
      rw [gp] at g
      cases g
    | some p =>
    rw [gp] at g
    cases g
    have mp := List.mem_of_getElem? gp
    obtain ⟨t, u, ep, h1, h2⟩ := (hp p mp).mono e
    obtain ⟨z1, z2, z3⟩ := strZ_ok (K := K) (H := H2) p.2.2
    rw [ep]
    refine ⟨rfl, _, rfl, .inr (.inl ⟨t, _, _, _, rfl, rfl, h1, at0, ?_⟩)⟩
    refine ⟨_, rfl, .inr (.inl ⟨t, _, _, _, rfl, rfl, h1, at1, ?_⟩)⟩
    refine ⟨u, strZ p.2.2, rfl, .inr (by rw [strZ_fst]; exact h2), z1, z2, z3, fun c nc => ⟨c, _, rfl, SqL.of upd_same, fun l o nl fz => ⟨Nat.le_of_ble_eq_true rfl, fun t2 nt2 => ?_⟩⟩⟩
    have g1 := grow (o := .lst ((sortD (strZ p.2.2)).map Prod.fst)) nc
    have g2 := g1.trans (grow (o := o) nl)
    have fz : ∀ H0 : Hp, FrzT (upd H0 l o) l ((sortL p.2.2).map V.str) := fun H0 => sort_strs p.2.2 ▸ fz H0
    have fl := (fz (upd H2 c (.lst ((sortD (strZ p.2.2)).map Prod.fst)))).mono (grow (o := .tup [.int p.2.1, .ref l]) nt2)
    have hD2 := (g2.trans (grow (o := .tup [.int p.2.1, .ref l]) nt2)) _ _ hacc
    exact kk _ _ (g2.trans (grow nt2)) fun o2 => ⟨p, gp, RowV.upd hD2 ⟨t2, l, rfl, SqT.of upd_same, fl⟩⟩
  · intro xs H0 e0 hd lx hx
    obtain ⟨qs, q1, q2, q3⟩ := fst_rows (R := RowV K H0) (rs := (ps.map Prod.snd).map canon) (xs := xs) (by rw [lx]; simp) fun i v g => by
      obtain ⟨p, gp, h⟩ := hx i v g
      refine ⟨canon p.2, ?_, h⟩
      rw [List.getElem?_map, List.getElem?_map, gp]
      rfl
    have ex : ∃ rs : List (Addr × OpR), xs = rs.map (fun r => V.ref r.1) ∧ rs.map Prod.snd = (ps.map Prod.snd).map canon ∧ ∀ r ∈ rs, RowV K H0 (.ref r.1) r.2 := by
      rw [q1, q2]
      clear q1 q2 hx hd
      induction qs with
      | nil => exact ⟨[], rfl, rfl, fun r m => nomatch m⟩
      | cons q qs ih =>
        obtain ⟨rs, e1, e2, h3⟩ := ih fun p m => q3 p (List.mem_cons_of_mem _ m)
        obtain ⟨t, u, et, h1, h2⟩ := q3 q (List.mem_cons_self ..)
        refine ⟨(t, q.2) :: rs, by rw [List.map_cons, List.map_cons, e1, et], by rw [List.map_cons, List.map_cons, e2], fun r m => ?_⟩
        rcases List.mem_cons.mp m with rfl | m
        · exact ⟨t, u, rfl, h1, h2⟩
        · exact h3 r m
    obtain ⟨rs, rfl, er, hr2⟩ := ex
    have lrs : rs.length = ps.length := by
      have := congrArg List.length er
      simpa using this
    have wr : ∀ r ∈ rs, r.2.2.length ≤ 1000 := fun r m => by
      have := List.mem_map_of_mem (f := Prod.snd) m
      rw [er] at this
      obtain ⟨x, mx, e⟩ := List.mem_map.mp this
      obtain ⟨p, mp, rfl⟩ := List.mem_map.mp mx
      rw [← e]
      show (sortL p.2.2).length ≤ 1000
      rw [show (sortL p.2.2).length = p.2.2.length from List.length_mergeSort _]
      exact hw p mp
    refine ⟨D, rs.map fun r => (r.1, opK r.2), rfl, (by rw [List.map_map]; exact SqL.of hd), (fun p m => by
      obtain ⟨r, mr, rfl⟩ := List.mem_map.mp m
      exact key_op (hr2 r mr).op), (by rw [List.length_map]; omega), fun a L na sub all nd2 => ?_⟩
    have g1 := grow (o := SetKO w a L) na
    refine ⟨a, L, rfl, upd_same, (fun p m => by
      obtain ⟨r, mr, rfl⟩ := List.mem_map.mp (sub p m)
      exact (key_op (hr2 r mr).op).same g1), ?_, ?_, fun M c pm nc => ?_⟩
    · intro d hd e he
      obtain ⟨p, mp, rfl⟩ := List.mem_map.mp hd
      obtain ⟨q, mq, rfl⟩ := List.mem_map.mp he
      obtain ⟨r, _, rfl⟩ := List.mem_map.mp (sub p mp)
      obtain ⟨r', _, rfl⟩ := List.mem_map.mp (sub q mq)
      show PySem.W.alike (opK r.2).data (opK r'.2).data = true
      rw [data_op, data_op]
      simp [openD, lotD, PySem.W.alike, PySem.W.alikeAll, alike_strs]
    · refine .inl fun d hd => ?_
      obtain ⟨p, mp, rfl⟩ := List.mem_map.mp hd
      obtain ⟨r, mr, rfl⟩ := List.mem_map.mp (sub p mp)
      show ∃ x t, (opK r.2).data = .tuple (x :: t)
      rw [data_op]
      exact ⟨_, _, rfl⟩
    obtain ⟨ss, es, hss, pw, nds, mem⟩ := kept_of opK op_inj sub all nd2 pm
    have g2 := g1.trans (grow (o := .lst ((sortK entD M).map fun p => V.ref p.1)) nc)
    have hc := upd_same (H := upd H0 a (SetKO w a L)) (a := c) (o := .lst ((sortK entD M).map fun p => V.ref p.1))
    generalize upd (upd H0 a (SetKO w a L)) c _ = H1 at g2 hc
    have ev : (sortK entD M).map (fun p => V.ref p.1) = ss.map fun r => V.ref r.1 := by
      rw [es, List.map_map]
      rfl
    rw [ev] at hc
    have hS : ∀ r ∈ ss, RowV K H1 (.ref r.1) r.2 := fun r m => (hr2 r (hss r m)).mono g2
    have hL : ∀ r ∈ ss, r.2.2.length ≤ 1000 := fun r m => wr r (hss r m)
    have lss : ss.length ≤ 100000 := by
      have h1 := (List.mergeSort_perm M (PySem.W.dataLe false entD)).length_eq
      rw [show M.mergeSort (PySem.W.dataLe false entD) = ss.map (fun r => ((r.1, opK r.2) : Ent)) from es, List.length_map, pm.length_eq] at h1
      have h2 : (L.map Prod.snd).length ≤ ((rs.map fun r => ((r.1, opK r.2) : Ent)).map Prod.snd).length := nodup_len nd2 fun x m => by
        obtain ⟨p, mp, rfl⟩ := List.mem_map.mp m
        exact List.mem_map_of_mem (sub p mp)
      rw [List.length_map, List.length_map, List.length_map] at h2
      omega
    have fin : outM (ps.map Prod.snd) = (ss.filter fun r => !(ss.any fun y => !(decide (y.2 = r.2)) && covM y.2 r.2)).map Prod.snd := by
      rw [minF_pairs]
      refine open_is (pw.imp fun {a b} h => ?_) nds fun x => by rw [mem, er]
      have h : (!PySem.W.dataLt (opK b).data (opK a).data) = true := h
      rw [data_op, data_op] at h
      exact h
    have gs : ∀ {i : Nat} {v : V}, (ss.map fun r => V.ref r.1)[i]? = some v → v = .ref (ss.getD i (0, (0, []))).1 ∧ ss.getD i (0, (0, [])) ∈ ss := fun {i v} g => by
      rw [List.getElem?_map] at g
      cases gr : ss[i]? with
      | none =>
        rw [gr] at g
        cases g
      | some r =>
        rw [gr] at g
        cases g
        rw [show ss.getD i (0, (0, [])) = r from getD_of gr]
        exact ⟨rfl, List.mem_of_getElem? gr⟩
    have lm : (ss.map fun r => V.ref r.1).length = ss.length := List.length_map ..
    have dz : ∀ l : OpR, (openD l).depth = 2 := fun l => by
      have := depth_lot l.2
      simp only [openD, PyData.depth, PyData.depthAll] at *
      omega
    refine ⟨_, rfl, .inl ⟨c, rfl, ⟨_, SqL.of hc⟩, fun D hD => ?_⟩⟩
    refine lc_filt (walk_list (xs := ss.map fun r => V.ref r.1)) (fun i => !(ss.any fun y => !(decide (y.2 = (ss.getD i (0, (0, []))).2)) && covM y.2 (ss.getD i (0, (0, []))).2)) (fun i => V.ref (ss.getD i (0, (0, []))).1) grow_at (by omega) hD (fun H e => SqL.of (e _ _ hc)) ?_ ?_
    · rintro i x G1 G2 hi e ⟨rfl, g⟩ F0 R0 yes no
      obtain ⟨rfl, mr⟩ := gs g
      generalize ss.getD i (0, (0, [])) = r at mr yes no
      have e1 := hS r mr
      refine ⟨rfl, _, rfl, .inl ⟨c, rfl, ⟨_, SqL.of (e _ _ hc)⟩, fun D2 hD2 => ?_⟩⟩
      refine lc_map (walk_list (xs := ss.map fun r => V.ref r.1)) (fun j => .bl (!(decide ((ss.getD j (0, (0, []))).2 = r.2)) && covM (ss.getD j (0, (0, []))).2 r.2)) grow_at (by omega) hD2 (fun H e2 => SqL.of (e2 _ _ (e _ _ hc))) ?_ ?_
      · rintro j y G3 G4 hj e2 ⟨rfl, g2⟩ W kk
        obtain ⟨rfl, mu⟩ := gs g2
        generalize ss.getD j (0, (0, [])) = u at mu kk
        have e3 := e.trans e2
        have hu := (hS u mu).mono e3
        have hr3 := e1.mono e3
        refine ⟨rfl, _, rfl, _, rfl, .inr ⟨openD u.2, openD r.2, hu.op.dp, hr3.op.dp, by rw [dz, dz]; decide, ?_⟩⟩
        rw [eqv_op]
        by_cases eq : u.2 = r.2
        · rw [decide_eq_true eq] at kk ⊢
          exact ⟨_, rfl, iteF (kk _ (Same.refl _))⟩
        · rw [decide_eq_false eq] at kk ⊢
          refine ⟨_, rfl, iteT ⟨_, rfl, _, rfl, _, _, rfl, u.2, r.2, hu, hr3, Nat.le_trans (hL u mu) (by decide), fun H5 e5 => kk _ e5⟩⟩
      · intro H5 e5 hd5
        refine ⟨D2, (List.range (ss.map fun r => V.ref r.1).length).map fun j => !(decide ((ss.getD j (0, (0, []))).2 = r.2)) && covM (ss.getD j (0, (0, []))).2 r.2, rfl, SqL.of (by rw [hd5, List.map_map]; rfl), ?_⟩
        have el : ((List.range (ss.map fun r => V.ref r.1).length).map fun j => !(decide ((ss.getD j (0, (0, []))).2 = r.2)) && covM (ss.getD j (0, (0, []))).2 r.2).any id = ss.any fun y => !(decide (y.2 = r.2)) && covM y.2 r.2 := by
          rw [lm, map_range_get (0, (0, [])) (fun y : Addr × OpR => !(decide (y.2 = r.2)) && covM y.2 r.2) ss, List.any_map]
          rfl
        rw [el]
        refine ⟨_, rfl, ?_⟩
        cases a : ss.any fun y => !(decide (y.2 = r.2)) && covM y.2 r.2 with
        | true =>
          rw [a] at no
          exact no _ e5 rfl
        | false =>
          rw [a] at yes
          exact ⟨_, rfl, yes _ e5 rfl⟩
    · intro H5 e5 hd5
      have ef : ((List.range (ss.map fun r => V.ref r.1).length).filter fun i => !(ss.any fun y => !(decide (y.2 = (ss.getD i (0, (0, []))).2)) && covM y.2 (ss.getD i (0, (0, []))).2)).map (fun i => V.ref (ss.getD i (0, (0, []))).1) = (ss.filter fun r => !(ss.any fun y => !(decide (y.2 = r.2)) && covM y.2 r.2)).map fun r => V.ref r.1 := by
        rw [lm]
        exact filt_range (0, (0, [])) (fun r : Addr × OpR => !(ss.any fun y => !(decide (y.2 = r.2)) && covM y.2 r.2)) (fun r => V.ref r.1) ss
      rw [ef] at hd5
      refine ⟨D, _, rfl, .inl ⟨SqL.of hd5, fun q nq => k _ q _ (e0.trans (g2.trans (e5.trans (grow nq)))) upd_same ?_⟩⟩
      rw [fin]
      have := rowsO_of (K := K) (H := upd H5 q (.tup ((ss.filter fun r => !(ss.any fun y => !(decide (y.2 = r.2)) && covM y.2 r.2)).map fun r => V.ref r.1))) (ps := (ss.filter fun r => !(ss.any fun y => !(decide (y.2 = r.2)) && covM y.2 r.2)).map fun r => (V.ref r.1, r.2)) fun p m => by
        obtain ⟨r, mr, rfl⟩ := List.mem_map.mp m
        exact (hS r (List.mem_filter.mp mr).1).mono (e5.trans (grow nq))
      rw [List.map_map, List.map_map] at this
      exact this
  · rintro i x H1 H2 hi e ⟨acc, hacc⟩ ⟨rfl, g⟩ W kk
    rw [List.getElem?_map] at g
    cases gp : ps[i]? with
    | none =>
      rw [gp] at g
      cases g
    | some p =>
    rw [gp] at g
    cases g
    have mp := List.mem_of_getElem? gp
    obtain ⟨t, u, ep, h1, h2⟩ := (hp p mp).mono e
    obtain ⟨z1, z2, z3⟩ := strZ_ok (K := K) (H := H2) p.2.2
    rw [ep]
    refine ⟨rfl, _, rfl, .inr (.inl ⟨t, _, _, _, rfl, rfl, h1, at0, ?_⟩)⟩
    refine ⟨_, rfl, .inr (.inl ⟨t, _, _, _, rfl, rfl, h1, at1, ?_⟩)⟩
    refine ⟨u, strZ p.2.2, rfl, .inr (by rw [strZ_fst]; exact h2), z1, z2, z3, fun c nc => ⟨c, _, rfl, SqL.of upd_same, fun l o nl fz => ⟨Nat.le_of_ble_eq_true rfl, fun t2 nt2 => ?_⟩⟩⟩
    have g1 := grow (o := .lst ((sortD (strZ p.2.2)).map Prod.fst)) nc
    have g2 := g1.trans (grow (o := o) nl)
    have fz : ∀ H0 : Hp, FrzT (upd H0 l o) l ((sortL p.2.2).map V.str) := fun H0 => sort_strs p.2.2 ▸ fz H0
    have fl := (fz (upd H2 c (.lst ((sortD (strZ p.2.2)).map Prod.fst)))).mono (grow (o := .tup [.int p.2.1, .ref l]) nt2)
    have hD2 := (g2.trans (grow (o := .tup [.int p.2.1, .ref l]) nt2)) _ _ hacc
    exact kk _ _ (g2.trans (grow nt2)) fun o2 => ⟨p, gp, RowV.upd hD2 ⟨t2, l, rfl, SqT.of upd_same, fl⟩⟩
  · intro xs H0 e0 hd lx hx
    obtain ⟨qs, q1, q2, q3⟩ := fst_rows (R := RowV K H0) (rs := (ps.map Prod.snd).map canon) (xs := xs) (by rw [lx]; simp) fun i v g => by
      obtain ⟨p, gp, h⟩ := hx i v g
      refine ⟨canon p.2, ?_, h⟩
      rw [List.getElem?_map, List.getElem?_map, gp]
      rfl
    have ex : ∃ rs : List (Addr × OpR), xs = rs.map (fun r => V.ref r.1) ∧ rs.map Prod.snd = (ps.map Prod.snd).map canon ∧ ∀ r ∈ rs, RowV K H0 (.ref r.1) r.2 := by
      rw [q1, q2]
      clear q1 q2 hx hd
      induction qs with
      | nil => exact ⟨[], rfl, rfl, fun r m => nomatch m⟩
      | cons q qs ih =>
        obtain ⟨rs, e1, e2, h3⟩ := ih fun p m => q3 p (List.mem_cons_of_mem _ m)
        obtain ⟨t, u, et, h1, h2⟩ := q3 q (List.mem_cons_self ..)
        refine ⟨(t, q.2) :: rs, by rw [List.map_cons, List.map_cons, e1, et], by rw [List.map_cons, List.map_cons, e2], fun r m => ?_⟩
        rcases List.mem_cons.mp m with rfl | m
        · exact ⟨t, u, rfl, h1, h2⟩
        · exact h3 r m
    obtain ⟨rs, rfl, er, hr2⟩ := ex
    have lrs : rs.length = ps.length := by
      have := congrArg List.length er
      simpa using this
    have wr : ∀ r ∈ rs, r.2.2.length ≤ 1000 := fun r m => by
      have := List.mem_map_of_mem (f := Prod.snd) m
      rw [er] at this
      obtain ⟨x, mx, e⟩ := List.mem_map.mp this
      obtain ⟨p, mp, rfl⟩ := List.mem_map.mp mx
      rw [← e]
      show (sortL p.2.2).length ≤ 1000
      rw [show (sortL p.2.2).length = p.2.2.length from List.length_mergeSort _]
      exact hw p mp
    refine ⟨D, rs.map fun r => (r.1, opK r.2), rfl, (by rw [List.map_map]; exact SqL.of hd), (fun p m => by
      obtain ⟨r, mr, rfl⟩ := List.mem_map.mp m
      exact key_op (hr2 r mr).op), (by rw [List.length_map]; omega), fun a L na sub all nd2 => ?_⟩
    have g1 := grow (o := SetKO w a L) na
    refine ⟨a, L, rfl, upd_same, (fun p m => by
      obtain ⟨r, mr, rfl⟩ := List.mem_map.mp (sub p m)
      exact (key_op (hr2 r mr).op).same g1), ?_, ?_, fun M c pm nc => ?_⟩
    · intro d hd e he
      obtain ⟨p, mp, rfl⟩ := List.mem_map.mp hd
      obtain ⟨q, mq, rfl⟩ := List.mem_map.mp he
      obtain ⟨r, _, rfl⟩ := List.mem_map.mp (sub p mp)
      obtain ⟨r', _, rfl⟩ := List.mem_map.mp (sub q mq)
      show PySem.W.alike (opK r.2).data (opK r'.2).data = true
      rw [data_op, data_op]
      simp [openD, lotD, PySem.W.alike, PySem.W.alikeAll, alike_strs]
    · refine .inl fun d hd => ?_
      obtain ⟨p, mp, rfl⟩ := List.mem_map.mp hd
      obtain ⟨r, mr, rfl⟩ := List.mem_map.mp (sub p mp)
      show ∃ x t, (opK r.2).data = .tuple (x :: t)
      rw [data_op]
      exact ⟨_, _, rfl⟩
    obtain ⟨ss, es, hss, pw, nds, mem⟩ := kept_of opK op_inj sub all nd2 pm
    have g2 := g1.trans (grow (o := .lst ((sortK entD M).map fun p => V.ref p.1)) nc)
    have hc := upd_same (H := upd H0 a (SetKO w a L)) (a := c) (o := .lst ((sortK entD M).map fun p => V.ref p.1))
    generalize upd (upd H0 a (SetKO w a L)) c _ = H1 at g2 hc
    have ev : (sortK entD M).map (fun p => V.ref p.1) = ss.map fun r => V.ref r.1 := by
      rw [es, List.map_map]
      rfl
    rw [ev] at hc
    have hS : ∀ r ∈ ss, RowV K H1 (.ref r.1) r.2 := fun r m => (hr2 r (hss r m)).mono g2
    have hL : ∀ r ∈ ss, r.2.2.length ≤ 1000 := fun r m => wr r (hss r m)
    have lss : ss.length ≤ 100000 := by
      have h1 := (List.mergeSort_perm M (PySem.W.dataLe false entD)).length_eq
      rw [show M.mergeSort (PySem.W.dataLe false entD) = ss.map (fun r => ((r.1, opK r.2) : Ent)) from es, List.length_map, pm.length_eq] at h1
      have h2 : (L.map Prod.snd).length ≤ ((rs.map fun r => ((r.1, opK r.2) : Ent)).map Prod.snd).length := nodup_len nd2 fun x m => by
        obtain ⟨p, mp, rfl⟩ := List.mem_map.mp m
        exact List.mem_map_of_mem (sub p mp)
      rw [List.length_map, List.length_map, List.length_map] at h2
      omega
    have fin : outM (ps.map Prod.snd) = (ss.filter fun r => !(ss.any fun y => !(decide (y.2 = r.2)) && covM y.2 r.2)).map Prod.snd := by
      rw [minF_pairs]
      refine open_is (pw.imp fun {a b} h => ?_) nds fun x => by rw [mem, er]
      have h : (!PySem.W.dataLt (opK b).data (opK a).data) = true := h
      rw [data_op, data_op] at h
      exact h
    have gs : ∀ {i : Nat} {v : V}, (ss.map fun r => V.ref r.1)[i]? = some v → v = .ref (ss.getD i (0, (0, []))).1 ∧ ss.getD i (0, (0, [])) ∈ ss := fun {i v} g => by
      rw [List.getElem?_map] at g
      cases gr : ss[i]? with
      | none =>
        rw [gr] at g
        cases g
      | some r =>
        rw [gr] at g
        cases g
        rw [show ss.getD i (0, (0, [])) = r from getD_of gr]
        exact ⟨rfl, List.mem_of_getElem? gr⟩
    have lm : (ss.map fun r => V.ref r.1).length = ss.length := List.length_map ..
    have dz : ∀ l : OpR, (openD l).depth = 2 := fun l => by
      have := depth_lot l.2
      simp only [openD, PyData.depth, PyData.depthAll] at *
      omega
    refine ⟨_, rfl, .inl ⟨c, rfl, ⟨_, SqL.of hc⟩, fun D hD => ?_⟩⟩
    refine lc_filt (walk_list (xs := ss.map fun r => V.ref r.1)) (fun i => !(ss.any fun y => !(decide (y.2 = (ss.getD i (0, (0, []))).2)) && covM y.2 (ss.getD i (0, (0, []))).2)) (fun i => V.ref (ss.getD i (0, (0, []))).1) grow_at (by omega) hD (fun H e => SqL.of (e _ _ hc)) ?_ ?_
    · rintro i x G1 G2 hi e ⟨rfl, g⟩ F0 R0 yes no
      obtain ⟨rfl, mr⟩ := gs g
      generalize ss.getD i (0, (0, [])) = r at mr yes no
      have e1 := hS r mr
      refine ⟨rfl, _, rfl, .inl ⟨c, rfl, ⟨_, SqL.of (e _ _ hc)⟩, fun D2 hD2 => ?_⟩⟩
      refine lc_map (walk_list (xs := ss.map fun r => V.ref r.1)) (fun j => .bl (!(decide ((ss.getD j (0, (0, []))).2 = r.2)) && covM (ss.getD j (0, (0, []))).2 r.2)) grow_at (by omega) hD2 (fun H e2 => SqL.of (e2 _ _ (e _ _ hc))) ?_ ?_
      · rintro j y G3 G4 hj e2 ⟨rfl, g2⟩ W kk
        obtain ⟨rfl, mu⟩ := gs g2
        generalize ss.getD j (0, (0, [])) = u at mu kk
        have e3 := e.trans e2
        have hu := (hS u mu).mono e3
        have hr3 := e1.mono e3
        refine ⟨rfl, _, rfl, _, rfl, .inr ⟨openD u.2, openD r.2, hu.op.dp, hr3.op.dp, by rw [dz, dz]; decide, ?_⟩⟩
        rw [eqv_op]
        by_cases eq : u.2 = r.2
        · rw [decide_eq_true eq] at kk ⊢
          exact ⟨_, rfl, iteF (kk _ (Same.refl _))⟩
        · rw [decide_eq_false eq] at kk ⊢
          refine ⟨_, rfl, iteT ⟨_, rfl, _, rfl, _, _, rfl, u.2, r.2, hu, hr3, Nat.le_trans (hL u mu) (by decide), fun H5 e5 => kk _ e5⟩⟩
      · intro H5 e5 hd5
        refine ⟨D2, (List.range (ss.map fun r => V.ref r.1).length).map fun j => !(decide ((ss.getD j (0, (0, []))).2 = r.2)) && covM (ss.getD j (0, (0, []))).2 r.2, rfl, SqL.of (by rw [hd5, List.map_map]; rfl), ?_⟩
        have el : ((List.range (ss.map fun r => V.ref r.1).length).map fun j => !(decide ((ss.getD j (0, (0, []))).2 = r.2)) && covM (ss.getD j (0, (0, []))).2 r.2).any id = ss.any fun y => !(decide (y.2 = r.2)) && covM y.2 r.2 := by
          rw [lm, map_range_get (0, (0, [])) (fun y : Addr × OpR => !(decide (y.2 = r.2)) && covM y.2 r.2) ss, List.any_map]
          rfl
        rw [el]
        refine ⟨_, rfl, ?_⟩
        cases a : ss.any fun y => !(decide (y.2 = r.2)) && covM y.2 r.2 with
        | true =>
          rw [a] at no
          exact no _ e5 rfl
        | false =>
          rw [a] at yes
          exact ⟨_, rfl, yes _ e5 rfl⟩
    · intro H5 e5 hd5
      have ef : ((List.range (ss.map fun r => V.ref r.1).length).filter fun i => !(ss.any fun y => !(decide (y.2 = (ss.getD i (0, (0, []))).2)) && covM y.2 (ss.getD i (0, (0, []))).2)).map (fun i => V.ref (ss.getD i (0, (0, []))).1) = (ss.filter fun r => !(ss.any fun y => !(decide (y.2 = r.2)) && covM y.2 r.2)).map fun r => V.ref r.1 := by
        rw [lm]
        exact filt_range (0, (0, [])) (fun r : Addr × OpR => !(ss.any fun y => !(decide (y.2 = r.2)) && covM y.2 r.2)) (fun r => V.ref r.1) ss
      rw [ef] at hd5
      refine ⟨D, _, rfl, .inl ⟨SqL.of hd5, fun q nq => k _ q _ (e0.trans (g2.trans (e5.trans (grow nq)))) upd_same ?_⟩⟩
      rw [fin]
      have := rowsO_of (K := K) (H := upd H5 q (.tup ((ss.filter fun r => !(ss.any fun y => !(decide (y.2 = r.2)) && covM y.2 r.2)).map fun r => V.ref r.1))) (ps := (ss.filter fun r => !(ss.any fun y => !(decide (y.2 = r.2)) && covM y.2 r.2)).map fun r => (V.ref r.1, r.2)) fun p m => by
        obtain ⟨r, mr, rfl⟩ := List.mem_map.mp m
        exact (hS r (List.mem_filter.mp mr).1).mono (e5.trans (grow nq))
      rw [List.map_map, List.map_map] at this
      exact this
def spFee : Sp := sp1 fun a H Q => ∃ (p : Addr), a = .ref p ∧ BagAt H p ∧ ∀ d : Int, 0 ≤ d → d < 1000000 → Q (.int d) H
theorem c__law_fee (T : Top K mg C_Open C_OpenTable A_OpenTable_reading) : Cal P w K mg base 2 "_law_fee" spFee [] := by
  obtain ⟨f, fd, F, df⟩ := T.d__law_fee
  refine cal_of F df (fn1 F sc__law_fee fun cdv A outer s H a Q E hr h => ?_) fun _ _ _ _ _ _ us hl => match us, hl with | [_], _ => rfl
  have nd := sc__law_fee.nd
  obtain ⟨p, rfl, hb, k⟩ := h
  refine ⟨_, (pss_cons 
      (ps_set (i := 1) nd rfl (Or.inl rfl) (pe_c (c__law_draw T) hr (by decide) (by rfl) (pa_cons (pv 0) (pa_cons pe_int pa_nil)))) (pss_cons 
      (ps_if (pt_cmpR (lt_K (K := K) rfl hr) (pv 1) pe_int (nomark _)) (pss_one 
      (ps_ret (pe_op op_fdivW (pv 1) pe_int))) pss_nil) (pss_one 
      (ps_ret (pe_c (c__law_draw T) hr (by decide) (by rfl) (pa_cons (pv 0) (pa_cons pe_int pa_nil))))))), ?_⟩
  refine ⟨_, rfl, _, _, rfl, p, 20, rfl, rfl, hb, by decide, small_log (by decide) (by decide), fun d d0 d1 => ?_⟩
  refine ⟨_, rfl, .inl ⟨_, _, rfl, rfl, _, rfl, ite2 (fun c1 => ?_) (fun c1 => ?_)⟩⟩
  · refine ⟨_, rfl, _, _, rfl, rfl, ⟨by decide, Nat.lt_of_le_of_lt (Nat.le_of_eq rfl) (by decide)⟩, k _ (by omega) (by omega)⟩
  · exact ⟨_, rfl, _, _, rfl, p, 1000000, rfl, rfl, hb, by decide, small_log (by decide) (by decide), fun d d0 d1 => k d d0 d1⟩
def spLRowO (K : PySem.W.Frag) : Sp := sp3 fun a b c H Q => ∃ p, a = .ref p ∧ b = .str "open" ∧ c = .int 2 ∧ BagAt H p ∧ ∀ (H' : Hp) (v : V) (r : OpR), Same H H' → RowV K H' v r → canon r = r → 0 ≤ r.1 → r.1 < 1000000 → r.2.length ≤ 3 → (∀ z ∈ r.2, z ∈ abcN) → Q v H'
theorem c__law_row (T : Top K mg C_Open C_OpenTable A_OpenTable_reading) : Cal P w K mg base 3 "_law_row" (spLRowO K) [] := by
  obtain ⟨f, fd, F, df⟩ := T.d__law_row
  refine cal_of F df (fn3 F sc__law_row fun cdv A outer s H a b c Q E hr h => ?_) fun _ _ _ _ _ _ us hl => match us, hl with | [_, _, _], _ => rfl
  have nd := sc__law_row.nd
  obtain ⟨p, rfl, rfl, rfl, hb, k⟩ := h
  refine ⟨_, (pss_cons 
      (ps_if (pt_cmpR (eq_K (K := K) rfl hr) (pv 1) pe_str (nomark _)) (pss_one ps_never) pss_nil) (pss_cons 
      (ps_if (pt_cmpR (eq_K (K := K) rfl hr) (pv 1) pe_str (nomark _)) (pss_cons 
      (ps_set (i := 3) nd rfl (Or.inl rfl) (pe_c (c__law_of T) hr (by decide) (by rfl) (pa_cons (pv 0) (pa_cons (pe_lst (pa_cons pe_int (pa_cons pe_int (pa_cons pe_int (pa_cons pe_int (pa_cons pe_int (pa_cons pe_int pa_nil))))))) pa_nil)))) (pss_one 
      (ps_ret (pe_tup (pa_cons (pe_c (c__law_fee T) hr (by decide) (by rfl) (pa_cons (pv 0) pa_nil)) (pa_cons (pe_callTy (cr_tupF (K := K) rfl) (by rfl) T.tuple (by decide +kernel) (pa_cons (pe_callB (sortD_K (K := K) rfl hr) (by rfl) T.sorted (by decide +kernel) (pa_cons (pe_lc (own := [("k", 4)]) rfl nd (pi_range1 (by rfl) T.range (pa_cons (pv 3) pa_nil)) (blkOk_by (N := ["bag", "kind", "wide", "many", "k"]) (sc := fnScope s__law_row) (by decide +kernel)) (fun _ _ _ _ _ => (pg_name (i := 4) nd rfl (Or.inl rfl))) (fun _ _ _ _ _ => pts_nil) (fun _ _ _ _ _ => (pe_c (c__law_of T) hr (by decide) (by rfl) (pa_cons (pv 0) (pa_cons (pe_lst (pa_cons pe_str (pa_cons pe_str (pa_cons pe_str (pa_cons pe_str pa_nil))))) pa_nil))))) pa_nil)) pa_nil)) pa_nil)))))) pss_nil) (pss_one 
      (ps_ret (pe_tup (pa_cons (pe_c (c__law_fee T) hr (by decide) (by rfl) (pa_cons (pv 0) pa_nil)) (pa_cons (pe_c (c__law_draw T) hr (by decide) (by rfl) (pa_cons (pv 0) (pa_cons pe_int pa_nil))) pa_nil))))))), ?_⟩
  refine ⟨_, rfl, .inl ⟨rfl, _, rfl, iteF ?_⟩⟩
  refine ⟨_, rfl, .inl ⟨rfl, _, rfl, iteT ?_⟩⟩
  refine ⟨_, rfl, Nat.le_of_ble_eq_true rfl, fun c nc => ?_⟩
  have e1 := grow (o := .lst [.int 0, .int 1, .int 1, .int 2, .int 2, .int 3]) nc
  refine ⟨_, _, rfl, p, rfl, hb.mono e1, .inl ⟨c, _, rfl, .inl (SqL.of upd_same), Nat.le_of_ble_eq_true rfl, Nat.le_of_ble_eq_true rfl, fun x hx => ?_⟩⟩
  obtain ⟨n, rfl, n3⟩ : ∃ n : Nat, x = .int n ∧ n ≤ 3 := by
    simp only [List.mem_cons, List.not_mem_nil, or_false] at hx
    rcases hx with rfl | rfl | rfl | rfl | rfl | rfl
    · exact ⟨0, rfl, by decide⟩
    · exact ⟨1, rfl, by decide⟩
    · exact ⟨1, rfl, by decide⟩
    · exact ⟨2, rfl, by decide⟩
    · exact ⟨2, rfl, by decide⟩
    · exact ⟨3, rfl, by decide⟩
  generalize upd H c _ = H1 at e1 ⊢
  refine ⟨_, rfl, _, rfl, p, rfl, hb.mono e1, fun fee f0 f1 => ?_⟩
  refine ⟨_, rfl, (n : Int), rfl, by omega, by omega, fun D hD => ?_⟩
  refine lc_some walk_range (fun _ v _ => ∃ z : Str, v = .str z ∧ z ∈ abcN) grow_fn (by omega) hD (fun _ _ _ _ _ h => h) (fun _ _ => trivial) ?_ ?_
  · rintro i x H3 H4 hi e _ ⟨rfl, rfl⟩ R kk
    refine ⟨rfl, _, rfl, Nat.le_of_ble_eq_true rfl, fun c2 nc2 => ?_⟩
    have e2 := grow (o := .lst [.str "a", .str "b", .str "c", .str "ab"]) nc2
    refine ⟨_, _, rfl, p, rfl, ((hb.mono e1).mono e).mono e2, .inl ⟨c2, _, rfl, .inl (SqL.of upd_same), Nat.le_of_ble_eq_true rfl, Nat.le_of_ble_eq_true rfl, fun x hx => ?_⟩⟩
    refine kk _ _ e2 fun _ => ?_
    simp only [List.mem_cons, List.not_mem_nil, or_false] at hx
    unfold abcN
    rcases hx with rfl | rfl | rfl | rfl <;> exact ⟨_, rfl, by simp⟩
  · intro xs H3 e3 hx hl hp
    obtain ⟨zs, rfl, hz⟩ : ∃ zs : List Str, xs = zs.map V.str ∧ ∀ z ∈ zs, z ∈ abcN := by
      refine ⟨xs.map fun v => match v with | .str z => z | _ => "", ?_, fun z m => ?_⟩
      · rw [List.map_map]
        conv => lhs; rw [← List.map_id xs]
        refine List.map_congr_left fun v m => ?_
        obtain ⟨i, g⟩ := List.mem_iff_getElem?.mp m
        obtain ⟨z, rfl, _⟩ := hp i v g
        rfl
      · obtain ⟨v, mv, rfl⟩ := List.mem_map.mp m
        obtain ⟨i, g⟩ := List.mem_iff_getElem?.mp mv
        obtain ⟨z, rfl, mz⟩ := hp i v g
        exact mz
    rw [List.length_map] at hl
    obtain ⟨z1, z2, z3⟩ := strZ_ok (K := K) (H := H3) zs
    refine ⟨D, strZ zs, rfl, .inl (by rw [strZ_fst]; exact SqL.of hx), z1, z2, z3, fun c3 nc3 => ⟨c3, _, rfl, SqL.of upd_same, fun l o nl fz => ⟨Nat.le_of_ble_eq_true rfl, fun t2 nt2 => ?_⟩⟩⟩
    have g1 := grow (o := .lst ((sortD (strZ zs)).map Prod.fst)) nc3
    have g2 := g1.trans (grow (o := o) nl)
    have fz : ∀ H0 : Hp, FrzT (upd H0 l o) l ((sortL zs).map V.str) := fun H0 => sort_strs zs ▸ fz H0
    have fl := (fz (upd H3 c3 (.lst ((sortD (strZ zs)).map Prod.fst)))).mono (grow (o := .tup [.int fee, .ref l]) nt2)
    exact k _ _ (fee, sortL zs) (e1.trans (e3.trans (g2.trans (grow nt2)))) ⟨t2, l, rfl, SqT.of upd_same, fl⟩ (canon_canon (fee, zs)) f0 f1 (by
      show (sortL zs).length ≤ 3
      unfold sortL
      rw [List.length_mergeSort]
      omega) fun z m => hz z (List.mem_mergeSort.mp m)
def spOpN (K : PySem.W.Frag) : Sp := sp1 fun a H Q => ∃ p, a = .ref p ∧ BagAt H p ∧ ∀ (H' : Hp) (v : V) (S : List OpR), Same H H' → OptO K H' v S → LotK abcN S → Q v H'
theorem c__law_open_or_none (T : Top K mg C_Open C_OpenTable A_OpenTable_reading) : Cal P w K mg base 4 "_law_open_or_none" (spOpN K) [] := by
  obtain ⟨f, fd, F, df⟩ := T.d__law_open_or_none
  refine cal_of F df (fn1 F sc__law_open_or_none fun cdv A outer s H a Q E hr h => ?_) fun _ _ _ _ _ _ us hl => match us, hl with | [_], _ => rfl
  have nd := sc__law_open_or_none.nd
  obtain ⟨p, rfl, hb, k⟩ := h
  refine ⟨_, (pss_cons 
      (ps_if (pt_cmpR (eq_K (K := K) rfl hr) (pe_c (c__law_draw T) hr (by decide) (by rfl) (pa_cons (pv 0) (pa_cons pe_int pa_nil))) pe_int (nomark _)) (pss_one 
      (ps_ret pe_non)) pss_nil) (pss_one 
      (ps_ret (pe_c (c__law_open T) hr (by decide) (by rfl) (pa_cons (pe_lc (own := [("k", 1)]) rfl nd (pi_range1 (by rfl) T.range (pa_cons (pe_op op_addU pe_int (pe_c (c__law_draw T) hr (by decide) (by rfl) (pa_cons (pv 0) (pa_cons pe_int pa_nil)))) pa_nil)) (blkOk_by (N := ["bag", "k"]) (sc := fnScope s__law_open_or_none) (by decide +kernel)) (fun _ _ _ _ _ => (pg_name (i := 1) nd rfl (Or.inl rfl))) (fun _ _ _ _ _ => pts_nil) (fun _ _ _ _ _ => (pe_c (c__law_row T) hr (by decide) (by rfl) (pa_cons (pv 0) (pa_cons pe_str (pa_cons pe_int pa_nil)))))) pa_nil))))), ?_⟩
  refine ⟨_, rfl, _, _, rfl, p, 8, rfl, rfl, hb, by decide, small_log (by decide) (by decide), fun d _ _ => .inl ⟨rfl, _, rfl, ite2 (fun _ => ?_) (fun _ => ?_)⟩⟩
  · exact k H .non [] (Same.refl _) (.inl ⟨rfl, rfl⟩) (LotK.nil _)
  refine ⟨_, rfl, _, _, rfl, p, 3, rfl, rfl, hb, by decide, small_log (by decide) (by decide), fun d d0 d3 => ?_⟩
  obtain ⟨n, rfl⟩ := Int.eq_ofNat_of_zero_le d0
  refine .inl ⟨_, _, rfl, rfl, _, rfl, by omega, by omega, fun D hD => ?_⟩
  refine lc_some walk_range (fun _ v H' => ∃ r, RowV K H' v r ∧ canon r = r ∧ 0 ≤ r.1 ∧ r.1 < 1000000 ∧ r.2.length ≤ 3 ∧ ∀ z ∈ r.2, z ∈ abcN) grow_fn (by omega) hD (fun _ _ _ _ e ⟨r, h, x⟩ => ⟨r, h.mono e, x⟩) (fun _ _ => trivial) ?_ ?_
  · rintro i x H3 H4 hi e ⟨acc, hacc⟩ ⟨rfl, rfl⟩ R kk
    exact ⟨rfl, _, rfl, _, _, _, rfl, p, rfl, rfl, rfl, hb.mono e, fun H5 v r e5 hr c1 r0 r1 l3 nm => kk _ _ e5 fun _ => ⟨r, RowV.upd (e5 _ _ hacc) hr, c1, r0, r1, l3, nm⟩⟩
  · intro xs H3 e3 hx hl hp
    obtain ⟨ps, rfl, hps⟩ := rows_of (R := fun v r => RowV K H3 v r ∧ canon r = r ∧ 0 ≤ r.1 ∧ r.1 < 1000000 ∧ r.2.length ≤ 3 ∧ ∀ z ∈ r.2, z ∈ abcN) hp
    rw [List.length_map] at hl
    have lps : ps.length ≤ 3 := by omega
    have cn : ∀ r ∈ ps.map Prod.snd, canon r = r := fun r m => by
      obtain ⟨q, mq, rfl⟩ := List.mem_map.mp m
      exact (hps q mq).2.1
    have oo := OO.out cn
    have ne : ps.map Prod.snd ≠ [] := fun z => by
      have := congrArg List.length z
      rw [List.length_map] at this
      simp only [List.length_nil] at this
      omega
    have lo := (out_len (rs := ps.map Prod.snd) fun r m => by
      obtain ⟨q, mq, rfl⟩ := List.mem_map.mp m
      exact Nat.le_trans (hps q mq).2.2.2.2.1 (by decide)).2
    rw [List.length_map] at lo
    refine ⟨_, rfl, D, ps, rfl, .inl (SqL.of hx), fun q m => (hps q m).1.op, by omega, fun q m => Nat.le_trans (hps q m).2.2.2.2.1 (by decide), fun H' D2 ys e hD2 hy => ?_⟩
    refine k H' (.ref D2) _ (e3.trans e) (.inr ⟨oo.ne ne, D2, ys, rfl, hD2, hy⟩) ⟨out_out _, by omega, fun r m => ?_⟩
    obtain ⟨q, mq, rfl⟩ := List.mem_map.mp (oo.sub r m)
    exact (hps q mq).2.2
def spLIsNumber (K : PySem.W.Frag) : Sp := sp2 fun a b H Q => ∃ l, AnyV K H a ∧ b = .int l ∧ Q (.bl (numB a l none)) H
theorem c__law_is_number (T : Top K mg C_Open C_OpenTable A_OpenTable_reading) : Cal P w K mg base 1 "_law_is_number" (spLIsNumber K) [] := by
  obtain ⟨f, fd, F, df⟩ := T.d__law_is_number
  refine cal_of F df (fn2 F sc__law_is_number fun cdv A outer s H a b Q E hr h => ?_) fun _ _ _ _ _ _ us hl => match us, hl with | [_, _], _ => rfl
  have nd := sc__law_is_number.nd
  obtain ⟨l, ha, rfl, q⟩ := h
  refine ⟨_, (pss_one 
      (ps_ret (pe_and (pe_callB (isi_K (K := K) rfl) (by rfl) T.isinstance (by decide +kernel) (pa_cons (pv 0) (pa_cons (pe_bltn (v := .ty "int") (by rfl) T.int (by decide +kernel) rfl) pa_nil))) (pe_and (pe_not (pe_callB (isi_K (K := K) rfl) (by rfl) T.isinstance (by decide +kernel) (pa_cons (pv 0) (pa_cons (pe_bltn (v := .ty "bool") (by rfl) T.bool (by decide +kernel) rfl) pa_nil)))) (pe_one (pe_cmpR op_geU (pv 0) (pv 1) (nomark _))))))), ?_⟩
  rcases ha.intOr with ⟨i, rfl⟩ | ⟨b, rfl⟩ | ⟨no, t, ty, kb⟩
  · refine ⟨_, rfl, .inl ⟨_, _, _, true, rfl, .base (.int i), by decide +kernel, _, rfl, iteT ?_⟩⟩
    refine ⟨_, rfl, .inl ⟨_, _, _, false, rfl, .base (.int i), by decide +kernel, _, rfl, _, rfl, iteT ?_⟩⟩
    refine ⟨_, rfl, _, rfl, _, _, rfl, rfl, ?_⟩
    rw [show numB (.int i) l none = decide (l ≤ i) from Bool.and_true _] at q
    exact q
  · refine ⟨_, rfl, .inl ⟨_, _, _, true, rfl, .base (.bl b), by decide +kernel, _, rfl, iteT ?_⟩⟩
    exact ⟨_, rfl, .inl ⟨_, _, _, true, rfl, .base (.bl b), by decide +kernel, _, rfl, _, rfl, iteF q⟩⟩
  · rw [numB_no no] at q
    exact ⟨_, rfl, .inl ⟨_, _, _, false, rfl, ty, kb, _, rfl, iteF q⟩⟩
def spTupleOf (K : PySem.W.Frag) : Sp := sp2 fun a b H Q => ∃ (A : Addr) (xs : List V) (n : Nat), a = .ref A ∧ SqT K H A xs ∧ b = .int n ∧ xs.length = n ∧ Q (.bl true) H
theorem c__law_tuple_of (T : Top K mg C_Open C_OpenTable A_OpenTable_reading) : Cal P w K mg base 1 "_law_tuple_of" (spTupleOf K) [] := by
  obtain ⟨f, fd, F, df⟩ := T.d__law_tuple_of
  refine cal_of F df (fn2 F sc__law_tuple_of fun cdv A outer s H a b Q E hr h => ?_) fun _ _ _ _ _ _ us hl => match us, hl with | [_, _], _ => rfl
  have nd := sc__law_tuple_of.nd
  obtain ⟨A1, xs, n, rfl, hs, rfl, rfl, q⟩ := h
  refine ⟨_, (pss_one 
      (ps_ret (pe_and (pe_callB (isi_K (K := K) rfl) (by rfl) T.isinstance (by decide +kernel) (pa_cons (pv 0) (pa_cons (pe_bltn (v := .ty "tuple") (by rfl) T.tuple (by decide +kernel) rfl) pa_nil))) (pe_one (pe_cmpR (eq_K (K := K) rfl hr) (pe_callB (len_K (K := K) rfl) (by rfl) T.len (by decide +kernel) (pa_cons (pv 0) pa_nil)) (pv 1) (nomark _)))))), ?_⟩
  refine ⟨_, rfl, .inl ⟨_, _, _, true, rfl, sqt_ty hs, by decide +kernel, _, rfl, iteT ?_⟩⟩
  refine ⟨_, rfl, .inl ⟨A1, _, rfl, .inr hs, _, rfl, .inl ⟨rfl, ?_⟩⟩⟩
  rw [decide_eq_true (rfl : V.int (xs.length : Int) = V.int xs.length)]
  exact q
def spTitle (K : PySem.W.Frag) : Sp := sp1 fun a H Q => AnyV K H a ∧ Then H Q (.bl (nameB a))
theorem c__law_is_title (T : Top K mg C_Open C_OpenTable A_OpenTable_reading) : Cal P w K mg base 1 "_law_is_title" (spTitle K) [] := by
  obtain ⟨f, fd, F, df⟩ := T.d__law_is_title
  refine cal_of F df (fn1 F sc__law_is_title fun cdv A outer s H a Q E hr h => ?_) fun _ _ _ _ _ _ us hl => match us, hl with | [_], _ => rfl
  have nd := sc__law_is_title.nd
  obtain ⟨ha, q⟩ := h
  refine ⟨_, (pss_cons 
      (ps_if (PW.pt (pw_or (pt_not (pt_val (pe_callB (isi_K (K := K) rfl) (by rfl) T.isinstance (by decide +kernel) (pa_cons (pv 0) (pa_cons (pe_bltn (v := .ty "str") (by rfl) T.str (by decide +kernel) rfl) pa_nil))))) (pw_or (pt_cmpR (lt_K (K := K) rfl hr) (pe_callB (len_K (K := K) rfl) (by rfl) T.len (by decide +kernel) (pa_cons (pv 0) pa_nil)) pe_int (nomark _)) (pw_or1 (pt_cmpR op_gtU (pe_callB (len_K (K := K) rfl) (by rfl) T.len (by decide +kernel) (pa_cons (pv 0) pa_nil)) pe_int (nomark _)))))) (pss_one 
      (ps_ret pe_bl)) pss_nil) (pss_one 
      (ps_ret (pe_cmpR (eq_K (K := K) rfl hr) (pe_lc (own := [("sign", 1)]) rfl nd (pi_K (K := K) rfl (pv 0)) (blkOk_by (N := ["thing", "sign"]) (sc := fnScope s__law_is_title) (by decide +kernel)) (fun _ _ _ _ _ => (pg_name (i := 1) nd rfl (Or.inl rfl))) (fun _ _ _ _ _ => (pts_one (pt_cmpR (notIn_K (K := K) rfl) (pv 1) pe_str (by with_unfolding_all rfl)))) (fun _ _ _ _ _ => (pv 1))) (pe_lst pa_nil) (nomark _))))), ?_⟩
  rcases ha.strOr with ⟨z, rfl, hz⟩ | ⟨no, t, ty, kb⟩
  · refine ⟨_, rfl, .inl ⟨_, _, _, true, rfl, .base (.str z), by decide +kernel, _, rfl, iteF ?_⟩⟩
    have no1 : ¬ (1 ≤ z.length ∧ z.length ≤ 8) → Q (.bl false) H := fun h => by
      have k := q.here
      rw [show nameB (.str z) = false by
        show (decide (1 ≤ z.length) && decide (z.length ≤ 8) && z.cps.toList.all letC) = _
        rw [← Bool.decide_and, decide_eq_false h, Bool.false_and]] at k
      exact k
    refine ⟨_, rfl, .inr ⟨z, rfl, size5' hz, .inl ⟨_, _, rfl, rfl, _, rfl, ite2 (fun h1 => ?_) (fun h1 => ?_)⟩⟩⟩
    · have h1 := of_decide_eq_true h1
      exact iteT (no1 (by omega))
    · have h1 : ¬ (z.length : Int) < 1 := fun e => h1 (decide_eq_true e)
      refine ⟨_, rfl, .inr ⟨z, rfl, size5' hz, _, _, rfl, rfl, _, rfl, ite2 (fun h8 => ?_) (fun h8 => ?_)⟩⟩
      · have h8 := of_decide_eq_true h8
        exact no1 (by omega)
      · have h8 : ¬ (8 : Int) < z.length := fun e => h8 (decide_eq_true e)
        refine ⟨_, rfl, .inr (.inr ⟨z, rfl, fun D hD => ?_⟩)⟩
        refine lc_filt walk_str (fun i => !letC (z.cps.toList.getD i 0)) (fun i => .str ⟨#[z.cps.toList.getD i 0]⟩) ?_ (by show z.length ≤ 100000; exact hz) hD (fun _ _ => trivial) ?_ ?_
        · rintro i H x H' ⟨rfl, _⟩
          exact Same.refl _
        · rintro i x H1 H2 hi e ⟨rfl, c, hc, rfl⟩ F R k1 k2
          have ec : z.cps.toList.getD i 0 = c := by
            rw [List.getD_eq_getElem?_getD, Array.getElem?_toList, hc]
            rfl
          refine ⟨rfl, _, rfl, .inl ⟨c, az, rfl, rfl, _, rfl, ?_⟩⟩
          rw [az_in]
          have k1 := k1 H2 (Same.refl _)
          have k2 := k2 H2 (Same.refl _)
          rw [ec] at k1 k2
          cases hl : letC c with
          | false =>
            rw [hl] at k1
            exact iteT ⟨_, rfl, k1 rfl⟩
          | true =>
            rw [hl] at k2
            exact iteF (k2 rfl)
        · intro H1 e hd
          refine ⟨Nat.zero_le _, fun p np => .inr ⟨_, .list [], .lst (SqL.of ((grow np) _ _ hd)) (dpAll_map (g := fun i => .str ⟨#[z.cps.toList.getD i 0]⟩) fun _ _ => .str _), .lst (SqL.of upd_same) .nil, ?_, ?_⟩⟩
          · exact Nat.le_trans (Nat.min_le_right _ _) (by decide)
          · rw [eqv_list_nil]
            have ek : nameB (.str z) = (List.map (fun i => PyData.str ⟨#[z.cps.toList.getD i 0]⟩) ((List.range z.cps.size).filter fun i => !letC (z.cps.toList.getD i 0))).isEmpty := by
              show (decide (1 ≤ z.length) && decide (z.length ≤ 8) && z.cps.toList.all letC) = _
              rw [decide_eq_true (show 1 ≤ z.length by omega), decide_eq_true (show z.length ≤ 8 by omega), Bool.true_and, Bool.true_and, List.isEmpty_map, str_len]
              exact (filt_none z.cps.toList).symm
            rw [ek] at q
            exact q _ (e.trans (grow np))
  · refine ⟨_, rfl, .inl ⟨_, _, _, false, rfl, ty, kb, _, rfl, iteT ?_⟩⟩
    have := q.here
    rw [nameB_no no] at this
    exact this
def spIsO (K : PySem.W.Frag) : Sp := sp2 fun a b H Q => ∃ (A B : Addr) (xs : List V) (S : List OpR), a = .ref A ∧ SqT K H A [.str "open", .str "a"] ∧ b = .ref B ∧ H B = some (.tup xs) ∧ RowsO K H xs S ∧ S ≠ [] ∧ S.length ≤ 1000 ∧ (∀ r ∈ S, 0 ≤ r.1 ∧ r.2.length ≤ 1000 ∧ (∀ z ∈ r.2, z ∈ abcN) ∧ canon r = r) ∧ outM S = S ∧
  ∀ H', Same H H' → Q (.bl true) H'
theorem eqv_opens (S : List OpR) : PyData.eqv (.tuple (S.map openD)) (.tuple (S.map openD)) = true := by
  show PyData.eqvAll (S.map openD) (S.map openD) = true
  induction S with
  | nil => rfl
  | cons t r ih =>
    show (PyData.eqv (openD t) (openD t) && PyData.eqvAll (r.map openD) (r.map openD)) = true
    rw [eqv_op, decide_eq_true rfl, ih]
    rfl
theorem depth_opens : ∀ S : List OpR, PyData.depthAll (S.map openD) ≤ 2
  | [] => by decide
  | r :: S => by
    have h1 := depth_lot r.2
    have h2 := depth_opens S
    show max (openD r).depth (PyData.depthAll (S.map openD)) ≤ 2
    have : (openD r).depth ≤ 2 := by
      simp only [openD, PyData.depth, PyData.depthAll] at *
      omega
    omega
theorem eqv_strsS (l : List Str) : PyData.eqv (.list (l.map .str)) (.list (l.map .str)) = true := by
  show PyData.eqvAll (l.map .str) (l.map .str) = true
  induction l with
  | nil => rfl
  | cons z r ih =>
    show (PyData.eqv (.str z) (.str z) && PyData.eqvAll (r.map .str) (r.map .str)) = true
    rw [ih, Bool.and_true]
    show decide (z = z) = true
    exact decide_eq_true rfl
theorem abc_ok : ∀ z ∈ abcN, z.length ≤ 100000 := by decide +kernel
theorem abc_name : ∀ z ∈ abcN, nameB (.str z) = true := by decide +kernel
theorem c__law_is (T : Top K mg C_Open C_OpenTable A_OpenTable_reading) : Cal P w K mg base 3 "_law_is" (spIsO K) [] := by
  obtain ⟨f, fd, F, df⟩ := T.d__law_is
  refine cal_of F df (fn2 F sc__law_is fun cdv A outer s H a b Q E hr h => ?_) fun _ _ _ _ _ _ us hl => match us, hl with | [_, _], _ => rfl
  have nd := sc__law_is.nd
  obtain ⟨A1, B1, xs, S, rfl, hA, rfl, hB, hx, ne, lS, bd, out, k⟩ := h
  have sB : SqT K H B1 xs := SqT.of hB
  have lx := hx.len
  have z0 := List.length_pos_iff.mpr ne
  refine ⟨_, (pss_cons 
      (ps_set (i := 2) nd rfl (Or.inl rfl) (pe_ix (ix_K (K := K) rfl) (pv 0) pe_int (fun _ _ => rfl))) (pss_cons 
      (ps_if (pt_cmpR (eq_K (K := K) rfl hr) (pv 2) pe_str (nomark _)) (pss_one ps_never) pss_nil) (pss_cons 
      (ps_if (pt_cmpR (eq_K (K := K) rfl hr) (pv 2) pe_str (nomark _)) (pss_one ps_never) pss_nil) (pss_cons 
      (ps_if (pt_cmpR (eq_K (K := K) rfl hr) (pv 2) pe_str (nomark _)) (pss_one ps_never) pss_nil) (pss_cons 
      (ps_if (PW.pt (pw_or (pt_not (pt_val (pe_callB (isi_K (K := K) rfl) (by rfl) T.isinstance (by decide +kernel) (pa_cons (pv 1) (pa_cons (pe_bltn (v := .ty "tuple") (by rfl) T.tuple (by decide +kernel) rfl) pa_nil))))) (pw_or1 (pt_cmpR (eq_K (K := K) rfl hr) (pe_callB (len_K (K := K) rfl) (by rfl) T.len (by decide +kernel) (pa_cons (pv 1) pa_nil)) pe_int (nomark _))))) (pss_one 
      (ps_ret pe_bl)) pss_nil) (pss_cons 
      (ps_if (pt_cmpR (eq_K (K := K) rfl hr) (pv 2) pe_str (nomark _)) (pss_cons ps_never (pss_one ps_never)) pss_nil) (pss_cons 
      (ps_if (pt_cmpR (eq_K (K := K) rfl hr) (pv 2) pe_str (nomark _)) (pss_cons 
      (ps_for PassesOwn.never rfl (pi_K (K := K) rfl (pv 1)) (pg_name (i := 3) nd rfl (Or.inl rfl)) (pss_cons 
      (ps_if (PW.pt (pw_or (pt_not (pt_val (pe_c (c__law_tuple_of T) hr (by decide) (by rfl) (pa_cons (pv 3) (pa_cons pe_int pa_nil))))) (pw_or (pt_not (pt_val (pe_c (c__law_is_number T) hr (by decide) (by rfl) (pa_cons (pe_ix (ix_K (K := K) rfl) (pv 3) pe_int (fun _ _ => rfl)) (pa_cons pe_int pa_nil))))) (pw_or1 (pt_not (pt_val (pe_callB (isi_K (K := K) rfl) (by rfl) T.isinstance (by decide +kernel) (pa_cons (pe_ix (ix_K (K := K) rfl) (pv 3) pe_int (fun _ _ => rfl)) (pa_cons (pe_bltn (v := .ty "tuple") (by rfl) T.tuple (by decide +kernel) rfl) pa_nil))))))))) (pss_one 
      (ps_ret pe_bl)) pss_nil) (pss_one 
      (ps_if (PW.pt (pw_or (pt_not (pt_val (pe_callB (all_K (K := K) rfl rfl) (by rfl) T.all (by decide +kernel) (pa_cons (pe_lc (own := [("y", 5)]) rfl nd (pi_K (K := K) rfl (pe_ix (ix_K (K := K) rfl) (pv 3) pe_int (fun _ _ => rfl))) (blkOk_by (N := ["spec", "thing", "kind", "x", "k", "y"]) (sc := fnScope s__law_is) (by decide +kernel)) (fun _ _ _ _ _ => (pg_name (i := 5) nd rfl (Or.inl rfl))) (fun _ _ _ _ _ => pts_nil) (fun _ _ _ _ _ => (pe_c (c__law_is_title T) hr (by decide) (by rfl) (pa_cons (pv 5) pa_nil)))) pa_nil)))) (pw_or1 (pt_cmpR (ne_K (K := K) rfl hr) (pe_callTy (listOf_K (K := K) rfl) (by rfl) T.list (by decide +kernel) (pa_cons (pe_ix (ix_K (K := K) rfl) (pv 3) pe_int (fun _ _ => rfl)) pa_nil)) (pe_callB (sortD_K (K := K) rfl hr) (by rfl) T.sorted (by decide +kernel) (pa_cons (pe_ix (ix_K (K := K) rfl) (pv 3) pe_int (fun _ _ => rfl)) pa_nil)) (nomark _))))) (pss_one 
      (ps_ret pe_bl)) pss_nil)))) (pss_one 
      (ps_ret (pe_cmpR (eq_K (K := K) rfl hr) (pv 1) (pe_c (c__law_open T) hr (by decide) (by rfl) (pa_cons (pv 1) pa_nil)) (nomark _))))) pss_nil) (pss_cons 
      (ps_if (pt_cmpR (eq_K (K := K) rfl hr) (pv 2) pe_str (nomark _)) (pss_cons ps_never (pss_one ps_never)) pss_nil) (pss_cons 
      (ps_if (pt_cmpR (eq_K (K := K) rfl hr) (pv 2) pe_str (nomark _)) (pss_cons ps_never (pss_cons ps_never (pss_one ps_never))) pss_nil) (pss_cons 
      (ps_if (pt_cmpR (eq_K (K := K) rfl hr) (pv 2) pe_str (nomark _)) (pss_cons ps_never (pss_one ps_never)) pss_nil) (pss_one 
      ps_never))))))))))), ?_⟩
  refine ⟨_, rfl, .inr (.inl ⟨A1, _, _, _, rfl, rfl, hA, at0, ?_⟩)⟩
  refine ⟨_, rfl, .inl ⟨rfl, _, rfl, iteF ?_⟩⟩
  refine ⟨_, rfl, .inl ⟨rfl, _, rfl, iteF ?_⟩⟩
  refine ⟨_, rfl, .inl ⟨rfl, _, rfl, iteF ?_⟩⟩
  refine ⟨_, rfl, .inl ⟨_, _, _, true, rfl, sqt_ty sB, by decide +kernel, _, rfl, iteF ?_⟩⟩
  refine ⟨_, rfl, .inl ⟨B1, _, rfl, .inr sB, .inl ⟨rfl, _, rfl, ?_⟩⟩⟩
  rw [show decide (V.int (xs.length : Int) = V.int 0) = false from decide_eq_false fun e => by have := V.int.inj e; omega]
  refine iteF ⟨_, rfl, .inl ⟨rfl, _, rfl, iteF ?_⟩⟩
  refine ⟨_, rfl, .inl ⟨rfl, _, rfl, iteT ?_⟩⟩
  refine ⟨_, rfl, .inr (.inl ⟨B1, rfl, ⟨_, sB⟩, ?_⟩)⟩
  refine for_it (walk_tup (xs := xs)) (fun i σ H' => Same H H' ∧ ∃ y3 y4 y5, σ = [some (.ref A1), some (.ref B1), some (.str "open"), y3, y4, y5]) ⟨Same.refl _, _, _, _, rfl⟩ (fun i σ H' _ ⟨e, _⟩ => same_tup e sB) ?_ ?_
  · rintro i x σ H1 H2 hi ⟨e, y3, y4, y5, rfl⟩ ⟨rfl, g⟩
    obtain ⟨r, gr, t, u, rfl, h1, h2⟩ := (hx.mono e).get g
    obtain ⟨b1, b2, b3, b4⟩ := bd r (List.mem_of_getElem? gr)
    refine ⟨_, rfl, _, _, rfl, t, _, 2, rfl, h1, rfl, rfl, _, rfl, iteF ?_⟩
    refine ⟨_, rfl, .inr (.inl ⟨t, _, _, _, rfl, rfl, h1, at0, _, _, rfl, 0, any_int _, rfl, ?_⟩)⟩
    rw [show numB (.int r.1) 0 none = true by show (decide (0 ≤ r.1) && true) = true; rw [decide_eq_true b1]; rfl]
    refine ⟨_, rfl, iteF ?_⟩
    refine ⟨_, rfl, .inr (.inl ⟨t, _, _, _, rfl, rfl, h1, at1, .inl ⟨_, _, _, true, rfl, sqt_ty h2.sq, by decide +kernel, _, rfl, iteF ?_⟩⟩)⟩
    have lm : (r.2.map V.str).length = r.2.length := List.length_map ..
    refine ⟨_, rfl, .inr (.inl ⟨t, _, _, _, rfl, rfl, h1, at1, .inr (.inl ⟨u, rfl, ⟨_, h2.sq⟩, fun D2 hD2 => ?_⟩)⟩)⟩
    refine lc_map (walk_tup (xs := r.2.map V.str)) (fun j => .bl true) grow_at (by omega) hD2 (fun H1 e1 => same_tup e1 h2.sq) ?_ ?_
    · rintro j v G3 G4 hj e2 ⟨rfl, g2⟩ W kk
      obtain ⟨z, gz, rfl⟩ := str_get g2
      refine ⟨rfl, _, rfl, _, rfl, any_str (abc_ok z (b3 z (List.mem_of_getElem? gz))), fun G5 e5 => ?_⟩
      rw [abc_name z (b3 z (List.mem_of_getElem? gz))]
      exact kk _ e5
    intro H5 e5 hd5
    refine ⟨D2, (List.range (r.2.map V.str).length).map fun _ => true, rfl, SqL.of (by rw [hd5, List.map_map]; rfl), ?_⟩
    rw [all_true]
    have h1 := same_tup e5 h1
    have h2 := h2.mono e5
    refine ⟨_, rfl, iteF ?_⟩
    refine ⟨_, rfl, .inr (.inl ⟨t, _, _, _, rfl, rfl, h1, at1, ?_⟩)⟩
    refine ⟨u, _, rfl, .inr h2.sq, fun q nq => ?_⟩
    have g1 := grow (o := .lst (r.2.map V.str)) nq
    have hq : (upd H5 q (.lst (r.2.map V.str))) q = some (.lst (r.2.map V.str)) := upd_same
    have h1 := same_tup g1 h1
    have h2 := h2.mono g1
    generalize upd H5 q _ = H6 at g1 hq h1 h2 ⊢
    obtain ⟨z1, z2, z3⟩ := strZ_ok (K := K) (H := H6) r.2
    refine ⟨_, rfl, .inr (.inl ⟨t, _, _, _, rfl, rfl, h1, at1, u, strZ r.2, rfl, .inr (by rw [strZ_fst]; exact h2.sq), z1, z2, z3, fun c nc => ?_⟩)⟩
    rw [sort_strs, show sortL r.2 = r.2 from congrArg Prod.snd b4]
    have g2 := grow (o := .lst (r.2.map V.str)) nc
    refine .inr ⟨.list (r.2.map .str), .list (r.2.map .str), .lst (SqL.of (g2 _ _ hq)) (dp_strs _), .lst (SqL.of upd_same) (dp_strs _), ?_, ?_⟩
    · rw [Nat.min_self]
      show PyData.depthAll (r.2.map PyData.str) + 1 ≤ 60
      rw [depth_strs]
      decide
    · rw [eqv_strsS]
      exact ⟨_, rfl, iteF ⟨(e.trans e5).trans (g1.trans g2), _, _, _, rfl⟩⟩
  · rintro σ H1 ⟨e, y3, y4, y5, rfl⟩
    obtain ⟨ps, rfl, rfl, hp⟩ := rowsO_pairs (hx.mono e)
    rw [List.length_map] at lS
    refine ⟨_, rfl, _, rfl, _, rfl, B1, ps, rfl, .inr (same_tup e sB), fun p m => (hp p m).op, by omega, fun p m => (bd p.2 (List.mem_map_of_mem m)).2.1, fun H2 D ys e2 hD hy => ?_⟩
    rw [out] at hy
    have e12 := e.trans e2
    refine .inr ⟨.tuple ((ps.map Prod.snd).map openD), .tuple ((ps.map Prod.snd).map openD), .tup (same_tup e2 (same_tup e sB)) (rowsO_dp (hx.mono e12)), .tup (SqT.of hD) (rowsO_dp hy), ?_, ?_⟩
    · rw [Nat.min_self]
      have := depth_opens (ps.map Prod.snd)
      show PyData.depthAll ((ps.map Prod.snd).map openD) + 1 ≤ 60
      omega
    · rw [eqv_opens]
      exact k _ e12
def spFitsO (K : PySem.W.Frag) : Sp := sp3 fun a b c H Q => ∃ (A B R : Addr) (xs ys : List V) (S W : List OpR), a = .ref A ∧ SqT K H A [.str "open", .str "a"] ∧ b = .ref B ∧ H B = some (.tup xs) ∧ RowsO K H xs S ∧ c = .ref R ∧ H R = some (.lst ys) ∧ RowsO K H ys W ∧
  S ≠ [] ∧ S.length ≤ 1000 ∧ W.length ≤ 1000 ∧ (∀ r ∈ S, 0 ≤ r.1 ∧ r.2.length ≤ 1000 ∧ (∀ z ∈ r.2, z ∈ abcN) ∧ canon r = r) ∧ outM S = S ∧ (∀ r ∈ W, r.2.length ≤ 1000 ∧ ∀ z ∈ r.2, z ∈ abcN) ∧ OO W S ∧ ∀ H', Same H H' → Q (.bl true) H'
theorem abc_str : ∀ z ∈ abcN, PyData.strOk z = true := by decide +kernel
theorem layS : ∀ l : List Str, (∀ z ∈ l, z ∈ abcN) → PyData.canLayAll0 (l.map PyData.str) = true
  | [], _ => by simp [PyData.canLayAll0]
  | z :: l, h => by
    have ih := layS l fun y m => h y (List.mem_cons_of_mem _ m)
    have := abc_str z (h z (List.mem_cons_self ..))
    simp [PyData.canLay0, PyData.canLayAll0] at ih ⊢
    exact ⟨this, ih⟩
theorem lay_op (r : OpR) (h : ∀ z ∈ r.2, z ∈ abcN) : PyData.canLay0 (openD r) = true := by
  simp [openD, lotD, PyData.canLay0, PyData.canLayAll0, layS _ h]
theorem depth_op (r : OpR) : (openD r).depth ≤ 2 := by
  have := depth_lot r.2
  simp only [openD, PyData.depth, PyData.depthAll] at *
  omega
theorem shaped_op (r : OpR) (n : ∀ z ∈ r.2, z ∈ abcN) : SeqAt.shaped (openD r) = true := by
  unfold SeqAt.shaped
  rw [lay_op r n, decide_eq_true (show (openD r).depth ≤ 64 from Nat.le_trans (depth_op r) (by decide))]
  rfl
theorem lay_ops : ∀ W : List OpR, (∀ r ∈ W, ∀ z ∈ r.2, z ∈ abcN) → PyData.canLayAll0 (W.map openD) = true
  | [], _ => by simp [PyData.canLayAll0]
  | r :: W, n => by
    have ih := lay_ops W fun x m => n x (List.mem_cons_of_mem _ m)
    simp only [List.map_cons, PyData.canLayAll0, ih, Bool.and_true]
    exact lay_op r (n r (List.mem_cons_self ..))
theorem shaped_ops (W : List OpR) (n : ∀ r ∈ W, ∀ z ∈ r.2, z ∈ abcN) : SeqAt.shaped (.list (W.map openD)) = true := by
  unfold SeqAt.shaped
  have h := depth_opens W
  have h2 : PyData.depth (.list (W.map openD)) ≤ 64 := by
    simp only [PyData.depth]
    omega
  rw [decide_eq_true h2]
  simp only [PyData.canLay0, lay_ops W n, Bool.true_and]
theorem any_eqvO (W : List OpR) (r : OpR) : (W.map openD).any (fun e => PyData.eqv e (openD r)) = W.any fun x => decide (x = r) := by
  rw [List.any_map]
  refine List.any_congr rfl fun x => ?_
  exact eqv_op x r
theorem c__law_fits_rows (T : Top K mg C_Open C_OpenTable A_OpenTable_reading) : Cal P w K mg base 4 "_law_fits_rows" (spFitsO K) [] := by
  obtain ⟨f, fd, F, df⟩ := T.d__law_fits_rows
  refine cal_of F df (fn3 F sc__law_fits_rows fun cdv A outer s H a b c Q E hr h => ?_) fun _ _ _ _ _ _ us hl => match us, hl with | [_, _, _], _ => rfl
  have nd := sc__law_fits_rows.nd
  obtain ⟨A1, B1, R, xs, ys, S, W, rfl, hA, rfl, hB, hx, rfl, hR, hy, ne, lS, lW, bd, out, bw, oo, k⟩ := h
  have lx := hx.len
  have ly := hy.len
  refine ⟨_, (pss_cons 
      (ps_if (PW.pt (pw_or (pt_not (pt_val (pe_c (c__law_is T) hr (by decide) (by rfl) (pa_cons (pv 0) (pa_cons (pv 1) pa_nil))))) (pw_or1 (pt_not (pt_val (pe_callB (all_K (K := K) rfl rfl) (by rfl) T.all (by decide +kernel) (pa_cons (pe_lc (own := [("x", 3)]) rfl nd (pi_K (K := K) rfl (pv 1)) (blkOk_by (N := ["spec", "told", "raw", "x", "y", "p", "q"]) (sc := fnScope s__law_fits_rows) (by decide +kernel)) (fun _ _ _ _ _ => (pg_name (i := 3) nd rfl (by first | exact Or.inr rfl | exact Or.inl rfl))) (fun _ _ _ _ _ => pts_nil) (fun _ _ _ _ _ => (pe_cmpR (in_D (K := K) rfl (room65 hr)) (pv 3) (pv 2) (by with_unfolding_all rfl)))) pa_nil))))))) (pss_one 
      (ps_ret pe_bl)) pss_nil) (pss_cons 
      (ps_if (pt_cmpR (eq_K (K := K) rfl hr) (pe_ix (ix_K (K := K) rfl) (pv 0) pe_int (fun _ _ => rfl)) pe_str (nomark _)) (pss_one ps_never) pss_nil) (pss_cons 
      (ps_if (pt_cmpR (eq_K (K := K) rfl hr) (pe_ix (ix_K (K := K) rfl) (pv 0) pe_int (fun _ _ => rfl)) pe_str (nomark _)) (pss_one 
      (ps_ret (pe_callB (all_K (K := K) rfl rfl) (by rfl) T.all (by decide +kernel) (pa_cons (pe_lc (own := [("x", 3)]) rfl nd (pi_K (K := K) rfl (pv 2)) (blkOk_by (N := ["spec", "told", "raw", "x", "y", "p", "q"]) (sc := fnScope s__law_fits_rows) (by decide +kernel)) (fun _ _ _ _ _ => (pg_name (i := 3) nd rfl (by first | exact Or.inr rfl | exact Or.inl rfl))) (fun _ _ _ _ _ => pts_nil) (fun _ _ _ _ _ => (pe_callB (any_K (K := K) rfl rfl) (by rfl) T.any (by decide +kernel) (pa_cons (pe_lc (own := [("y", 4)]) rfl nd (pi_K (K := K) rfl (pv 1)) (blkOk_by (by kernel_rfl)) (fun _ _ _ _ _ => (pg_name (i := 4) nd rfl (Or.inl rfl))) (fun _ _ _ _ _ => pts_nil) (fun _ _ _ _ _ => (pe_c (c__law_over T) hr (by decide) (by rfl) (pa_cons (pv 4) (pa_cons (pv 3) pa_nil))))) pa_nil)))) pa_nil)))) pss_nil) (pss_one 
      (ps_ret (pe_callB (all_K (K := K) rfl rfl) (by rfl) T.all (by decide +kernel) (pa_cons (pe_lc (own := [("x", 3)]) rfl nd (pi_K (K := K) rfl (pv 2)) (blkOk_by (N := ["spec", "told", "raw", "x", "y", "p", "q"]) (sc := fnScope s__law_fits_rows) (by decide +kernel)) (fun _ _ _ _ _ => (pg_name (i := 3) nd rfl (by first | exact Or.inr rfl | exact Or.inl rfl))) (fun _ _ _ _ _ => pts_nil) (fun _ _ _ _ _ => (pe_callB (any_K (K := K) rfl rfl) (by rfl) T.any (by decide +kernel) (pa_cons (pe_lc (own := [("y", 4)]) rfl nd (pi_K (K := K) rfl (pv 1)) (blkOk_by (by kernel_rfl)) (fun _ _ _ _ _ => (pg_name (i := 4) nd rfl (Or.inl rfl))) (fun _ _ _ _ _ => pts_nil) (fun _ _ _ _ _ => (pe_callB (all_K (K := K) rfl rfl) (by rfl) T.all (by decide +kernel) (pa_cons (pe_lc (own := [("p", 5), ("q", 6)]) rfl nd (zip_K (K := K) rfl (by rfl) T.zip (pa_cons (pv 4) (pa_cons (pv 3) pa_nil))) (blkOk_by (by kernel_rfl)) (fun _ _ _ _ _ => (tup_K (K := K) (n := 2) rfl rfl (pgs_cons (pg_name (i := 5) nd rfl (Or.inl rfl)) (pgs_cons (pg_name (i := 6) nd rfl (Or.inl rfl)) pgs_nil)))) (fun _ _ _ _ _ => pts_nil) (fun _ _ _ _ _ => (pe_cmpR op_leU (pv 5) (pv 6) (nomark _)))) pa_nil)))) pa_nil)))) pa_nil))))))), ?_⟩
  refine ⟨_, rfl, _, rfl, _, _, rfl, A1, B1, xs, S, rfl, hA, rfl, hB, hx, ne, lS, bd, out, fun H1 e1 => ⟨_, rfl, iteF ?_⟩⟩
  have hA := same_tup e1 hA
  have sB := SqT.of (K := K) (e1 _ _ hB)
  have hx := hx.mono e1
  have hR := e1 _ _ hR
  have hy := hy.mono e1
  refine ⟨_, rfl, .inr (.inl ⟨B1, rfl, ⟨_, sB⟩, fun D hD => ?_⟩)⟩
  refine lc_map (walk_tup (xs := xs)) (fun _ => .bl true) grow_at (by omega) hD (fun H e => same_tup e sB) ?_ ?_
  · rintro i y G1 G2 hi e ⟨rfl, g⟩ F0 kk
    obtain ⟨r, gr, tV⟩ := (hx.mono e).get g
    refine ⟨rfl, _, rfl, _, rfl, openD r, W.map openD, tV.op.dp, .lst (SqL.of (e _ _ hR)) (rowsO_dp (hy.mono e)), shaped_op r (bd r (List.mem_of_getElem? gr)).2.2.1, shaped_ops W fun x m => (bw x m).2, ?_⟩
    rw [show ((W.map openD).any fun e => PyData.eqv e (openD r)) = true by
      rw [any_eqvO]
      exact List.any_eq_true.mpr ⟨r, oo.sub r (List.mem_of_getElem? gr), decide_eq_true rfl⟩]
    exact kk _ (Same.refl _)
  intro H2 e2 hD2
  refine ⟨D, (List.range xs.length).map fun _ => true, rfl, SqL.of (by rw [hD2, List.map_map]; rfl), ?_⟩
  rw [all_true]
  refine ⟨_, rfl, iteF ?_⟩
  have hA := same_tup e2 hA
  refine ⟨_, rfl, .inr (.inl ⟨A1, _, _, _, rfl, rfl, hA, at0, .inl ⟨rfl, _, rfl, iteF ?_⟩⟩)⟩
  refine ⟨_, rfl, .inr (.inl ⟨A1, _, _, _, rfl, rfl, hA, at0, .inl ⟨rfl, _, rfl, iteT ?_⟩⟩)⟩
  have sB := same_tup e2 sB
  have hx := hx.mono e2
  have hR := e2 _ _ hR
  have hy := hy.mono e2
  refine ⟨_, rfl, .inl ⟨R, rfl, ⟨_, SqL.of hR⟩, fun D hD => ?_⟩⟩
  refine lc_map (walk_list (xs := ys)) (fun _ => .bl true) grow_at (by omega) hD (fun H e => SqL.of (e _ _ hR)) ?_ ?_
  · rintro i y G1 G2 hi e ⟨rfl, g⟩ F0 kk
    obtain ⟨q, gq, qV⟩ := (hy.mono e).get g
    have sB := same_tup e sB
    refine ⟨rfl, _, rfl, .inr (.inl ⟨B1, rfl, ⟨_, sB⟩, fun D2 hD2 => ?_⟩)⟩
    refine lc_map (walk_tup (xs := xs)) (fun j => .bl (covM (S.getD j (0, [])) q)) grow_at (by omega) hD2 (fun H e => same_tup e sB) ?_ ?_
    · rintro j z G3 G4 hj e3 ⟨rfl, g3⟩ F1 kk2
      obtain ⟨t, gt, tV⟩ := ((hx.mono e).mono e3).get g3
      rw [getD_of gt] at kk2
      exact ⟨rfl, _, rfl, _, rfl, _, _, rfl, t, q, tV, qV.mono e3, Nat.le_trans (bd t (List.mem_of_getElem? gt)).2.1 (by decide), fun H5 e5 => kk2 _ e5⟩
    · intro H5 e5 hd5
      have hd5 := hd5.trans (congrArg (fun l => some (HO.lst l)) (show _ = (S.map fun r => V.bl (covM r q)) by rw [lx]; exact map_range_get (0, []) (fun r : OpR => V.bl (covM r q)) S))
      refine ⟨D2, S.map fun r => covM r q, rfl, SqL.of (by rw [hd5, List.map_map]; rfl), ?_⟩
      rw [show (S.map fun r => covM r q).any id = true by
        obtain ⟨r, hr2, c1⟩ := oo.cov q (List.mem_of_getElem? gq)
        rw [List.any_map]
        exact List.any_eq_true.mpr ⟨r, hr2, c1⟩]
      exact kk _ e5
  intro H3 e3 hD3
  refine ⟨D, (List.range ys.length).map fun _ => true, rfl, SqL.of (by rw [hD3, List.map_map]; rfl), ?_⟩
  rw [all_true]
  exact k _ (e1.trans (e2.trans e3))
def spTurnedM (K : PySem.W.Frag) : Sp := sp2 fun a b H Q => ∃ (p l : Addr) (zs : List V), a = .ref p ∧ BagAt H p ∧ b = .ref l ∧ SqL K H l zs ∧ zs.length ≤ 1000 ∧
  ∀ (H' : Hp) (D : Addr) (cs : List V), Same H H' → H' D = some (.lst cs) → cs.Perm zs → Q (.ref D) H'
theorem c__law_turned (T : Top K mg C_Open C_OpenTable A_OpenTable_reading) : Cal P w K mg base 2 "_law_turned" (spTurnedM K) [] := by
  obtain ⟨f, fd, F, df⟩ := T.d__law_turned
  refine cal_of F df (fn2 F sc__law_turned fun cdv A outer s H a b Q E hr h => ?_) fun _ _ _ _ _ _ us hl => match us, hl with | [_, _], _ => rfl
  have nd := sc__law_turned.nd
  obtain ⟨p, l, zs, rfl, hb, rfl, hs, hl, k⟩ := h
  refine ⟨_, (pss_cons 
      (ps_set (i := 2) nd rfl (Or.inl rfl) (pe_callTy (listOf_K (K := K) rfl) (by rfl) T.list (by decide +kernel) (pa_cons (pv 1) pa_nil))) (pss_cons 
      (ps_set (i := 3) nd rfl (Or.inl rfl) (pe_lst pa_nil)) (pss_cons 
      (ps_for PassesOwn.never rfl (pi_range1 (by rfl) T.range (pa_cons (pe_callB (len_K (K := K) rfl) (by rfl) T.len (by decide +kernel) (pa_cons (pv 1) pa_nil)) pa_nil)) (pg_name (i := 4) nd rfl (Or.inl rfl)) (pss_one 
      (ps_expr (pe_bm PySem.F.plainAttrs_list PySem.F.slot_list_append PySem.F.type_list_append mt_append (pv 3) (pa_cons (pe_bm PySem.F.plainAttrs_list PySem.F.slot_list_pop PySem.F.type_list_pop mt_popAt (pv 2) (pa_cons (pe_c (c__law_draw T) hr (by decide) (by rfl) (pa_cons (pv 0) (pa_cons (pe_callB (len_K (K := K) rfl) (by rfl) T.len (by decide +kernel) (pa_cons (pv 2) pa_nil)) pa_nil))) pa_nil)) pa_nil))))) (pss_one 
      (ps_ret (pv 3)))))), ?_⟩
  refine ⟨_, rfl, l, _, rfl, .inl hs, fun c nc => ?_⟩
  refine ⟨Nat.le_of_ble_eq_true rfl, fun q nq => ?_⟩
  have ncq : c ≠ q := ne_of_none upd_same nq
  have nq0 : H q = none := by
    rw [upd_ne ncq.symm] at nq
    exact nq
  have e0 : Same H (upd (upd H c (.lst zs)) q (.lst [])) := (grow nc).trans (grow nq)
  refine ⟨_, rfl, .inl ⟨l, _, rfl, .inl (e0.seq hs), ?_⟩⟩
  refine ⟨(zs.length : Int), rfl, by omega, by omega, ?_⟩
  rw [show ((zs.length : Nat) : Int).toNat = zs.length from rfl]
  refine for_it walk_range (fun i σ H' => Same H H' ∧ (∃ ys us : List V, H' c = some (.lst ys) ∧ ys.length = zs.length - i ∧ H' q = some (.lst us) ∧ us.length = i ∧ (us ++ ys).Perm zs) ∧ ∃ y, σ = [some (.ref p), some (.ref l), some (.ref c), some (.ref q), y])
    ⟨e0, ⟨zs, [], by rw [upd_ne ncq, upd_same], rfl, upd_same, rfl, .refl _⟩, _, rfl⟩ (fun _ _ _ _ _ => trivial) ?_ ?_
  · rintro i x σ H1 H2 hi ⟨e, ⟨ys, us, hc, ly, hq, lu, pm⟩, y, rfl⟩ ⟨rfl, rfl⟩
    refine ⟨_, rfl, .inl ⟨rfl, _, SqL.of hq⟩, _, rfl, .inl ⟨rfl, _, SqL.of hc⟩, _, rfl, _, rfl, .inl ⟨c, _, rfl, .inl (SqL.of hc), ?_⟩⟩
    refine ⟨_, _, rfl, p, (ys.length : Int), rfl, rfl, hb.mono e, by omega, small_log (by omega) (by omega), fun d d0 d1 => ?_⟩
    obtain ⟨j, rfl⟩ := Int.eq_ofNat_of_zero_le d0
    have hj : j < ys.length := by omega
    have ix : ixN ys.length (j : Int) = some j := by
      unfold ixN
      rw [if_pos (by omega), if_pos (by omega)]
      rfl
    refine ⟨c, ys, (j : Int), j, ys[j], rfl, rfl, hc, by omega, by omega, (ixN_seq ix).1, List.getElem?_eq_getElem hj, ?_⟩
    have hq' : upd H2 c (.lst (ys.eraseIdx j)) q = some (.lst us) := by
      rw [upd_ne ncq.symm]
      exact hq
    refine ⟨q, us, _, rfl, rfl, hq', size5 (by omega), ?_⟩
    refine ⟨same_mut (same_mut e nc) nq0, ⟨ys.eraseIdx j, us ++ [ys[j]], by rw [upd_ne ncq, upd_same], ?_, upd_same, by rw [List.length_append, lu]; rfl, ?_⟩, _, rfl⟩
    · rw [List.length_eraseIdx_of_lt hj]
      omega
    · refine List.Perm.trans ?_ pm
      rw [List.append_assoc]
      exact List.Perm.append_left us (L2.erase_perm ys j _ (List.getElem?_eq_getElem hj))
  · rintro σ H1 ⟨e, ⟨ys, us, hc, ly, hq, lu, pm⟩, y, rfl⟩
    have : ys = [] := List.eq_nil_of_length_eq_zero (by omega)
    subst this
    rw [List.append_nil] at pm
    exact ⟨_, rfl, k H1 q us e hq pm⟩
def spPriced (K : PySem.W.Frag) : Sp := sp3 fun a b c H Q => ∃ (A F B : Addr) (ys : List V) (S : List OpR) (N : List Str) (kvs : List (Key × V)) (bs : List Str), a = .ref A ∧ (H A = some (.lst ys) ∨ H A = some (.tup ys)) ∧ RowsO K H ys S ∧ b = .ref F ∧ H F = some (.dK kvs) ∧ FeK N kvs ∧ c = .ref B ∧ SqL K H B (bs.map V.str) ∧ S.length ≤ 1000 ∧ (∀ r ∈ S, r.2.length ≤ 1000) ∧
  ∀ (H' : Hp) (m : Option Int), Same H H' → LeastO (pricesR (feeF kvs) bs S) m → Q (oI m) H'
theorem prices_take {f : Str → Int} {B : List Str} {S : List OpR} {i : Nat} {r : OpR} (g : S[i]? = some r) : pricesR f B (S.take (i + 1)) = pricesR f B (S.take i) ++ if usable B r = true then [priceR f r] else [] := by
  unfold pricesR
  rw [List.take_add_one, g]
  show ((S.take i ++ [r]).filter (usable B)).map (priceR f) = _
  rw [List.filter_append, List.map_append]
  by_cases u : usable B r = true
  · rw [if_pos u, List.filter_cons_of_pos u]
    rfl
  · rw [if_neg u, List.filter_cons_of_neg u]
    rfl
theorem dp_intsL {K : PySem.W.Frag} {H : Hp} : ∀ l : List Int, DpAll K H (l.map V.int) (l.map PyData.int)
  | [] => .nil
  | i :: l => .cons (.int i) (dp_intsL l)
theorem eqv_nilI : ∀ l : List Int, PyData.eqv (.list (l.map PyData.int)) (.list []) = decide (l = [])
  | [] => by decide
  | i :: l => by
    rw [decide_eq_false (by simp)]
    rfl
theorem c__law_priced (T : Top K mg C_Open C_OpenTable A_OpenTable_reading) : Cal P w K mg base 1 "_law_priced" (spPriced K) [] := by
  obtain ⟨f, fd, F, df⟩ := T.d__law_priced
  refine cal_of F df (fn3 F sc__law_priced fun cdv A outer s H a b c Q E hr h => ?_) fun _ _ _ _ _ _ us hl => match us, hl with | [_, _, _], _ => rfl
  have nd := sc__law_priced.nd
  obtain ⟨A1, F, B, ys, S, N, kvs, bs, rfl, hA, hy, rfl, hF, fe, rfl, hB, lS, lr, k⟩ := h
  refine ⟨_, (pss_cons 
      (ps_set (i := 3) nd rfl (Or.inl rfl) (pe_lst pa_nil)) (pss_cons 
      (ps_for PassesOwn.never rfl (pi_K (K := K) rfl (pv 0)) (pg_name (i := 4) nd rfl (Or.inl rfl)) (pss_one 
      (ps_if (pt_not (pt_val (pe_callB (any_K (K := K) rfl rfl) (by rfl) T.any (by decide +kernel) (pa_cons (pe_lc (own := [("y", 5)]) rfl nd (pi_K (K := K) rfl (pe_ix (ix_K (K := K) rfl) (pv 4) pe_int (fun _ _ => rfl))) (blkOk_by (N := ["rows_y", "fees_y", "barred", "found", "x", "y"]) (sc := fnScope s__law_priced) (by decide +kernel)) (fun _ _ _ _ _ => (pg_name (i := 5) nd rfl (Or.inl rfl))) (fun _ _ _ _ _ => pts_nil) (fun _ _ _ _ _ => (pe_cmpR (in_K (K := K) rfl) (pv 5) (pv 2) (by with_unfolding_all rfl)))) pa_nil)))) (pss_one 
      (ps_expr (pe_bm PySem.F.plainAttrs_list PySem.F.slot_list_append PySem.F.type_list_append mt_append (pv 3) (pa_cons (pe_op op_addU (pe_ix (ix_K (K := K) rfl) (pv 4) pe_int (fun _ _ => rfl)) (pe_callB (cr_sum rfl) (by rfl) T.sum (by decide +kernel) (pa_cons (pe_lc (own := [("y", 5)]) rfl nd (pi_K (K := K) rfl (pe_ix (ix_K (K := K) rfl) (pv 4) pe_int (fun _ _ => rfl))) (blkOk_by (N := ["rows_y", "fees_y", "barred", "found", "x", "y"]) (sc := fnScope s__law_priced) (by decide +kernel)) (fun _ _ _ _ _ => (pg_name (i := 5) nd rfl (Or.inl rfl))) (fun _ _ _ _ _ => pts_nil) (fun _ _ _ _ _ => (pe_ifExp (pt_cmp (pc_din (hu_of hr) (pv 5) (pv 1)) (by with_unfolding_all rfl)) (pe_dget (hu_of hr) (pv 1) (pv 5) (fun _ _ => rfl)) pe_int))) pa_nil))) pa_nil)))) pss_nil))) (pss_one 
      (ps_ret (pe_ifExp (pt_cmpR (ne_K (K := K) rfl hr) (pv 3) (pe_lst pa_nil) (nomark _)) (pe_callB (cr_min rfl) (by rfl) T.min (by decide +kernel) (pa_cons (pv 3) pa_nil)) pe_non))))), ?_⟩
  have ly := hy.len
  refine ⟨Nat.le_of_ble_eq_true rfl, fun Z nZ => ?_⟩
  have e0 := grow (o := .lst []) nZ
  have nZ0 := nZ
  have sq : ∀ {H' : Hp}, (∀ b o, H b = some o → H' b = some o) → Same H H' := fun h => h
  have start : (upd H Z (.lst [])) Z = some (.lst ((pricesR (feeF kvs) bs (S.take 0)).map V.int)) := upd_same
  refine ⟨_, rfl, ?_⟩
  rcases hA with hA | hA
  refine .inl ⟨A1, rfl, ⟨_, SqL.of (e0 _ _ hA)⟩, for_it (walk_list (xs := ys)) (fun i σ H' => ∃ y4 y5, σ = [some (.ref A1), some (.ref F), some (.ref B), some (.ref Z), y4, y5] ∧ H' Z = some (.lst ((pricesR (feeF kvs) bs (S.take i)).map V.int)) ∧ ∀ b o, H b = some o → H' b = some o) ⟨_, _, rfl, start, e0⟩ (fun i σ H' _ ⟨_, _, _, _, e⟩ => SqL.of (e _ _ hA)) ?_ ?_⟩
  rotate_left 2
  refine .inr (.inl ⟨A1, rfl, ⟨_, SqT.of (e0 _ _ hA)⟩, for_it (walk_tup (xs := ys)) (fun i σ H' => ∃ y4 y5, σ = [some (.ref A1), some (.ref F), some (.ref B), some (.ref Z), y4, y5] ∧ H' Z = some (.lst ((pricesR (feeF kvs) bs (S.take i)).map V.int)) ∧ ∀ b o, H b = some o → H' b = some o) ⟨_, _, rfl, start, e0⟩ (fun i σ H' _ ⟨_, _, _, _, e⟩ => SqT.of (e _ _ hA)) ?_ ?_⟩)
  rotate_left 2
  · rintro i x σ H1 H2 hi ⟨y4, y5, rfl, hZ, e⟩ ⟨rfl, g⟩
    have e : Same H H2 := e
    obtain ⟨r, gr, t, u, rfl, h1, h2⟩ := (hy.mono e).get g
    have mr := List.mem_of_getElem? gr
    have lw := lr r mr
    have lm : (r.2.map V.str).length = r.2.length := List.length_map ..
    refine ⟨_, rfl, .inr (.inl ⟨t, _, _, _, rfl, rfl, h1, at1, .inr (.inl ⟨u, rfl, ⟨_, h2.sq⟩, fun D2 hD2 => ?_⟩)⟩)⟩
    refine lc_map (walk_tup (xs := r.2.map V.str)) (fun j => .bl (decide (r.2.getD j default ∈ bs))) grow_at (by omega) hD2 (fun H1 e1 => same_tup e1 h2.sq) ?_ ?_
    · rintro j v G3 G4 hj e2 ⟨rfl, g2⟩ W kk
      obtain ⟨z, gz, rfl⟩ := str_get g2
      rw [show r.2.getD j default = z from getD_of gz] at kk
      refine ⟨rfl, _, rfl, _, rfl, .inr ⟨B, _, rfl, .inl ((e.trans e2).seq hB), rfl, flat_strs _, ?_⟩⟩
      rw [inV_strs]
      exact kk _ (Same.refl _)
    intro H5 e5 hd5
    refine ⟨D2, (List.range (r.2.map V.str).length).map fun j => decide (r.2.getD j default ∈ bs), rfl, SqL.of (by rw [hd5, List.map_map]; rfl), ?_⟩
    have el : (((List.range (r.2.map V.str).length).map fun j => decide (r.2.getD j default ∈ bs)).any id) = !usable bs r := by
      rw [lm, map_range_get default (fun z => decide (z ∈ bs)) r.2, List.any_map]
      unfold usable
      rw [List.not_all_eq_any_not]
      simp
    rw [el]
    have hZ5 := e5 _ _ hZ
    have pt := prices_take (f := feeF kvs) (B := bs) gr
    cases us : usable bs r with
    | false =>
      rw [us, if_neg (fun q => nomatch q), List.append_nil] at pt
      refine ⟨_, rfl, iteF ⟨_, _, rfl, by rw [pt]; exact hZ5, e.trans e5⟩⟩
    | true =>
      rw [us, if_pos rfl] at pt
      have e6 := e.trans e5
      have h1 := same_tup e5 h1
      have h2 := h2.mono e5
      refine ⟨_, rfl, iteT ?_⟩
      refine ⟨_, rfl, .inl ⟨rfl, _, SqL.of hZ5⟩, _, rfl, .inr (.inl ⟨t, _, _, _, rfl, rfl, h1, at0, ?_⟩)⟩
      refine ⟨_, rfl, .inr (.inl ⟨t, _, _, _, rfl, rfl, h1, at1, .inr (.inl ⟨u, rfl, ⟨_, h2.sq⟩, fun D3 hD3 => ?_⟩)⟩)⟩
      refine lc_map (walk_tup (xs := r.2.map V.str)) (fun j => .int (feeF kvs (r.2.getD j default))) grow_at (by omega) hD3 (fun H1 e1 => same_tup e1 h2.sq) ?_ ?_
      · rintro j v G3 G4 hj e2 ⟨rfl, g2⟩ W kk
        obtain ⟨z, gz, rfl⟩ := str_get g2
        rw [show r.2.getD j default = z from getD_of gz] at kk
        have hF4 := (e6.trans e2) _ _ hF
        have hv := (fe.val z).1
        refine ⟨rfl, _, rfl, _, rfl, F, _, rfl, DGet.k (k := Sum.inr z) hF4, ?_⟩
        cases ev : valV kvs (Sum.inr z) with
        | none =>
          rw [ev] at hv
          refine ⟨_, rfl, iteF ?_⟩
          have hv : V.int 0 = V.int (feeF kvs z) := hv
          rw [← hv] at kk
          exact kk _ (Same.refl _)
        | some v =>
          rw [ev] at hv
          have hv : v = V.int (feeF kvs z) := hv
          refine ⟨_, rfl, iteT ⟨_, rfl, _, rfl, F, _, rfl, DGet.k (k := Sum.inr z) hF4 |> fun h => by rw [ev] at h; exact h, ?_⟩⟩
          rw [hv]
          exact kk _ (Same.refl _)
      intro H7 e7 hd7
      have en : (List.range (r.2.map V.str).length).map (fun j => V.int (feeF kvs (r.2.getD j default))) = (r.2.map (feeF kvs)).map V.int := by
        rw [lm, map_range_get default (fun z : Str => V.int (feeF kvs z)) r.2, List.map_map]
        rfl
      rw [en] at hd7
      refine ⟨D3, r.2.map (feeF kvs), rfl, SqL.of hd7, .inl ⟨_, _, rfl, rfl, ?_⟩⟩
      have hZ7 := e7 _ _ hZ5
      have lp : (pricesR (feeF kvs) bs (S.take i)).length ≤ 1000 := by
        unfold pricesR
        rw [List.length_map]
        have := List.length_filter_le (usable bs) (S.take i)
        rw [List.length_take] at this
        omega
      have ez : (priceR (feeF kvs) r) = r.1 + (r.2.map (feeF kvs)).sum := rfl
      dsimp only [tNil]
      refine ⟨Z, _, _, rfl, rfl, hZ7, size5 (by rw [List.length_map]; omega), ?_⟩
      refine ⟨_, _, rfl, by rw [upd_same, pt, List.map_append, ez]; rfl, fun b o hb => ?_⟩
      have nb : b ≠ Z := fun q => by rw [q, nZ0] at hb; cases hb
      rw [upd_ne nb]
      exact (e6.trans e7) _ _ hb
  · rintro σ H1 ⟨y4, y5, rfl, hZ, e⟩
    have e : Same H H1 := e
    rw [ly, List.take_length] at hZ
    generalize ep : pricesR (feeF kvs) bs S = ps at hZ
    refine ⟨_, rfl, Nat.le_of_ble_eq_true rfl, fun E0 nE => ?_⟩
    have e1 := e.trans (grow (o := .lst []) nE)
    have hZ1 := (grow (o := .lst []) nE) _ _ hZ
    refine .inr ⟨.list (ps.map PyData.int), .list [], .lst (SqL.of hZ1) (dp_intsL ps), .lst (SqL.of upd_same) .nil, Nat.le_trans (Nat.min_le_right _ _) (by decide), ?_⟩
    rw [eqv_nilI]
    by_cases pe : ps = []
    · rw [decide_eq_true pe]
      exact ⟨_, rfl, iteF (k _ none e1 (by rw [ep]; exact pe))⟩
    · rw [decide_eq_false pe]
      exact ⟨_, rfl, iteT ⟨_, rfl, Z, ps, rfl, SqL.of hZ1, List.length_pos_iff.mpr pe, fun m mm le => k _ (some m) e1 (by rw [ep]; exact ⟨mm, le⟩)⟩⟩
  · rintro i x σ H1 H2 hi ⟨y4, y5, rfl, hZ, e⟩ ⟨rfl, g⟩
    have e : Same H H2 := e
    obtain ⟨r, gr, t, u, rfl, h1, h2⟩ := (hy.mono e).get g
    have mr := List.mem_of_getElem? gr
    have lw := lr r mr
    have lm : (r.2.map V.str).length = r.2.length := List.length_map ..
    refine ⟨_, rfl, .inr (.inl ⟨t, _, _, _, rfl, rfl, h1, at1, .inr (.inl ⟨u, rfl, ⟨_, h2.sq⟩, fun D2 hD2 => ?_⟩)⟩)⟩
    refine lc_map (walk_tup (xs := r.2.map V.str)) (fun j => .bl (decide (r.2.getD j default ∈ bs))) grow_at (by omega) hD2 (fun H1 e1 => same_tup e1 h2.sq) ?_ ?_
    · rintro j v G3 G4 hj e2 ⟨rfl, g2⟩ W kk
      obtain ⟨z, gz, rfl⟩ := str_get g2
      rw [show r.2.getD j default = z from getD_of gz] at kk
      refine ⟨rfl, _, rfl, _, rfl, .inr ⟨B, _, rfl, .inl ((e.trans e2).seq hB), rfl, flat_strs _, ?_⟩⟩
      rw [inV_strs]
      exact kk _ (Same.refl _)
    intro H5 e5 hd5
    refine ⟨D2, (List.range (r.2.map V.str).length).map fun j => decide (r.2.getD j default ∈ bs), rfl, SqL.of (by rw [hd5, List.map_map]; rfl), ?_⟩
    have el : (((List.range (r.2.map V.str).length).map fun j => decide (r.2.getD j default ∈ bs)).any id) = !usable bs r := by
      rw [lm, map_range_get default (fun z => decide (z ∈ bs)) r.2, List.any_map]
      unfold usable
      rw [List.not_all_eq_any_not]
      simp
    rw [el]
    have hZ5 := e5 _ _ hZ
    have pt := prices_take (f := feeF kvs) (B := bs) gr
    cases us : usable bs r with
    | false =>
      rw [us, if_neg (fun q => nomatch q), List.append_nil] at pt
      refine ⟨_, rfl, iteF ⟨_, _, rfl, by rw [pt]; exact hZ5, e.trans e5⟩⟩
    | true =>
      rw [us, if_pos rfl] at pt
      have e6 := e.trans e5
      have h1 := same_tup e5 h1
      have h2 := h2.mono e5
      refine ⟨_, rfl, iteT ?_⟩
      refine ⟨_, rfl, .inl ⟨rfl, _, SqL.of hZ5⟩, _, rfl, .inr (.inl ⟨t, _, _, _, rfl, rfl, h1, at0, ?_⟩)⟩
      refine ⟨_, rfl, .inr (.inl ⟨t, _, _, _, rfl, rfl, h1, at1, .inr (.inl ⟨u, rfl, ⟨_, h2.sq⟩, fun D3 hD3 => ?_⟩)⟩)⟩
      refine lc_map (walk_tup (xs := r.2.map V.str)) (fun j => .int (feeF kvs (r.2.getD j default))) grow_at (by omega) hD3 (fun H1 e1 => same_tup e1 h2.sq) ?_ ?_
      · rintro j v G3 G4 hj e2 ⟨rfl, g2⟩ W kk
        obtain ⟨z, gz, rfl⟩ := str_get g2
        rw [show r.2.getD j default = z from getD_of gz] at kk
        have hF4 := (e6.trans e2) _ _ hF
        have hv := (fe.val z).1
        refine ⟨rfl, _, rfl, _, rfl, F, _, rfl, DGet.k (k := Sum.inr z) hF4, ?_⟩
        cases ev : valV kvs (Sum.inr z) with
        | none =>
          rw [ev] at hv
          refine ⟨_, rfl, iteF ?_⟩
          have hv : V.int 0 = V.int (feeF kvs z) := hv
          rw [← hv] at kk
          exact kk _ (Same.refl _)
        | some v =>
          rw [ev] at hv
          have hv : v = V.int (feeF kvs z) := hv
          refine ⟨_, rfl, iteT ⟨_, rfl, _, rfl, F, _, rfl, DGet.k (k := Sum.inr z) hF4 |> fun h => by rw [ev] at h; exact h, ?_⟩⟩
          rw [hv]
          exact kk _ (Same.refl _)
      intro H7 e7 hd7
      have en : (List.range (r.2.map V.str).length).map (fun j => V.int (feeF kvs (r.2.getD j default))) = (r.2.map (feeF kvs)).map V.int := by
        rw [lm, map_range_get default (fun z : Str => V.int (feeF kvs z)) r.2, List.map_map]
        rfl
      rw [en] at hd7
      refine ⟨D3, r.2.map (feeF kvs), rfl, SqL.of hd7, .inl ⟨_, _, rfl, rfl, ?_⟩⟩
      have hZ7 := e7 _ _ hZ5
      have lp : (pricesR (feeF kvs) bs (S.take i)).length ≤ 1000 := by
        unfold pricesR
        rw [List.length_map]
        have := List.length_filter_le (usable bs) (S.take i)
        rw [List.length_take] at this
        omega
      have ez : (priceR (feeF kvs) r) = r.1 + (r.2.map (feeF kvs)).sum := rfl
      dsimp only [tNil]
      refine ⟨Z, _, _, rfl, rfl, hZ7, size5 (by rw [List.length_map]; omega), ?_⟩
      refine ⟨_, _, rfl, by rw [upd_same, pt, List.map_append, ez]; rfl, fun b o hb => ?_⟩
      have nb : b ≠ Z := fun q => by rw [q, nZ0] at hb; cases hb
      rw [upd_ne nb]
      exact (e6.trans e7) _ _ hb
  · rintro σ H1 ⟨y4, y5, rfl, hZ, e⟩
    have e : Same H H1 := e
    rw [ly, List.take_length] at hZ
    generalize ep : pricesR (feeF kvs) bs S = ps at hZ
    refine ⟨_, rfl, Nat.le_of_ble_eq_true rfl, fun E0 nE => ?_⟩
    have e1 := e.trans (grow (o := .lst []) nE)
    have hZ1 := (grow (o := .lst []) nE) _ _ hZ
    refine .inr ⟨.list (ps.map PyData.int), .list [], .lst (SqL.of hZ1) (dp_intsL ps), .lst (SqL.of upd_same) .nil, Nat.le_trans (Nat.min_le_right _ _) (by decide), ?_⟩
    rw [eqv_nilI]
    by_cases pe : ps = []
    · rw [decide_eq_true pe]
      exact ⟨_, rfl, iteF (k _ none e1 (by rw [ep]; exact pe))⟩
    · rw [decide_eq_false pe]
      exact ⟨_, rfl, iteT ⟨_, rfl, Z, ps, rfl, SqL.of hZ1, List.length_pos_iff.mpr pe, fun m mm le => k _ (some m) e1 (by rw [ep]; exact ⟨mm, le⟩)⟩⟩
def spTab1 (K : PySem.W.Frag) (C : Addr) : Sp := sp3 fun a b c H Q => ∃ (p dx L : Addr) (N : List Str) (S : List OpR), a = .ref p ∧ H p = some (.ins C dx []) ∧ b = .ref L ∧ SqL K H L (N.map V.str) ∧ N.length ≤ 1000 ∧ OptO K H c S ∧ S.length ≤ 1000 ∧
  ∀ H' : Hp, (∀ c o, H c = some o → c ≠ p → H' c = some o) → TabO K C H' p N S → (∀ (T : Addr) (acc : List V) (o : HO), H T = some (.lst acc) → TabO K C (upd H' T o) p N S) → Q .non H'
theorem c_OpenTable___init__ (T : Top K mg C_Open C_OpenTable A_OpenTable_reading) : Mak P w K mg base 1 "OpenTable" C_OpenTable (spTab1 K C_OpenTable) [] := by
  obtain ⟨f, fd, me, F, df⟩ := T.d_OpenTable___init__
  refine ⟨f, fd, ["self", "doubts", "value"], [], me, ?_, T.g_OpenTable, F.binds df fun _ _ _ _ _ _ us hl => match us, hl with | [_, _, _], _ => rfl, .nil⟩
  refine fm3 F sc_OpenTable___init__ fun cdv A outer s H a b c Q E hr h => ?_
  have nd := sc_OpenTable___init__.nd
  obtain ⟨p, dx, L, N, S, rfl, hp, rfl, hL, lN, hS, lS, k⟩ := h
  obtain ⟨z1, z2, z3⟩ := strZ_ok (K := K) (H := H) N
  refine ⟨_, (pss_cons 
      (ps_fld (pv 0) (pe_dc (own := [("name", 3)]) rfl nd (pi_K (K := K) rfl (pe_callB (sortD_K (K := K) rfl hr) (by rfl) T.sorted (by decide +kernel) (pa_cons (pv 1) pa_nil))) (blkOk_by (N := ["self", "doubts", "value", "name"]) (sc := fnScope s_OpenTable___init__) (by decide +kernel)) (fun _ _ _ _ _ => (pg_name (i := 3) nd rfl (Or.inl rfl))) (fun _ _ _ _ _ => pts_nil) (fun _ _ _ _ _ => (pv 3)) (fun _ _ _ _ _ => pe_bl)) rfl) (pss_one 
      (ps_fld (pv 0) (pe_ifExp (pt_cmpR op_isN (pv 2) pe_non (nomark _)) (pe_lst pa_nil) (pe_callTy (listOf_K (K := K) rfl) (by rfl) T.list (by decide +kernel) (pa_cons (pv 2) pa_nil))) rfl))), ?_⟩
  refine ⟨_, rfl, L, strZ N, rfl, .inl (by rw [strZ_fst]; exact hL), z1, z2, z3, fun q nq => ?_⟩
  rw [sort_strs]
  have g0 := grow (o := .lst ((sortL N).map V.str)) nq
  refine .inl ⟨q, rfl, ⟨_, SqL.of upd_same⟩, fun D nD => ?_⟩
  have hq : upd H q (.lst ((sortL N).map V.str)) q = some (.lst ((sortL N).map V.str)) := upd_same
  generalize upd H q _ = H0 at g0 nD hq ⊢
  have nD0 : H D = none := g0.free nD
  have lsN : (sortL N).length = N.length := List.length_mergeSort _
  refine dc_it (walk_list (xs := (sortL N).map V.str)) (fun i H' => Same H0 H' ∧ ∃ kvs, H' D = some (.dK kvs) ∧ kvs.length ≤ i ∧ ∀ z ∈ (sortL N).take i, (valV kvs (Sum.inr z)).isSome = true) ⟨grow nD, [], upd_same, Nat.zero_le _, fun _ m => nomatch m⟩ (fun i H' _ ⟨h, _⟩ => SqL.of (h _ _ hq)) ?_ ?_
  · rintro i v H1 H2 hi ⟨e, kvs, hD, lk, hk⟩ ⟨rfl, g⟩
    obtain ⟨z, gz, rfl⟩ := str_get g
    rw [List.length_map] at hi
    refine ⟨rfl, _, rfl, kvs, Sum.inr z, rfl, hD, size5' (by omega), same_mut e nD, _, upd_same, ?_, fun y my => ?_⟩
    · have := length_putK kvs (Sum.inr z) (.bl true)
      omega
    · rw [valV_put]
      by_cases c : (Sum.inr y : Key) = Sum.inr z
      · rw [if_pos c]
        rfl
      · rw [if_neg c]
        rw [List.take_add_one, gz] at my
        rcases List.mem_append.mp my with my | my
        · exact hk y my
        · exact absurd (congrArg Sum.inr (List.mem_singleton.mp my)) c
  rintro H1 ⟨e, kvs, hD, lk, hk⟩
  rw [List.length_map, List.take_length] at hk
  have e1 := g0.trans e
  have nDp : D ≠ p := fun z => by
    rw [z, hp] at nD0
    cases nD0
  refine ⟨_, rfl, p, C_OpenTable, dx, _, rfl, e1 _ _ hp, T.cl_OpenTable, T.na_OpenTable__doubts, (by show 0 < 1000; decide), ?_⟩
  have hp2 : upd H1 p (.ins C_OpenTable dx (putF "_doubts" (.ref D) [])) p = some (.ins C_OpenTable dx (putF "_doubts" (.ref D) [])) := upd_same
  have hS1 := hS.mono e1
  have kk : ∀ (R : Addr) (ys : List V) (H2 : Hp), Same (upd H1 p (.ins C_OpenTable dx (putF "_doubts" (.ref D) []))) H2 → R ≠ p → H2 R = some (.lst ys) → H R = none → RowsO K H1 ys S → Q .non (upd H2 p (.ins C_OpenTable dx (putF "_rows" (.ref R) (putF "_doubts" (.ref D) [])))) := fun R ys H2 e2 nR hR nR0 hy => by
    have keep : ∀ c o, H1 c = some o → c ≠ p → upd H2 p (.ins C_OpenTable dx (putF "_rows" (.ref R) (putF "_doubts" (.ref D) []))) c = some o := fun c o hc nc => by
      rw [upd_ne nc]
      exact e2 _ _ (by rw [upd_ne nc]; exact hc)
    refine k _ (fun c o hc nc => keep c o (e1 _ _ hc) nc) ⟨dx, D, R, kvs, ys, by rw [upd_same]; rfl, keep D _ hD nDp, fun z m => hk z ((List.mergeSort_perm N strLe).mem_iff.mpr m), by rw [upd_ne nR]; exact hR, ?_⟩ fun T acc o hT => ?_
    · exact RowsO.but (e1 _ _ hp) keep hy
    · have nTp : T ≠ p := fun z => by
        rw [z, hp] at hT
        cases hT
      have nTD : D ≠ T := fun z => by
        rw [← z, nD0] at hT
        cases hT
      have nTR : R ≠ T := fun z => by
        rw [← z, nR0] at hT
        cases hT
      have hT2 := keep T _ (e1 _ _ hT) nTp
      refine ⟨dx, D, R, kvs, ys, by rw [upd_ne nTp.symm, upd_same]; rfl, by rw [upd_ne nTD]; exact keep D _ hD nDp, fun z m => hk z ((List.mergeSort_perm N strLe).mem_iff.mpr m), by rw [upd_ne nTR, upd_ne nR]; exact hR, ?_⟩
      exact RowsO.upd hT2 (RowsO.but (e1 _ _ hp) keep hy)
  have free : ∀ R, upd H1 p (.ins C_OpenTable dx (putF "_doubts" (.ref D) [])) R = none → H R = none := fun R nR => by
    cases h : H R with
    | none => rfl
    | some o =>
      have h1 := e1 _ _ h
      have : R ≠ p := fun z => by
        rw [z, upd_same] at nR
        cases nR
      rw [upd_ne this, h1] at nR
      cases nR
  rcases hS1 with ⟨z0, rfl⟩ | ⟨ne, A, ys, rfl, hA, hy⟩
  · refine ⟨_, rfl, rfl, _, rfl, iteT ⟨Nat.le_of_ble_eq_true rfl, fun R nR => ?_⟩⟩
    have e2 := grow (o := .lst []) nR
    refine ⟨_, rfl, p, C_OpenTable, dx, _, rfl, e2 _ _ hp2, T.cl_OpenTable, T.na_OpenTable__rows, (by show 1 < 1000; decide), ?_⟩
    refine kk R [] _ e2 (fun z => by rw [z, hp2] at nR; cases nR) upd_same (free R nR) ?_
    rw [z0]
    exact .nil
  · have ly := hy.len
    refine ⟨_, rfl, rfl, _, rfl, iteF ⟨_, rfl, A, _, rfl, .inr (SqT.of (by rw [upd_ne fun z => by rw [z, e1 _ _ hp] at hA; cases hA]; exact hA)), fun R nR => ?_⟩⟩
    have e2 := grow (o := .lst ys) nR
    refine ⟨_, rfl, p, C_OpenTable, dx, _, rfl, e2 _ _ hp2, T.cl_OpenTable, T.na_OpenTable__rows, (by show 1 < 1000; decide), ?_⟩
    exact kk R ys _ e2 (fun z => by rw [z, hp2] at nR; cases nR) upd_same (free R nR) hy
def spOneD (K : PySem.W.Frag) : Sp := sp2 fun a b H Q => ∃ (D : Addr) (kvs : List (Key × V)) (z : Str), a = .str z ∧ b = .ref D ∧ H D = some (.dK kvs) ∧ (valV kvs (Sum.inr z)).isSome = true ∧ Q (.bl true) H
theorem c_is_one_of (T : Top K mg C_Open C_OpenTable A_OpenTable_reading) : Cal P w K mg base 1 "is_one_of" (spOneD K) [] := by
  obtain ⟨f, fd, F, df⟩ := T.d_is_one_of
  refine cal_of F df (fn2 F sc_is_one_of fun cdv A outer s H a b Q E hr h => ?_) fun _ _ _ _ _ _ us hl => match us, hl with | [_, _], _ => rfl
  have nd := sc_is_one_of.nd
  obtain ⟨D, kvs, z, rfl, rfl, hD, hk, k⟩ := h
  refine ⟨_, (pss_one 
      (ps_ret (pe_and (pe_callB (isi_K (K := K) rfl) (by rfl) T.isinstance (by decide +kernel) (pa_cons (pv 0) (pa_cons (pe_bltn (v := .ty "str") (by rfl) T.str (by decide +kernel) rfl) pa_nil))) (pe_one (pe_cmp (pc_din (hu_of hr) (pv 0) (pv 1)) (by with_unfolding_all rfl)))))), ?_⟩
  refine ⟨_, rfl, .inl ⟨_, _, _, true, rfl, .base (.str _), by decide +kernel, _, rfl, iteT ?_⟩⟩
  refine ⟨_, rfl, _, rfl, D, _, rfl, DGet.k (k := Sum.inr z) hD, ?_⟩
  rw [hk]
  exact k
def spIsNumber (K : PySem.W.Frag) : Sp := sp3 fun a b c H Q => ∃ (l : Int) (h : Option Int), AnyV K H a ∧ b = .int l ∧ c = (match h with | none => .non | some m => .int m) ∧ Q (.bl (numB a l h)) H
theorem ok_is_number (T : Top K mg C_Open C_OpenTable A_OpenTable_reading) {f : Addr} {fd : FuncData} (F : Def K mg "is_number" s_is_number f fd) : FnOk P w K mg base C8.CX0 1 f fd ["value", "least", "most"] (spIsNumber K) := by
  refine fn3 F sc_is_number fun cdv A outer s H a b c Q E hr h => ?_
  have nd := sc_is_number.nd
  obtain ⟨l, h, ha, rfl, rfl, q⟩ := h
  refine ⟨_, (pss_cons 
      (ps_if (PW.pt (pw_or (pt_not (pt_val (pe_callB (isi_K (K := K) rfl) (by rfl) T.isinstance (by decide +kernel) (pa_cons (pv 0) (pa_cons (pe_bltn (v := .ty "int") (by rfl) T.int (by decide +kernel) rfl) pa_nil))))) (pw_or1 (pt_val (pe_callB (isi_K (K := K) rfl) (by rfl) T.isinstance (by decide +kernel) (pa_cons (pv 0) (pa_cons (pe_bltn (v := .ty "bool") (by rfl) T.bool (by decide +kernel) rfl) pa_nil))))))) (pss_one 
      (ps_ret pe_bl)) pss_nil) (pss_one 
      (ps_ret (pe_and (pe_cmpR op_geU (pv 0) (pv 1) (nomark _)) (pe_one (pe_or (pe_cmpR op_isN (pv 2) pe_non (nomark _)) (pe_one (pe_cmpR op_leU (pv 0) (pv 2) (nomark _))))))))), ?_⟩
  rcases ha.intOr with ⟨i, rfl⟩ | ⟨b, rfl⟩ | ⟨no, t, ty, kb⟩
  · refine ⟨_, rfl, .inl ⟨_, _, _, true, rfl, .base (.int i), by decide +kernel, _, rfl, iteF ?_⟩⟩
    refine ⟨_, rfl, .inl ⟨_, _, _, false, rfl, .base (.int i), by decide +kernel, _, rfl, iteF ?_⟩⟩
    refine ⟨_, rfl, _, rfl, _, _, rfl, rfl, _, rfl, ite2 (fun e => ?_) (fun e => ?_)⟩
    · have e := of_decide_eq_true e
      cases h with
      | none =>
        refine ⟨_, rfl, rfl, _, rfl, iteT ?_⟩
        rw [show numB (.int i) l none = true by show (decide (l ≤ i) && true) = true; rw [decide_eq_true e]; rfl] at q
        exact q
      | some m =>
        refine ⟨_, rfl, rfl, _, rfl, iteF ⟨_, rfl, _, rfl, .inl ⟨_, _, rfl, rfl, ?_⟩⟩⟩
        rw [show numB (.int i) l (some m) = decide (i ≤ m) by show (decide (l ≤ i) && _) = _; rw [decide_eq_true e, Bool.true_and]] at q
        exact q
    · rw [show numB (.int i) l h = false by show (decide (l ≤ i) && _) = _; rw [decide_eq_false (fun z => e (decide_eq_true z)), Bool.false_and]] at q
      exact q
  · refine ⟨_, rfl, .inl ⟨_, _, _, true, rfl, .base (.bl b), by decide +kernel, _, rfl, iteF ?_⟩⟩
    exact ⟨_, rfl, .inl ⟨_, _, _, true, rfl, .base (.bl b), by decide +kernel, _, rfl, iteT q⟩⟩
  · rw [numB_no no] at q
    exact ⟨_, rfl, .inl ⟨_, _, _, false, rfl, ty, kb, _, rfl, iteT q⟩⟩
theorem c_is_number_1 (T : Top K mg C_Open C_OpenTable A_OpenTable_reading) : Cal P w K mg base 1 "is_number" (spIsNumber K) [.int 0, .non] := by
  obtain ⟨f, fd, F, D⟩ := T.d_is_number
  obtain ⟨ds, r, b⟩ := dfl_binds (ps := ["value", "least", "most"]) F D (by intro h; cases h) 1 0 rfl fun _ _ _ _ _ _ _ us its l1 l2 => match us, its, l1, l2 with | [_], [_, _], _, _ => ⟨_, rfl, rfl⟩
  exact ⟨f, fd, _, ds, ok_is_number T F, F.mgf, F.kp, b, r⟩
def spChk (K : PySem.W.Frag) (C : Addr) : Sp := sp3 fun a b c H Q => ∃ (p B : Addr) (N : List Str) (S : List OpR) (kvs : List (Key × V)) (bs : List Str), a = .ref p ∧ TabO K C H p N S ∧ FeK N kvs ∧ kvs.length ≤ 1000 ∧ ((b = .non ∧ kvs = []) ∨ ∃ F, b = .ref F ∧ H F = some (.dK kvs)) ∧ c = .ref B ∧ (SqL K H B (bs.map V.str) ∨ SqT K H B (bs.map V.str)) ∧ (∀ z ∈ bs, z ∈ N) ∧
  ∀ (H' : Hp) (D : Addr), Same H H' → H' D = some (.dK kvs) → Q (.ref D) H'
theorem c_OpenTable__checked (T : Top K mg C_Open C_OpenTable A_OpenTable_reading) : Met P w K mg base 2 C_OpenTable "_checked" (spChk K C_OpenTable) [] := by
  obtain ⟨f, fd, me, F, df⟩ := T.d_OpenTable__checked
  refine ⟨f, fd, ["self", "fees", "shut"], [], T.cl_OpenTable, me, ?_, F.binds df fun _ _ _ _ _ _ us hl => match us, hl with | [_, _, _], _ => rfl, .nil⟩
  refine fm3 F sc_OpenTable__checked fun cdv A outer s H a b c Q E hr h => ?_
  have nd := sc_OpenTable__checked.nd
  obtain ⟨p, B, N, S, kvs, bs, rfl, ⟨dx, D0, R, ds, ys, hp, hD0, hk, hR, hy⟩, fe, lk, hb, rfl, hB, mB, k⟩ := h
  obtain ⟨zs, ez, ndz, mz, mz2⟩ := fe.keys
  have ek := names_keys ez
  have lz : zs.length = kvs.length := by
    have := congrArg List.length ez
    rw [List.length_map, List.length_map] at this
    exact this.symm
  refine ⟨_, (pss_cons 
      (ps_set (i := 3) nd rfl (Or.inr rfl) (pe_ifExp (pt_cmpR op_isN (pv 1) pe_non (nomark _)) pe_dnewK (pv 1))) (pss_cons 
      (ps_for PassesOwn.never rfl (pi_K (K := K) rfl (pe_callB (cr_sortDic (K := K) rfl hr rfl) (by rfl) T.sorted (by decide +kernel) (pa_cons (pv 3) pa_nil))) (pg_name (i := 4) nd rfl (Or.inl rfl)) (pss_one 
      (ps_if (pt_cmp (pc_dnotin (hu_of hr) (pv 4) (pe_fld (pv 0) rfl)) (by with_unfolding_all rfl)) (pss_one ps_never) pss_nil))) (pss_cons 
      (ps_if (pt_not (pt_val (pe_callB (all_K (K := K) rfl rfl) (by rfl) T.all (by decide +kernel) (pa_cons (pe_lock (pe_lc (own := [("name", 4)]) rfl nd (pi_keys (pv 3)) (blkOk_by (N := ["self", "fees", "shut", "added", "name"]) (sc := fnScope s_OpenTable__checked) (by decide +kernel)) (fun _ _ _ _ _ => (pg_name (i := 4) nd rfl (Or.inl rfl))) (fun _ _ _ _ _ => pts_nil) (fun _ _ _ _ _ => (pe_c (c_is_number_1 T) hr (by decide) (by rfl) (pa_cons (pe_dget (hu_of hr) (pv 3) (pv 4) (fun _ _ => rfl)) pa_nil))))) pa_nil)))) (pss_one ps_never) pss_nil) (pss_cons 
      (ps_for PassesOwn.never rfl (pi_K (K := K) rfl (pv 2)) (pg_name (i := 4) nd rfl (Or.inl rfl)) (pss_one 
      (ps_if (pt_not (pt_val (pe_c (c_is_one_of T) hr (by decide) (by rfl) (pa_cons (pv 4) (pa_cons (pe_fld (pv 0) rfl) pa_nil))))) (pss_one ps_never) pss_nil))) (pss_one 
      (ps_ret (pv 3))))))), ?_⟩
  obtain ⟨y1, y2, y3⟩ := strZ_ok (K := K) (H := H) zs
  rcases hb with ⟨rfl, rfl⟩ | ⟨F, rfl, hF⟩
  refine ⟨_, rfl, rfl, _, rfl, iteT fun F nF => ?_⟩
  have e := grow (o := .dK []) nF
  have hF : upd H F (.dK []) F = some (.dK []) := upd_same
  generalize upd H F _ = G at e hF ⊢
  rotate_left
  have e := Same.refl H
  refine ⟨_, rfl, rfl, _, rfl, iteF ⟨_, rfl, ?_⟩⟩
  all_goals
    refine ⟨_, rfl, F, rfl, .inl ⟨_, .inl hF, strZ zs, by rw [strZ_fst, ← ek], fun z m => ⟨dp_mono e _ (y1 z m).1, (y1 z m).2⟩, y2, y3, fun q nq => ?_⟩⟩
    rw [sort_strs]
    have g1 := grow (o := .lst ((sortL zs).map V.str)) nq
    have e1 := e.trans g1
    have hF := g1 _ _ hF
    have hq := upd_same (a := q) (H := by assumption) (o := .lst ((sortL zs).map V.str))
    refine .inl ⟨q, rfl, ⟨_, SqL.of upd_same⟩, ?_⟩
    refine for_it (walk_list (xs := (sortL zs).map V.str)) (fun i σ H' => H' = _ ∧ ∃ b2 y, σ = [some (.ref p), some b2, some (.ref B), some (.ref F), y]) ⟨rfl, _, _, rfl⟩ (fun i σ H' _ ⟨e, _⟩ => e ▸ SqL.of upd_same) ?_ ?_
    · rintro i x σ H1 H2 hi ⟨rfl, b2, y, rfl⟩ ⟨rfl, g⟩
      obtain ⟨z, gz, rfl⟩ := str_get g
      have mz3 : z ∈ zs := (List.mergeSort_perm zs strLe).mem_iff.mp (List.mem_of_getElem? gz)
      have hz := hk z (mz z mz3).1
      refine ⟨_, rfl, _, rfl, p, C_OpenTable, dx, _, _, rfl, e1 _ _ hp, T.cl_OpenTable, T.na_OpenTable__doubts, lkp1, D0, _, rfl, DGet.k (k := Sum.inr z) (e1 _ _ hD0), ?_⟩
      rw [hz]
      exact ⟨_, rfl, iteF ⟨rfl, _, _, rfl⟩⟩
    rintro σ H1 ⟨rfl, b2, y, rfl⟩
    refine ⟨F, .dK _, hF, trivial, fun od => ⟨_, rfl, F, od, rfl, .inl ⟨_, upd_same, fun D nD => ?_⟩⟩⟩
    have nDF : D ≠ F := fun z => by rw [z, upd_same] at nD; cases nD
    refine lc_map (walk_keys (kvs := _)) (fun _ => .bl true) (fun _ _ _ _ ⟨e, _⟩ => e ▸ Same.refl _) (by omega) nD (fun G e => e _ _ upd_same) ?_ ?_
    · rintro i x G1 G2 hi e2 ⟨rfl, kk, v, gk, rfl⟩ W kR
      obtain ⟨z, n, ekv, _, n0, n1⟩ := fe.ok _ (List.mem_of_getElem? gk)
      cases ekv
      have hF2 := e2 F _ upd_same
      refine ⟨rfl, _, rfl, _, rfl, F, _, rfl, .inl ⟨_, Sum.inr z, .inr ⟨od, hF2⟩, rfl, (fe.at (List.mem_of_getElem? gk)).symm⟩, _, _, _, rfl, 0, none, any_int _, rfl, rfl, ?_⟩
      rw [show numB (.int n) 0 none = true by show (decide (0 ≤ n) && true) = true; rw [decide_eq_true n0]; rfl]
      exact kR _ (Same.refl _)
    intro H3 e3 hd3
    have e4 := lock_back hF e3
    refine ⟨e3 _ _ upd_same, D, (List.range _).map fun _ => true, rfl, SqL.of (by rw [upd_ne nDF, hd3, List.map_map]; rfl), ?_⟩
    rw [all_true]
    have e5 := e1.trans e4
    refine ⟨_, rfl, iteF ?_⟩
    have hB2 := hB.imp e5.seq (same_tup e5)
    have hF5 := e4 _ _ hF
    refine ⟨_, rfl, ?_⟩
    rcases hB2 with hB2 | hB2
    · refine .inl ⟨B, rfl, ⟨_, hB2⟩, ?_⟩
      refine for_it (walk_list (xs := bs.map V.str)) (fun i σ H' => H' = _ ∧ ∃ b2 y, σ = [some (.ref p), some b2, some (.ref B), some (.ref F), y]) ⟨rfl, _, _, rfl⟩ (fun i σ H' _ ⟨e, _⟩ => e ▸ hB2) ?_ ?_
      · rintro i x σ G1 G2 hi ⟨rfl, b2, y, rfl⟩ ⟨rfl, g⟩
        obtain ⟨z, gz, rfl⟩ := str_get g
        exact ⟨_, rfl, _, rfl, p, C_OpenTable, dx, _, _, rfl, e5 _ _ hp, T.cl_OpenTable, T.na_OpenTable__doubts, lkp1, _, _, rfl, D0, ds, z, rfl, rfl, e5 _ _ hD0, hk z (mB z (List.mem_of_getElem? gz)), _, rfl, iteF ⟨rfl, _, _, rfl⟩⟩
      · rintro σ G1 ⟨rfl, b2, y, rfl⟩
        exact ⟨_, rfl, k _ F e5 hF5⟩
    · refine .inr (.inl ⟨B, rfl, ⟨_, hB2⟩, ?_⟩)
      refine for_it (walk_tup (xs := bs.map V.str)) (fun i σ H' => H' = _ ∧ ∃ b2 y, σ = [some (.ref p), some b2, some (.ref B), some (.ref F), y]) ⟨rfl, _, _, rfl⟩ (fun i σ H' _ ⟨e, _⟩ => e ▸ hB2) ?_ ?_
      · rintro i x σ G1 G2 hi ⟨rfl, b2, y, rfl⟩ ⟨rfl, g⟩
        obtain ⟨z, gz, rfl⟩ := str_get g
        exact ⟨_, rfl, _, rfl, p, C_OpenTable, dx, _, _, rfl, e5 _ _ hp, T.cl_OpenTable, T.na_OpenTable__doubts, lkp1, _, _, rfl, D0, ds, z, rfl, rfl, e5 _ _ hD0, hk z (mB z (List.mem_of_getElem? gz)), _, rfl, iteF ⟨rfl, _, _, rfl⟩⟩
      · rintro σ G1 ⟨rfl, b2, y, rfl⟩
        exact ⟨_, rfl, k _ F e5 hF5⟩
/-- a dict of fees by name; what it lacks is 0 -/
def FeeD (H : Hp) (D : Addr) (f : Str → Int) : Prop := ∃ kvs, H D = some (.dK kvs) ∧ ∀ z, (valV kvs (Sum.inr z)).getD (.int 0) = .int (f z)
theorem FeeD.mono {H H' : Hp} {D : Addr} {f : Str → Int} (h : FeeD H D f) (e : Same H H') : FeeD H' D f := by
  obtain ⟨kvs, a, b⟩ := h
  exact ⟨kvs, e _ _ a, b⟩
def spPrice (K : PySem.W.Frag) : Sp := sp2 fun a b H Q => ∃ (r : OpR) (D : Addr) (f : Str → Int), RowV K H a r ∧ b = .ref D ∧ FeeD H D f ∧ r.2.length ≤ 1000 ∧ ∀ H', Same H H' → Q (.int (priceR f r)) H'
theorem c_price_of (T : Top K mg C_Open C_OpenTable A_OpenTable_reading) : Cal P w K mg base 1 "price_of" (spPrice K) [] := by
  obtain ⟨f, fd, F, df⟩ := T.d_price_of
  refine cal_of F df (fn2 F sc_price_of fun cdv A outer s H a b Q E hr h => ?_) fun _ _ _ _ _ _ us hl => match us, hl with | [_, _], _ => rfl
  have nd := sc_price_of.nd
  obtain ⟨r, D, f, hr', rfl, hf, lr, k⟩ := h
  obtain ⟨t, u, rfl, s1, s2⟩ := hr'.op
  refine ⟨_, (pss_cons 
      (ps_asg (pv 0) (tup_K (K := K) (n := 2) rfl rfl (pgs_cons (pg_name (i := 2) nd rfl (Or.inl rfl)) (pgs_cons (pg_name (i := 3) nd rfl (Or.inl rfl)) pgs_nil)))) (pss_one 
      (ps_ret (pe_op op_addU (pv 2) (pe_callB (cr_sum rfl) (by rfl) T.sum (by decide +kernel) (pa_cons (pe_lc (own := [("name", 4)]) rfl nd (pi_K (K := K) rfl (pv 3)) (blkOk_by (N := ["row", "fees", "price", "lot", "name"]) (sc := fnScope s_price_of) (by decide +kernel)) (fun _ _ _ _ _ => (pg_name (i := 4) nd rfl (Or.inl rfl))) (fun _ _ _ _ _ => pts_nil) (fun _ _ _ _ _ => (pe_dget2 (hu_of hr) (pv 1) (pv 4) pe_int ⟨rfl, rfl, rfl, rfl⟩))) pa_nil)))))), ?_⟩
  refine ⟨_, rfl, t, _, rfl, s1, rfl, _, _, rfl, _, _, rfl, rfl, ?_⟩
  refine ⟨_, rfl, _, rfl, .inr (.inl ⟨u, rfl, ⟨_, s2⟩, fun Z nZ => ?_⟩)⟩
  have l0 : (r.2.map V.str).length = r.2.length := List.length_map ..
  refine lc_some (walk_tup (xs := r.2.map V.str)) (fun i v _ => ∃ z, r.2[i]? = some z ∧ v = .int (f z)) grow_at (by omega) nZ (fun _ _ _ _ _ h => h) (fun H1 e => same_tup e s2) ?_ ?_
  · rintro i x H1 H2 hi e _ ⟨rfl, g⟩ W kk
    rw [List.getElem?_map] at g
    cases gz : r.2[i]? with
    | none =>
      rw [gz] at g
      cases g
    | some z =>
      rw [gz] at g
      cases g
      obtain ⟨kvs, h1, h2⟩ := hf.mono e
      refine ⟨rfl, _, rfl, D, rfl, .inl ⟨kvs, .inl h1⟩, _, rfl, _, DGet.k (k := Sum.inr z) h1, ?_⟩
      rw [h2 z]
      exact kk _ _ (Same.refl _) fun _ => ⟨z, gz, rfl⟩
  · intro xs H3 e3 hx hl hp
    have ex : xs = (r.2.map f).map V.int := by
      refine List.ext_getElem? fun i => ?_
      rw [List.map_map, List.getElem?_map]
      cases gx : xs[i]? with
      | some v =>
        obtain ⟨z, gz, rfl⟩ := hp i v gx
        rw [gz]
        rfl
      | none =>
        have : r.2[i]? = none := List.getElem?_eq_none (by
          have := List.getElem?_eq_none_iff.mp gx
          omega)
        rw [this]
        rfl
    rw [ex] at hx
    exact ⟨Z, r.2.map f, rfl, SqL.of hx, .inl ⟨_, _, rfl, rfl, k _ e3⟩⟩
def spUsab (K : PySem.W.Frag) (C : Addr) : Sp := sp2 fun a b H Q => ∃ (p B : Addr) (N : List Str) (S : List OpR) (bs : List Str), a = .ref p ∧ TabO K C H p N S ∧ b = .ref B ∧ (SqL K H B (bs.map V.str) ∨ SqT K H B (bs.map V.str)) ∧ S.length ≤ 1000 ∧ (∀ r ∈ S, r.2.length ≤ 1000) ∧
  ∀ (H' : Hp) (D : Addr) (ys : List V), Same H H' → H' D = some (.lst ys) → RowsO K H' ys (S.filter (usable bs)) → Q (.ref D) H'
theorem c_OpenTable__usable (T : Top K mg C_Open C_OpenTable A_OpenTable_reading) : Met P w K mg base 1 C_OpenTable "_usable" (spUsab K C_OpenTable) [] := by
  obtain ⟨f, fd, me, F, df⟩ := T.d_OpenTable__usable
  refine ⟨f, fd, ["self", "shut"], [], T.cl_OpenTable, me, ?_, F.binds df fun _ _ _ _ _ _ us hl => match us, hl with | [_, _], _ => rfl, .nil⟩
  refine fm2 F sc_OpenTable__usable fun cdv A outer s H a b Q E hr h => ?_
  have nd := sc_OpenTable__usable.nd
  obtain ⟨p, B, N, S, bs, rfl, ⟨dx, D0, R, kvs, ys, hp, hD0, hk, hR, hy⟩, rfl, hB, lS, lr, k⟩ := h
  refine ⟨_, (pss_one 
      (ps_ret (pe_lc (own := [("row", 2)]) rfl nd (pi_K (K := K) rfl (pe_fld (pv 0) rfl)) (blkOk_by (N := ["self", "shut", "row", "name"]) (sc := fnScope s_OpenTable__usable) (by decide +kernel)) (fun _ _ _ _ _ => (pg_name (i := 2) nd rfl (Or.inl rfl))) (fun _ _ _ _ _ => (pts_one (pt_not (pt_val (pe_callB (any_K (K := K) rfl rfl) (by rfl) T.any (by decide +kernel) (pa_cons (pe_lc (own := [("name", 3)]) rfl nd (pi_K (K := K) rfl (pe_ix (ix_K (K := K) rfl) (pv 2) pe_int (fun _ _ => rfl))) (blkOk_by (by kernel_rfl)) (fun _ _ _ _ _ => (pg_name (i := 3) nd rfl (Or.inl rfl))) (fun _ _ _ _ _ => pts_nil) (fun _ _ _ _ _ => (pe_cmpR (in_K (K := K) rfl) (pv 3) (pv 1) (by with_unfolding_all rfl)))) pa_nil)))))) (fun _ _ _ _ _ => (pv 2))))), ?_⟩
  have ly := hy.len
  refine ⟨_, rfl, p, C_OpenTable, dx, _, _, rfl, hp, T.cl_OpenTable, T.na_OpenTable__rows, lkp2 (by decide +kernel), .inl ⟨R, rfl, ⟨_, SqL.of hR⟩, fun D hD => ?_⟩⟩
  refine lc_filt (walk_list (xs := ys)) (fun i => usable bs (S.getD i (0, []))) (fun i => ys.getD i .non) grow_at (by omega) hD (fun H1 e => SqL.of (e _ _ hR)) ?_ ?_
  · rintro i x G1 G2 hi e ⟨rfl, g⟩ F0 R0 yes no
    obtain ⟨r, gr, t, u, rfl, h1, h2⟩ := (hy.mono e).get g
    rw [show S.getD i (0, []) = r from getD_of gr] at yes no
    rw [show ys.getD i .non = V.ref t from getD_of g] at yes
    have mr := List.mem_of_getElem? gr
    have lw := lr r mr
    refine ⟨rfl, _, rfl, .inr (.inl ⟨t, _, _, _, rfl, rfl, h1, at1, .inr (.inl ⟨u, rfl, ⟨_, h2.sq⟩, fun D2 hD2 => ?_⟩)⟩)⟩
    refine lc_map (walk_tup (xs := r.2.map V.str)) (fun j => .bl (decide (r.2.getD j default ∈ bs))) grow_at (by rw [List.length_map]; omega) hD2 (fun H1 e1 => same_tup e1 h2.sq) ?_ ?_
    · rintro j v G3 G4 hj e2 ⟨rfl, g2⟩ W kk
      obtain ⟨z, gz, rfl⟩ := str_get g2
      rw [show r.2.getD j default = z from getD_of gz] at kk
      have hB2 : SqL K G4 B (bs.map V.str) ∨ SqT K G4 B (bs.map V.str) := hB.imp (fun h => (e.trans e2).seq h) fun h => same_tup (e.trans e2) h
      refine ⟨rfl, _, rfl, _, rfl, .inr ⟨B, _, rfl, hB2, rfl, flat_strs _, ?_⟩⟩
      rw [inV_strs]
      exact kk _ (Same.refl _)
    · intro H5 e5 hd5
      refine ⟨D2, (List.range (r.2.map V.str).length).map fun j => decide (r.2.getD j default ∈ bs), rfl, SqL.of (by rw [hd5, List.map_map]; rfl), ?_⟩
      have el : (((List.range (r.2.map V.str).length).map fun j => decide (r.2.getD j default ∈ bs)).any id) = !usable bs r := by
        rw [List.length_map, map_range_get default (fun z => decide (z ∈ bs)) r.2, List.any_map]
        unfold usable
        rw [List.not_all_eq_any_not]
        simp
      rw [el]
      refine ⟨_, rfl, ?_⟩
      cases a : usable bs r with
      | true =>
        rw [a] at yes
        exact ⟨_, rfl, yes _ e5 rfl⟩
      | false =>
        rw [a] at no
        exact no _ e5 rfl
  · intro H1 e1 hd1
    have ef : ((List.range ys.length).filter fun i => usable bs (S.getD i (0, []))).map (fun i => ys.getD i .non) = ((ys.zip S).filter fun q => usable bs q.2).map Prod.fst := by
      have lz : (ys.zip S).length = ys.length := by rw [List.length_zip, ly, Nat.min_self]
      have := filt_range (V.non, ((0, []) : OpR)) (fun q : V × OpR => usable bs q.2) Prod.fst (ys.zip S)
      rw [← this, lz]
      have gz : ∀ i, i < ys.length → (ys.zip S).getD i (V.non, (0, [])) = (ys.getD i .non, S.getD i (0, [])) := fun i hi => by
        have h1 : ys[i]? = some ys[i] := List.getElem?_eq_getElem hi
        have h2 : S[i]? = some S[i] := List.getElem?_eq_getElem (by omega)
        have h3 : (ys.zip S)[i]? = some (ys[i], S[i]) := by rw [List.getElem?_zip_eq_some]; exact ⟨h1, h2⟩
        rw [getD_of h1, getD_of h2, getD_of h3]
      have e1 : (List.range ys.length).filter (fun i => usable bs (S.getD i (0, []))) = (List.range ys.length).filter fun i => usable bs ((ys.zip S).getD i (V.non, (0, []))).2 := List.filter_congr fun i m => by rw [gz i (List.mem_range.mp m)]
      rw [e1]
      refine List.map_congr_left fun i m => ?_
      rw [gz i (List.mem_range.mp (List.mem_filter.mp m).1)]
    rw [ef] at hd1
    have es : ((ys.zip S).filter fun q => usable bs q.2).map Prod.snd = S.filter (usable bs) := by
      conv => rhs; rw [show S = (ys.zip S).map Prod.snd from (List.map_snd_zip (by omega)).symm]
      rw [List.filter_map]
      rfl
    have e0 := e1
    refine k H1 D _ e0 hd1 ?_
    rw [← es]
    refine rowsO_of fun q m => ?_
    obtain ⟨i, g⟩ := List.mem_iff_getElem?.mp (List.mem_filter.mp m).1
    obtain ⟨g1, g2⟩ := List.getElem?_zip_eq_some.mp g
    obtain ⟨r, gr, hr⟩ := (hy.mono e0).get g1
    rw [g2] at gr
    cases gr
    exact hr
def spRead (K : PySem.W.Frag) (C : Addr) : Sp := sp3 fun a b c H Q => ∃ (p B : Addr) (N : List Str) (S : List OpR) (kvs : List (Key × V)) (bs : List Str), a = .ref p ∧ TabO K C H p N S ∧ FeK N kvs ∧ kvs.length ≤ 1000 ∧ ((b = .non ∧ kvs = []) ∨ ∃ F, b = .ref F ∧ H F = some (.dK kvs)) ∧ c = .ref B ∧ (SqL K H B (bs.map V.str) ∨ SqT K H B (bs.map V.str)) ∧ (∀ z ∈ bs, z ∈ N) ∧ S.length ≤ 1000 ∧ (∀ r ∈ S, r.2.length ≤ 1000) ∧
  ∀ (H' : Hp) (m : Option Int), Same H H' → LeastO (pricesR (feeF kvs) bs S) m → Q (oI m) H'
theorem ok_OpenTable_reading (T : Top K mg C_Open C_OpenTable A_OpenTable_reading) {f : Addr} {fd : FuncData} (F : C8.Fun K "reading" "OpenTable.reading" s_OpenTable_reading f fd) : FnOk P w K mg base C8.CX0 3 f fd ["self", "fees", "shut"] (spRead K C_OpenTable) := by
  refine fm3 F sc_OpenTable_reading fun cdv A outer s H a b c Q E hr h => ?_
  have nd := sc_OpenTable_reading.nd
  obtain ⟨p, B, N, S, kvs, bs, rfl, hT, fe, lk, hb, rfl, hB, mB, lS, lr, k⟩ := h
  refine ⟨_, (pss_cons 
      (ps_set (i := 3) nd rfl (Or.inr rfl) (pe_mt (c_OpenTable__checked T) hr (by decide) (pv 0) (pa_cons (pv 1) (pa_cons (pv 2) pa_nil)))) (pss_one 
      (ps_ret (pe_callBK (cr_minN (K := K) rfl rfl) (by rfl) T.min (by decide +kernel) (pa_cons (pe_lc (own := [("row", 4)]) rfl nd (pi_K (K := K) rfl (pe_mt (c_OpenTable__usable T) hr (by decide) (pv 0) (pa_cons (pv 2) pa_nil))) (blkOk_by (N := ["self", "fees", "shut", "added", "row"]) (sc := fnScope s_OpenTable_reading) (by decide +kernel)) (fun _ _ _ _ _ => (pg_name (i := 4) nd rfl (Or.inl rfl))) (fun _ _ _ _ _ => pts_nil) (fun _ _ _ _ _ => (pe_c (c_price_of T) hr (by decide) (by rfl) (pa_cons (pv 4) (pa_cons (pv 3) pa_nil))))) pa_nil) (pk_cons pe_non pk_nil))))), ?_⟩
  obtain ⟨dx, D0, R, ds, ys, hp, hD0, hk, hR, hy⟩ := id hT
  refine ⟨_, rfl, p, dx, _, rfl, hp, lkp0 (by decide +kernel) (by decide +kernel), _, rfl, _, rfl, _, _, _, rfl, p, B, N, S, kvs, bs, rfl, hT, fe, lk, hb, rfl, hB, mB, fun H1 F e1 hF => ?_⟩
  refine ⟨_, rfl, p, dx, _, rfl, e1 _ _ hp, lkp0 (by decide +kernel) (by decide +kernel), _, rfl, _, _, rfl, p, B, N, S, bs, rfl, hT.mono e1, rfl, hB.imp e1.seq (same_tup e1), lS, lr, fun H2 D us e2 hD hu => ?_⟩
  have lu := hu.len
  have lf : (S.filter (usable bs)).length ≤ S.length := List.length_filter_le ..
  refine .inl ⟨D, rfl, ⟨_, SqL.of hD⟩, fun Z nZ => ?_⟩
  refine lc_map (walk_list (xs := us)) (fun i => .int (priceR (feeF kvs) ((S.filter (usable bs)).getD i (0, [])))) grow_at (by omega) nZ (fun H1 e => SqL.of (e _ _ hD)) ?_ ?_
  · rintro i x G1 G2 hi e ⟨rfl, g⟩ W kk
    obtain ⟨r, gr, hr'⟩ := (hu.mono e).get g
    rw [show (S.filter (usable bs)).getD i (0, []) = r from getD_of gr] at kk
    have mr := (List.mem_filter.mp (List.mem_of_getElem? gr)).1
    exact ⟨rfl, _, rfl, _, rfl, _, _, rfl, r, F, feeF kvs, hr', rfl, ⟨kvs, e _ _ (e2 _ _ hF), fun z => (fe.val z).1⟩, lr r mr, fun H3 e3 => kk _ e3⟩
  intro H3 e3 hd3
  have en : (List.range us.length).map (fun i => V.int (priceR (feeF kvs) ((S.filter (usable bs)).getD i (0, [])))) = (pricesR (feeF kvs) bs S).map V.int := by
    rw [lu, map_range_get (0, []) (fun r : OpR => V.int (priceR (feeF kvs) r)) (S.filter (usable bs))]
    unfold pricesR
    rw [List.map_map]
    rfl
  rw [en] at hd3
  refine ⟨Z, _, rfl, rfl, SqL.of hd3, fun z => ?_, fun m mm le => ?_⟩
  · exact k H3 none (e1.trans (e2.trans e3)) z
  · exact k H3 (some m) (e1.trans (e2.trans e3)) ⟨mm, le⟩
theorem k_OpenTable_reading_ (T : Top K mg C_Open C_OpenTable A_OpenTable_reading) : MetK P w K mg base 3 C_OpenTable "reading" (spRead K C_OpenTable) 0 [] (fun vs zs => pick vs [V.non, V.ref A_OpenTable_reading] zs [(0, 0), (1, 0), (1, 1)]) := by
  obtain ⟨f, fd, me, F, FD⟩ := T.d_OpenTable_reading
  obtain ⟨mv, b⟩ := FD.kbinds0 (ps := ["self", "fees", "shut"]) 1 [] [("fees", V.non), ("shut", V.ref A_OpenTable_reading)] (fun us mv ws => pick us mv ws [(0, 0), (1, 0), (1, 1)]) (by intro h; cases h) (by simp) (fun r1 r2 r3 => pick_rel r1 r2 r3 _) fun D doc pm an cdv ct us mv ws l1 l2 l3 => match us, mv, ws, l1, l2, l3 with | [_], [_, _], [], _, _, _ => ⟨_, _, _, _, _, _, rfl, rfl, ⟨_, _, _, _, _, _, rfl, rfl, rfl⟩⟩
  exact ⟨f, fd, _, _, T.cl_OpenTable, me, ok_OpenTable_reading T F, b⟩
theorem k_OpenTable_reading_fees (T : Top K mg C_Open C_OpenTable A_OpenTable_reading) : MetK P w K mg base 3 C_OpenTable "reading" (spRead K C_OpenTable) 0 ["fees"] (fun vs zs => pick vs [V.ref A_OpenTable_reading] zs [(0, 0), (2, 0), (1, 0)]) := by
  obtain ⟨f, fd, me, F, FD⟩ := T.d_OpenTable_reading
  obtain ⟨mv, b⟩ := FD.kbinds0 (ps := ["self", "fees", "shut"]) 1 ["fees"] [("shut", V.ref A_OpenTable_reading)] (fun us mv ws => pick us mv ws [(0, 0), (2, 0), (1, 0)]) (by intro h; cases h) (by simp) (fun r1 r2 r3 => pick_rel r1 r2 r3 _) fun D doc pm an cdv ct us mv ws l1 l2 l3 => match us, mv, ws, l1, l2, l3 with | [_], [_], [_], _, _, _ => ⟨_, _, _, _, _, _, rfl, rfl, rfl⟩
  exact ⟨f, fd, _, _, T.cl_OpenTable, me, ok_OpenTable_reading T F, b⟩
theorem k_OpenTable_reading_fees_shut (T : Top K mg C_Open C_OpenTable A_OpenTable_reading) : MetK P w K mg base 3 C_OpenTable "reading" (spRead K C_OpenTable) 0 ["fees", "shut"] (fun vs zs => pick vs [] zs [(0, 0), (2, 0), (2, 1)]) := by
  obtain ⟨f, fd, me, F, FD⟩ := T.d_OpenTable_reading
  obtain ⟨mv, b⟩ := FD.kbinds0 (ps := ["self", "fees", "shut"]) 1 ["fees", "shut"] [] (fun us mv ws => pick us mv ws [(0, 0), (2, 0), (2, 1)]) (by intro h; cases h) (by simp) (fun r1 r2 r3 => pick_rel r1 r2 r3 _) fun D doc pm an cdv ct us mv ws l1 l2 l3 => match us, mv, ws, l1, l2, l3 with | [_], [], [_, _], _, _, _ => rfl
  exact ⟨f, fd, _, _, T.cl_OpenTable, me, ok_OpenTable_reading T F, b⟩
theorem k_OpenTable_reading_shut (T : Top K mg C_Open C_OpenTable A_OpenTable_reading) : MetK P w K mg base 3 C_OpenTable "reading" (spRead K C_OpenTable) 0 ["shut"] (fun vs zs => pick vs [V.non] zs [(0, 0), (1, 0), (2, 0)]) := by
  obtain ⟨f, fd, me, F, FD⟩ := T.d_OpenTable_reading
  obtain ⟨mv, b⟩ := FD.kbinds0 (ps := ["self", "fees", "shut"]) 1 ["shut"] [("fees", V.non)] (fun us mv ws => pick us mv ws [(0, 0), (1, 0), (2, 0)]) (by intro h; cases h) (by simp) (fun r1 r2 r3 => pick_rel r1 r2 r3 _) fun D doc pm an cdv ct us mv ws l1 l2 l3 => match us, mv, ws, l1, l2, l3 with | [_], [_], [_], _, _, _ => ⟨_, _, _, _, _, _, rfl, rfl, rfl⟩
  exact ⟨f, fd, _, _, T.cl_OpenTable, me, ok_OpenTable_reading T F, b⟩
theorem k_OpenTable_reading_shut_fees (T : Top K mg C_Open C_OpenTable A_OpenTable_reading) : MetK P w K mg base 3 C_OpenTable "reading" (spRead K C_OpenTable) 0 ["shut", "fees"] (fun vs zs => pick vs [] zs [(0, 0), (2, 1), (2, 0)]) := by
  obtain ⟨f, fd, me, F, FD⟩ := T.d_OpenTable_reading
  obtain ⟨mv, b⟩ := FD.kbinds0 (ps := ["self", "fees", "shut"]) 1 ["shut", "fees"] [] (fun us mv ws => pick us mv ws [(0, 0), (2, 1), (2, 0)]) (by intro h; cases h) (by simp) (fun r1 r2 r3 => pick_rel r1 r2 r3 _) fun D doc pm an cdv ct us mv ws l1 l2 l3 => match us, mv, ws, l1, l2, l3 with | [_], [], [_, _], _, _, _ => rfl
  exact ⟨f, fd, _, _, T.cl_OpenTable, me, ok_OpenTable_reading T F, b⟩
/-- alike: the same data, two dicts of names and numbers with the same rows, or lists of what is alike -/
def RL (K : PySem.W.Frag) : Nat → Hp → V → V → Prop
  | 0, _, _, _ => False
  | n + 1, H, a, b => (∃ d, Lk (n + 1) d ∧ Dp K H a d ∧ Dp K H b d) ∨
    (3 ≤ n ∧ ∃ (A B : Addr) (kvs : List (Key × V)) (N : List Str), a = .ref A ∧ b = .ref B ∧ H A = some (.dK kvs) ∧ H B = some (.dK kvs) ∧ FeK N kvs ∧ kvs.length ≤ 1000) ∨
    ∃ (A B : Addr) (xs ys : List V), a = .ref A ∧ b = .ref B ∧ SqL K H A xs ∧ SqL K H B ys ∧ xs.length = ys.length ∧ xs.length ≤ 1000 ∧ ∀ (i : Nat) (x y : V), xs[i]? = some x → ys[i]? = some y → RL K n H x y
theorem RL.of {K : PySem.W.Frag} : ∀ {n : Nat} {H : Hp} {a b : V} {d : PyData}, Lk n d → Dp K H a d → Dp K H b d → RL K n H a b
  | 0, _, _, _, _, h, _, _ => h.elim
  | _ + 1, _, _, _, _, h, x, y => .inl ⟨_, h, x, y⟩
theorem RL.mono {K : PySem.W.Frag} : ∀ {n : Nat} {H H' : Hp} {a b : V}, RL K n H a b → Same H H' → RL K n H' a b
  | 0, _, _, _, _, h, _ => h.elim
  | n + 1, H, H', a, b, h, e => by
    rcases h with ⟨d, h1, h2, h3⟩ | ⟨h0, A, B, kvs, N, h1, h2, h3, h4, h5⟩ | ⟨A, B, xs, ys, h1, h2, h3, h4, h5, h6, h7⟩
    · exact .inl ⟨d, h1, dp_mono e _ h2, dp_mono e _ h3⟩
    · exact .inr (.inl ⟨h0, A, B, kvs, N, h1, h2, e _ _ h3, e _ _ h4, h5⟩)
    · exact .inr (.inr ⟨A, B, xs, ys, h1, h2, e.seq h3, e.seq h4, h5, h6, fun i x y g1 g2 => (h7 i x y g1 g2).mono e⟩)
def rowI (kv : Key × V) : PyData := match kv with
  | (.inr z, .int i) => .list [.str z, .int i]
  | _ => .none
theorem dpAll_at {K : PySem.W.Frag} {H : Hp} : ∀ {us : List V} {ds : List PyData}, us.length = ds.length → (∀ (i : Nat) (v : V) (d : PyData), us[i]? = some v → ds[i]? = some d → Dp K H v d) → DpAll K H us ds
  | [], [], _, _ => .nil
  | [], _ :: _, l, _ => nomatch l
  | _ :: _, [], l, _ => nomatch l
  | v :: us, d :: ds, l, h => .cons (h 0 v d rfl rfl) (dpAll_at (Nat.succ.inj l) fun i v d a b => h (i + 1) v d a b)
def spLike (K : PySem.W.Frag) (n : Nat) : Sp := sp2 fun a b H Q => RL K n H a b ∧ Then H Q (.bl true)
theorem c__law_like_n (T : Top K mg C_Open C_OpenTable A_OpenTable_reading) : ∀ n, Cal P w K mg base (n + 1) "_law_like" (spLike K n) []
  | 0 => by
    obtain ⟨f, fd, F, df⟩ := T.d__law_like
    refine cal_of F df (fn2 F sc__law_like fun cdv A outer s H a b Q E hr h => ?_) fun _ _ _ _ _ _ us hl => match us, hl with | [_, _], _ => rfl
    exact h.1.elim
  | n + 1 => by
    have ih := @c__law_like_n T n
    obtain ⟨f, fd, F, df⟩ := T.d__law_like
    refine cal_of F df (fn2 F sc__law_like fun cdv A outer s H a b Q E hr h => ?_) fun _ _ _ _ _ _ us hl => match us, hl with | [_, _], _ => rfl
    have nd := sc__law_like.nd
    obtain ⟨rl, q⟩ := h
    refine ⟨_, (pss_cons 
      (ps_if (pt_val (pe_callB (isi_K (K := K) rfl) (by rfl) T.isinstance (by decide +kernel) (pa_cons (pv 1) (pa_cons (pe_tup (pa_cons (pe_bltn (v := .ty "list") (by rfl) T.list (by decide +kernel) rfl) (pa_cons (pe_bltn (v := .ty "tuple") (by rfl) T.tuple (by decide +kernel) rfl) pa_nil))) pa_nil)))) (pss_cons 
      (ps_if (PW.pt (pw_or (pt_cmpR (ne_K (K := K) rfl hr) (pe_callB (isi_K (K := K) rfl) (by rfl) T.isinstance (by decide +kernel) (pa_cons (pv 0) (pa_cons (pe_bltn (v := .ty "list") (by rfl) T.list (by decide +kernel) rfl) pa_nil))) (pe_callB (isi_K (K := K) rfl) (by rfl) T.isinstance (by decide +kernel) (pa_cons (pv 1) (pa_cons (pe_bltn (v := .ty "list") (by rfl) T.list (by decide +kernel) rfl) pa_nil))) (nomark _)) (pw_or1 (pt_cmpR (ne_K (K := K) rfl hr) (pe_callB (isi_K (K := K) rfl) (by rfl) T.isinstance (by decide +kernel) (pa_cons (pv 0) (pa_cons (pe_bltn (v := .ty "tuple") (by rfl) T.tuple (by decide +kernel) rfl) pa_nil))) (pe_callB (isi_K (K := K) rfl) (by rfl) T.isinstance (by decide +kernel) (pa_cons (pv 1) (pa_cons (pe_bltn (v := .ty "tuple") (by rfl) T.tuple (by decide +kernel) rfl) pa_nil))) (nomark _))))) (pss_one 
      (ps_ret pe_bl)) pss_nil) (pss_one 
      (ps_ret (pe_and (pe_cmpR (eq_K (K := K) rfl hr) (pe_callB (len_K (K := K) rfl) (by rfl) T.len (by decide +kernel) (pa_cons (pv 0) pa_nil)) (pe_callB (len_K (K := K) rfl) (by rfl) T.len (by decide +kernel) (pa_cons (pv 1) pa_nil)) (nomark _)) (pe_one (pe_callB (all_K (K := K) rfl rfl) (by rfl) T.all (by decide +kernel) (pa_cons (pe_lc (own := [("a", 3), ("b", 4)]) rfl nd (zip_K (K := K) rfl (by rfl) T.zip (pa_cons (pv 0) (pa_cons (pv 1) pa_nil))) (blkOk_by (N := ["told", "due", "k", "a", "b"]) (sc := fnScope s__law_like) (by decide +kernel)) (fun _ _ _ _ _ => (tup_K (K := K) (n := 2) rfl rfl (pgs_cons (pg_name (i := 3) nd rfl (Or.inl rfl)) (pgs_cons (pg_name (i := 4) nd rfl (Or.inl rfl)) pgs_nil)))) (fun _ _ _ _ _ => pts_nil) (fun _ _ _ _ _ => (pe_c ih hr (Nat.le_refl _) (by rfl) (pa_cons (pv 3) (pa_cons (pv 4) pa_nil))))) pa_nil))))))) pss_nil) (pss_cons 
      (ps_if (pt_val (pe_callB (isi_K (K := K) rfl) (by rfl) T.isinstance (by decide +kernel) (pa_cons (pv 1) (pa_cons (pe_bltn (v := .ty "dict") (by rfl) T.dict (by decide +kernel) rfl) pa_nil)))) (pss_cons 
      (ps_if (pt_not (pt_val (pe_callB (isi_K (K := K) rfl) (by rfl) T.isinstance (by decide +kernel) (pa_cons (pv 0) (pa_cons (pe_bltn (v := .ty "dict") (by rfl) T.dict (by decide +kernel) rfl) pa_nil))))) (pss_one 
      (ps_ret pe_bl)) pss_nil) (pss_one 
      (ps_ret (pe_c ih hr (Nat.le_refl _) (by rfl) (pa_cons (pe_lock (pe_lc (own := [("k", 2)]) rfl nd (pi_keys (pv 0)) (blkOk_by (N := ["told", "due", "k", "a", "b"]) (sc := fnScope s__law_like) (by decide +kernel)) (fun _ _ _ _ _ => (pg_name (i := 2) nd rfl (Or.inl rfl))) (fun _ _ _ _ _ => pts_nil) (fun _ _ _ _ _ => (pe_lst (pa_cons (pv 2) (pa_cons (pe_dget (hu_of hr) (pv 0) (pv 2) (fun _ _ => rfl)) pa_nil)))))) (pa_cons (pe_lock (pe_lc (own := [("k", 2)]) rfl nd (pi_keys (pv 1)) (blkOk_by (N := ["told", "due", "k", "a", "b"]) (sc := fnScope s__law_like) (by decide +kernel)) (fun _ _ _ _ _ => (pg_name (i := 2) nd rfl (Or.inl rfl))) (fun _ _ _ _ _ => pts_nil) (fun _ _ _ _ _ => (pe_lst (pa_cons (pv 2) (pa_cons (pe_dget (hu_of hr) (pv 1) (pv 2) (fun _ _ => rfl)) pa_nil)))))) pa_nil)))))) pss_nil) (pss_cons 
      (ps_if (PW.pt (pw_or (pt_cmpR op_isN (pv 1) pe_non (nomark _)) (pw_or1 (pt_cmpR op_isN (pv 0) pe_non (nomark _))))) (pss_one 
      (ps_ret (pe_and (pe_cmpR op_isN (pv 1) pe_non (nomark _)) (pe_one (pe_cmpR op_isN (pv 0) pe_non (nomark _)))))) pss_nil) (pss_cons 
      (ps_if (PW.pt (pw_or (pt_val (pe_callB (isi_K (K := K) rfl) (by rfl) T.isinstance (by decide +kernel) (pa_cons (pv 0) (pa_cons (pe_tup (pa_cons (pe_bltn (v := .ty "list") (by rfl) T.list (by decide +kernel) rfl) (pa_cons (pe_bltn (v := .ty "tuple") (by rfl) T.tuple (by decide +kernel) rfl) (pa_cons (pe_bltn (v := .ty "dict") (by rfl) T.dict (by decide +kernel) rfl) pa_nil)))) pa_nil)))) (pw_or1 (pt_cmpR (ne_K (K := K) rfl hr) (pe_callB (isi_K (K := K) rfl) (by rfl) T.isinstance (by decide +kernel) (pa_cons (pv 0) (pa_cons (pe_bltn (v := .ty "bool") (by rfl) T.bool (by decide +kernel) rfl) pa_nil))) (pe_callB (isi_K (K := K) rfl) (by rfl) T.isinstance (by decide +kernel) (pa_cons (pv 1) (pa_cons (pe_bltn (v := .ty "bool") (by rfl) T.bool (by decide +kernel) rfl) pa_nil))) (nomark _))))) (pss_one 
      (ps_ret pe_bl)) pss_nil) (pss_cons 
      (ps_if (PW.pt (pw_or (pt_cmpR (ne_K (K := K) rfl hr) (pe_callB (isi_K (K := K) rfl) (by rfl) T.isinstance (by decide +kernel) (pa_cons (pv 0) (pa_cons (pe_bltn (v := .ty "str") (by rfl) T.str (by decide +kernel) rfl) pa_nil))) (pe_callB (isi_K (K := K) rfl) (by rfl) T.isinstance (by decide +kernel) (pa_cons (pv 1) (pa_cons (pe_bltn (v := .ty "str") (by rfl) T.str (by decide +kernel) rfl) pa_nil))) (nomark _)) (pw_or1 (pt_cmpR (ne_K (K := K) rfl hr) (pe_callB (isi_K (K := K) rfl) (by rfl) T.isinstance (by decide +kernel) (pa_cons (pv 0) (pa_cons (pe_bltn (v := .ty "int") (by rfl) T.int (by decide +kernel) rfl) pa_nil))) (pe_callB (isi_K (K := K) rfl) (by rfl) T.isinstance (by decide +kernel) (pa_cons (pv 1) (pa_cons (pe_bltn (v := .ty "int") (by rfl) T.int (by decide +kernel) rfl) pa_nil))) (nomark _))))) (pss_one 
      (ps_ret pe_bl)) pss_nil) (pss_one 
      (ps_ret (pe_callTy call_bool1 (by rfl) T.bool (by decide +kernel) (pa_cons (pe_cmpR (eq_K (K := K) rfl hr) (pv 0) (pv 1) (nomark _)) pa_nil))))))))), ?_⟩
    rcases rl with ⟨d, lk, ha, hb⟩ | ⟨n3, A1, B1, kvs, N, rfl, rfl, hA, hB, fe, lk⟩ | ⟨A1, B1, xs, ys, rfl, rfl, sa, sb, l12, lk, hr2⟩
    rotate_left
    · refine ⟨_, rfl, by decide, fun t nt => .inr ⟨_, _, ["list", "tuple"], "dict", false, rfl, upd_same, .base (.dK ((grow nt) _ _ hB)), by decide +kernel, _, rfl, iteF ?_⟩⟩
      have e0 := grow (o := .tup [.ty "list", .ty "tuple"]) nt
      have hA := e0 _ _ hA
      have hB := e0 _ _ hB
      generalize upd H t _ = H0 at e0 hA hB ⊢
      refine ⟨_, rfl, .inl ⟨_, _, _, true, rfl, .base (.dK hB), by decide +kernel, _, rfl, iteT ?_⟩⟩
      refine ⟨_, rfl, .inl ⟨_, _, _, true, rfl, .base (.dK hA), by decide +kernel, _, rfl, iteF ?_⟩⟩
      refine ⟨A1, .dK kvs, hA, trivial, fun od => ⟨_, rfl, A1, od, rfl, .inl ⟨kvs, upd_same, fun D nD => ?_⟩⟩⟩
      have rows : ∀ (G : Hp) (C D : Addr) (od : Obj) (H3 : Hp) (us : List V), Same (upd G C (.frz od (.dK kvs))) H3 → us.length = kvs.length → (∀ (i : Nat) (v : V), us[i]? = some v → ∃ c z n, v = .ref c ∧ H3 c = some (.lst [.str z, .int n]) ∧ kvs[i]? = some (Sum.inr z, V.int n)) → DpAll K (upd H3 C (.dK kvs)) us (kvs.map rowI) := fun G C D od H3 us e lu h => by
        refine dpAll_at (by rw [lu, List.length_map]) fun i v d gv gd => ?_
        obtain ⟨c, z, n, rfl, hc, gk⟩ := h i v gv
        rw [List.getElem?_map, gk] at gd
        cases gd
        have nc : c ≠ C := fun q => by
          rw [q, e _ _ upd_same] at hc
          cases hc
        exact .lst (SqL.of (by rw [upd_ne nc]; exact hc)) (.cons (.str z) (.cons (.int n) .nil))
      have nDA : D ≠ A1 := fun z => by rw [z, upd_same] at nD; cases nD
      refine lc_some (walk_keys (kvs := kvs)) (fun i v H' => ∃ c z n, v = .ref c ∧ H' c = some (.lst [.str z, .int n]) ∧ kvs[i]? = some (Sum.inr z, V.int n)) (fun _ _ _ _ ⟨e, _⟩ => e ▸ Same.refl _) (by omega) nD (fun i v H1 H2 e ⟨c, z, n, a1, a2, a3⟩ => ⟨c, z, n, a1, e _ _ a2, a3⟩) (fun G e => e _ _ upd_same) ?_ ?_
      · rintro i x G1 G2 hi e2 ⟨acc, hacc⟩ ⟨rfl, kk, v, gk, rfl⟩ W kR
        obtain ⟨z, n, ekv, _, n0, n1⟩ := fe.ok _ (List.mem_of_getElem? gk)
        cases ekv
        have hA2 := e2 A1 _ upd_same
        refine ⟨rfl, _, rfl, _, rfl, _, rfl, A1, _, rfl, .inl ⟨_, Sum.inr z, .inr ⟨od, hA2⟩, rfl, (fe.at (List.mem_of_getElem? gk)).symm⟩, ?_⟩
        dsimp only [tNil]
        refine ⟨Nat.le_of_ble_eq_true rfl, fun c nc => ?_⟩
        refine kR _ _ (grow nc) fun o2 => ⟨c, z, n, rfl, ?_, gk⟩
        rw [upd_ne fun q => by rw [q, hacc] at nc; cases nc]
        exact upd_same
      intro us1 H3 e3 hd3 lu1 hu1
      refine ⟨e3 _ _ upd_same, ?_⟩
      have e4 := lock_back hA e3
      have dr1 := rows H0 A1 D od H3 us1 e3 lu1 hu1
      have hD1 : upd H3 A1 (.dK kvs) D = some (.lst us1) := by rw [upd_ne nDA]; exact hd3
      have hB := e4 _ _ hB
      generalize upd H3 A1 (.dK kvs) = G at e4 dr1 hD1 hB ⊢
      refine ⟨B1, .dK kvs, hB, trivial, fun od2 => ⟨_, rfl, B1, od2, rfl, .inl ⟨kvs, upd_same, fun D2 nD2 => ?_⟩⟩⟩
      have nDB : D2 ≠ B1 := fun z => by rw [z, upd_same] at nD2; cases nD2
      refine lc_some (walk_keys (kvs := kvs)) (fun i v H' => ∃ c z n, v = .ref c ∧ H' c = some (.lst [.str z, .int n]) ∧ kvs[i]? = some (Sum.inr z, V.int n)) (fun _ _ _ _ ⟨e, _⟩ => e ▸ Same.refl _) (by omega) nD2 (fun i v H1 H2 e ⟨c, z, n, a1, a2, a3⟩ => ⟨c, z, n, a1, e _ _ a2, a3⟩) (fun G e => e _ _ upd_same) ?_ ?_
      · rintro i x G1 G2 hi e2 ⟨acc, hacc⟩ ⟨rfl, kk, v, gk, rfl⟩ W kR
        obtain ⟨z, n, ekv, _, n0, n1⟩ := fe.ok _ (List.mem_of_getElem? gk)
        cases ekv
        have hB2 := e2 B1 _ upd_same
        refine ⟨rfl, _, rfl, _, rfl, _, rfl, B1, _, rfl, .inl ⟨_, Sum.inr z, .inr ⟨od2, hB2⟩, rfl, (fe.at (List.mem_of_getElem? gk)).symm⟩, ?_⟩
        dsimp only [tNil]
        refine ⟨Nat.le_of_ble_eq_true rfl, fun c nc => ?_⟩
        refine kR _ _ (grow nc) fun o2 => ⟨c, z, n, rfl, ?_, gk⟩
        rw [upd_ne fun q => by rw [q, hacc] at nc; cases nc]
        exact upd_same
      intro us2 H5 e5 hd5 lu2 hu2
      refine ⟨e5 _ _ upd_same, ?_⟩
      have e6 := lock_back hB e5
      have dr2 := rows G B1 D od2 H5 us2 e5 lu2 hu2
      have hD2 : upd H5 B1 (.dK kvs) D2 = some (.lst us2) := by rw [upd_ne nDB]; exact hd5
      have hD1 := e6 _ _ hD1
      have dr1 := dpAll_mono e6 _ dr1
      have lkd : Lk n (.list (kvs.map rowI)) := by
        obtain ⟨m, rfl⟩ : ∃ m, n = m + 3 := ⟨n - 3, by omega⟩
        refine ⟨by rw [List.length_map]; omega, fun d hd => ?_⟩
        obtain ⟨kv, mk, rfl⟩ := List.mem_map.mp hd
        obtain ⟨z, i, rfl, _⟩ := fe.ok kv mk
        refine ⟨(by show 2 ≤ _; decide), fun d hd => ?_⟩
        simp only [List.mem_cons, List.not_mem_nil, or_false] at hd
        rcases hd with rfl | rfl <;> trivial
      dsimp only [tNil]
      refine ⟨_, _, rfl, RL.of lkd (.lst (SqL.of hD1) dr1) (.lst (SqL.of hD2) dr2), ?_⟩
      exact fun G' e7 => q _ (e0.trans (e4.trans (e6.trans e7)))
    · refine ⟨_, rfl, by decide, fun t nt => .inr ⟨_, _, ["list", "tuple"], "list", true, rfl, upd_same, sql_ty (Same.seq (grow nt) sb), by decide +kernel, _, rfl, iteT ?_⟩⟩
      have e0 := grow (o := .tup (["list", "tuple"].map V.ty)) nt
      have sa := Same.seq e0 sa
      have sb := Same.seq e0 sb
      refine ⟨_, rfl, .inl ⟨_, _, _, true, rfl, sql_ty sa, by decide +kernel, ⟨_, rfl, .inl ⟨_, _, _, true, rfl, sql_ty sb, by decide +kernel, .inl ⟨rfl, _, rfl, iteF ?_⟩⟩⟩⟩⟩
      refine ⟨_, rfl, .inl ⟨_, _, _, false, rfl, sql_ty sa, by decide +kernel, ⟨_, rfl, .inl ⟨_, _, _, false, rfl, sql_ty sb, by decide +kernel, .inl ⟨rfl, _, rfl, iteF ?_⟩⟩⟩⟩⟩
      refine ⟨_, rfl, .inl ⟨_, _, rfl, .inl sa, ⟨_, rfl, .inl ⟨_, _, rfl, .inl sb, .inl ⟨rfl, _, rfl, ?_⟩⟩⟩⟩⟩
      rw [decide_eq_true (show V.int xs.length = V.int ys.length by rw [l12])]
      refine iteT ⟨_, rfl, _, rfl, _, _, xs, ys, rfl, .inl ⟨sa, sb, fun D hD => ?_⟩⟩
      refine lc_map (walk_zip (n := xs.length) (by omega)) (fun _ => .bl true) grow_pair (by omega) hD (fun H1 e => ⟨Same.seq e sa, Same.seq e sb⟩) ?_ ?_
      · rintro i x H1 H2 hi e ⟨T, x1, x2, rfl, nT, rfl, g1, g2⟩ R k
        have e2 := e.trans (grow (o := .tup [x1, x2]) nT)
        exact ⟨T, [x1, x2], rfl, SqT.of upd_same, rfl, x1, [x2], rfl, x2, [], rfl, rfl, rfl, _, rfl, _, rfl, _, _, rfl, (hr2 i x1 x2 g1 g2).mono (e0.trans e2), k⟩
      · intro H1 e hd
        refine ⟨D, (List.range xs.length).map fun _ => true, rfl, SqL.of (by rw [hd, List.map_map]; rfl), ?_⟩
        rw [all_true]
        exact q _ ((grow nt).trans e)
    have tb := dp_ty hb
    have ta := dp_ty ha
    cases d with
    | dict _ => exact lk.elim
    | none =>
      cases hb
      cases ha
      refine ⟨_, rfl, by decide, fun t nt => .inr ⟨_, _, ["list", "tuple"], "NoneType", false, rfl, upd_same, ty_mono .non (grow nt), by decide +kernel, _, rfl, iteF ?_⟩⟩
      refine ⟨_, rfl, .inl ⟨_, _, _, false, rfl, .base .non, by decide +kernel, _, rfl, iteF ?_⟩⟩
      refine ⟨_, rfl, rfl, _, rfl, iteT ⟨_, rfl, rfl, _, rfl, iteT ⟨_, rfl, rfl, q _ (grow nt)⟩⟩⟩
    | bool x =>
      cases hb
      cases ha
      refine ⟨_, rfl, by decide, fun t nt => .inr ⟨_, _, ["list", "tuple"], "bool", false, rfl, upd_same, .base (.bl x), by decide +kernel, _, rfl, iteF ?_⟩⟩
      refine ⟨_, rfl, .inl ⟨_, _, _, false, rfl, .base (.bl x), by decide +kernel, _, rfl, iteF ?_⟩⟩
      refine ⟨_, rfl, rfl, _, rfl, iteF ⟨_, rfl, rfl, _, rfl, iteF ?_⟩⟩
      refine ⟨_, rfl, by decide, fun t2 nt2 => .inr ⟨_, _, ["list", "tuple", "dict"], "bool", false, rfl, upd_same, .base (.bl x), by decide +kernel, _, rfl, iteF ?_⟩⟩
      refine ⟨_, rfl, .inl ⟨_, _, _, true, rfl, .base (.bl x), by decide +kernel, ⟨_, rfl, .inl ⟨_, _, _, true, rfl, .base (.bl x), by decide +kernel, .inl ⟨rfl, _, rfl, iteF ?_⟩⟩⟩⟩⟩
      refine ⟨_, rfl, .inl ⟨_, _, _, false, rfl, .base (.bl x), by decide +kernel, ⟨_, rfl, .inl ⟨_, _, _, false, rfl, .base (.bl x), by decide +kernel, .inl ⟨rfl, _, rfl, iteF ?_⟩⟩⟩⟩⟩
      refine ⟨_, rfl, .inl ⟨_, _, _, true, rfl, .base (.bl x), by decide +kernel, ⟨_, rfl, .inl ⟨_, _, _, true, rfl, .base (.bl x), by decide +kernel, .inl ⟨rfl, _, rfl, iteF ?_⟩⟩⟩⟩⟩
      refine ⟨_, rfl, _, rfl, .inl ⟨rfl, .inr ⟨_, rfl, ?_⟩⟩⟩
      rw [decide_eq_true (rfl : V.bl x = V.bl x)]
      exact q _ ((grow nt).trans (grow nt2))
    | int x =>
      cases hb
      cases ha
      refine ⟨_, rfl, by decide, fun t nt => .inr ⟨_, _, ["list", "tuple"], "int", false, rfl, upd_same, .base (.int x), by decide +kernel, _, rfl, iteF ?_⟩⟩
      refine ⟨_, rfl, .inl ⟨_, _, _, false, rfl, .base (.int x), by decide +kernel, _, rfl, iteF ?_⟩⟩
      refine ⟨_, rfl, rfl, _, rfl, iteF ⟨_, rfl, rfl, _, rfl, iteF ?_⟩⟩
      refine ⟨_, rfl, by decide, fun t2 nt2 => .inr ⟨_, _, ["list", "tuple", "dict"], "int", false, rfl, upd_same, .base (.int x), by decide +kernel, _, rfl, iteF ?_⟩⟩
      refine ⟨_, rfl, .inl ⟨_, _, _, false, rfl, .base (.int x), by decide +kernel, ⟨_, rfl, .inl ⟨_, _, _, false, rfl, .base (.int x), by decide +kernel, .inl ⟨rfl, _, rfl, iteF ?_⟩⟩⟩⟩⟩
      refine ⟨_, rfl, .inl ⟨_, _, _, false, rfl, .base (.int x), by decide +kernel, ⟨_, rfl, .inl ⟨_, _, _, false, rfl, .base (.int x), by decide +kernel, .inl ⟨rfl, _, rfl, iteF ?_⟩⟩⟩⟩⟩
      refine ⟨_, rfl, .inl ⟨_, _, _, true, rfl, .base (.int x), by decide +kernel, ⟨_, rfl, .inl ⟨_, _, _, true, rfl, .base (.int x), by decide +kernel, .inl ⟨rfl, _, rfl, iteF ?_⟩⟩⟩⟩⟩
      refine ⟨_, rfl, _, rfl, .inl ⟨rfl, .inr ⟨_, rfl, ?_⟩⟩⟩
      rw [decide_eq_true (rfl : V.int x = V.int x)]
      exact q _ ((grow nt).trans (grow nt2))
    | str x =>
      cases hb
      cases ha
      refine ⟨_, rfl, by decide, fun t nt => .inr ⟨_, _, ["list", "tuple"], "str", false, rfl, upd_same, .base (.str x), by decide +kernel, _, rfl, iteF ?_⟩⟩
      refine ⟨_, rfl, .inl ⟨_, _, _, false, rfl, .base (.str x), by decide +kernel, _, rfl, iteF ?_⟩⟩
      refine ⟨_, rfl, rfl, _, rfl, iteF ⟨_, rfl, rfl, _, rfl, iteF ?_⟩⟩
      refine ⟨_, rfl, by decide, fun t2 nt2 => .inr ⟨_, _, ["list", "tuple", "dict"], "str", false, rfl, upd_same, .base (.str x), by decide +kernel, _, rfl, iteF ?_⟩⟩
      refine ⟨_, rfl, .inl ⟨_, _, _, false, rfl, .base (.str x), by decide +kernel, ⟨_, rfl, .inl ⟨_, _, _, false, rfl, .base (.str x), by decide +kernel, .inl ⟨rfl, _, rfl, iteF ?_⟩⟩⟩⟩⟩
      refine ⟨_, rfl, .inl ⟨_, _, _, true, rfl, .base (.str x), by decide +kernel, ⟨_, rfl, .inl ⟨_, _, _, true, rfl, .base (.str x), by decide +kernel, .inl ⟨rfl, _, rfl, iteF ?_⟩⟩⟩⟩⟩
      refine ⟨_, rfl, .inl ⟨_, _, _, false, rfl, .base (.str x), by decide +kernel, ⟨_, rfl, .inl ⟨_, _, _, false, rfl, .base (.str x), by decide +kernel, .inl ⟨rfl, _, rfl, iteF ?_⟩⟩⟩⟩⟩
      refine ⟨_, rfl, _, rfl, .inl ⟨rfl, .inr ⟨_, rfl, ?_⟩⟩⟩
      rw [decide_eq_true (rfl : V.str x = V.str x)]
      exact q _ ((grow nt).trans (grow nt2))
    | list ds =>
      obtain ⟨hl, lks⟩ := lk
      cases hb with
      | lst sb db =>
      cases ha with
      | lst sa da =>
      rename_i bb ys aa xs
      have l1 := dpAll_len da
      have l2 := dpAll_len db
      refine ⟨_, rfl, by decide, fun t nt => .inr ⟨_, _, ["list", "tuple"], "list", true, rfl, upd_same, sql_ty (Same.seq (grow nt) sb), by decide +kernel, _, rfl, iteT ?_⟩⟩
      have sa := Same.seq (grow (o := .tup (["list", "tuple"].map V.ty)) nt) sa
      have sb := Same.seq (grow (o := .tup (["list", "tuple"].map V.ty)) nt) sb
      have da := dpAll_mono (grow (o := .tup (["list", "tuple"].map V.ty)) nt) ds da
      have db := dpAll_mono (grow (o := .tup (["list", "tuple"].map V.ty)) nt) ds db
      refine ⟨_, rfl, .inl ⟨_, _, _, true, rfl, sql_ty sa, by decide +kernel, ⟨_, rfl, .inl ⟨_, _, _, true, rfl, sql_ty sb, by decide +kernel, .inl ⟨rfl, _, rfl, iteF ?_⟩⟩⟩⟩⟩
      refine ⟨_, rfl, .inl ⟨_, _, _, false, rfl, sql_ty sa, by decide +kernel, ⟨_, rfl, .inl ⟨_, _, _, false, rfl, sql_ty sb, by decide +kernel, .inl ⟨rfl, _, rfl, iteF ?_⟩⟩⟩⟩⟩
      refine ⟨_, rfl, .inl ⟨_, _, rfl, .inl sa, ⟨_, rfl, .inl ⟨_, _, rfl, .inl sb, .inl ⟨rfl, _, rfl, ?_⟩⟩⟩⟩⟩
      rw [decide_eq_true (show V.int xs.length = V.int ys.length by rw [l1, l2])]
      refine iteT ⟨_, rfl, _, rfl, _, _, xs, ys, rfl, .inl ⟨sa, sb, fun D hD => ?_⟩⟩
      refine lc_map (walk_zip (n := ds.length) (by omega)) (fun _ => .bl true) grow_pair hl hD (fun H1 e => ⟨Same.seq e sa, Same.seq e sb⟩) ?_ ?_
      · rintro i x H1 H2 hi e ⟨T, x1, x2, rfl, nT, rfl, g1, g2⟩ R k
        obtain ⟨d1, h1, p1⟩ := dpAll_get da g1
        obtain ⟨d2, h2, p2⟩ := dpAll_get db g2
        have ed : d2 = d1 := Option.some.inj (h2.symm.trans h1)
        subst ed
        have e2 := e.trans (grow (o := .tup [x1, x2]) nT)
        exact ⟨T, [x1, x2], rfl, SqT.of upd_same, rfl, x1, [x2], rfl, x2, [], rfl, rfl, rfl, _, rfl, _, rfl, _, _, rfl, RL.of (lk_item lks h1) (dp_mono e2 _ p1) (dp_mono e2 _ p2), k⟩
      · intro H1 e hd
        refine ⟨D, (List.range ds.length).map fun _ => true, rfl, SqL.of (by rw [hd, List.map_map]; rfl), ?_⟩
        rw [all_true]
        exact q _ ((grow nt).trans e)
    | tuple ds =>
      obtain ⟨hl, lks⟩ := lk
      cases hb with
      | tup sb db =>
      cases ha with
      | tup sa da =>
      rename_i bb ys aa xs
      have l1 := dpAll_len da
      have l2 := dpAll_len db
      refine ⟨_, rfl, by decide, fun t nt => .inr ⟨_, _, ["list", "tuple"], "tuple", true, rfl, upd_same, sqt_ty (same_tup (grow nt) sb), by decide +kernel, _, rfl, iteT ?_⟩⟩
      have sa := same_tup (grow (o := .tup (["list", "tuple"].map V.ty)) nt) sa
      have sb := same_tup (grow (o := .tup (["list", "tuple"].map V.ty)) nt) sb
      have da := dpAll_mono (grow (o := .tup (["list", "tuple"].map V.ty)) nt) ds da
      have db := dpAll_mono (grow (o := .tup (["list", "tuple"].map V.ty)) nt) ds db
      refine ⟨_, rfl, .inl ⟨_, _, _, false, rfl, sqt_ty sa, by decide +kernel, ⟨_, rfl, .inl ⟨_, _, _, false, rfl, sqt_ty sb, by decide +kernel, .inl ⟨rfl, _, rfl, iteF ?_⟩⟩⟩⟩⟩
      refine ⟨_, rfl, .inl ⟨_, _, _, true, rfl, sqt_ty sa, by decide +kernel, ⟨_, rfl, .inl ⟨_, _, _, true, rfl, sqt_ty sb, by decide +kernel, .inl ⟨rfl, _, rfl, iteF ?_⟩⟩⟩⟩⟩
      refine ⟨_, rfl, .inl ⟨_, _, rfl, .inr sa, ⟨_, rfl, .inl ⟨_, _, rfl, .inr sb, .inl ⟨rfl, _, rfl, ?_⟩⟩⟩⟩⟩
      rw [decide_eq_true (show V.int xs.length = V.int ys.length by rw [l1, l2])]
      refine iteT ⟨_, rfl, _, rfl, _, _, xs, ys, rfl, .inr ⟨sa, sb, fun D hD => ?_⟩⟩
      refine lc_map (walk_zipT (n := ds.length) (by omega)) (fun _ => .bl true) grow_pair hl hD (fun H1 e => ⟨same_tup e sa, same_tup e sb⟩) ?_ ?_
      · rintro i x H1 H2 hi e ⟨T, x1, x2, rfl, nT, rfl, g1, g2⟩ R k
        obtain ⟨d1, h1, p1⟩ := dpAll_get da g1
        obtain ⟨d2, h2, p2⟩ := dpAll_get db g2
        have ed : d2 = d1 := Option.some.inj (h2.symm.trans h1)
        subst ed
        have e2 := e.trans (grow (o := .tup [x1, x2]) nT)
        exact ⟨T, [x1, x2], rfl, SqT.of upd_same, rfl, x1, [x2], rfl, x2, [], rfl, rfl, rfl, _, rfl, _, rfl, _, _, rfl, RL.of (lk_item lks h1) (dp_mono e2 _ p1) (dp_mono e2 _ p2), k⟩
      · intro H1 e hd
        refine ⟨D, (List.range ds.length).map fun _ => true, rfl, SqL.of (by rw [hd, List.map_map]; rfl), ?_⟩
        rw [all_true]
        exact q _ ((grow nt).trans e)
theorem c__law_like (T : Top K mg C_Open C_OpenTable A_OpenTable_reading) : Cal P w K mg base 9 "_law_like" (spLike K 8) [] := c__law_like_n T 8
def spPartsR (K : PySem.W.Frag) (n : Nat) : Sp := sp2 fun a b H Q => ∃ (R : Addr) (rd : Nat → Option Int) (t : Tr), Dp K H a t.dat ∧ t.ok ∧ t.lvs ≤ n ∧ n ≤ 5 ∧ b = .ref R ∧ (∃ vs, H R = some (.lst vs) ∧ vs.length = 3 ∧ ∀ j v, vs[j]? = some v → v = oI (rd j)) ∧ Q (oI (t.readI rd)) H
theorem c__law_parts_read_n (T : Top K mg C_Open C_OpenTable A_OpenTable_reading) : ∀ n, Cal P w K mg base (n + 3) "_law_parts_read" (spPartsR K n) []
  | 0 => by
    obtain ⟨f, fd, F, df⟩ := T.d__law_parts_read
    refine cal_of F df (fn2 F sc__law_parts_read fun cdv A outer s H a b Q E hr h => ?_) fun _ _ _ _ _ _ us hl => match us, hl with | [_, _], _ => rfl
    obtain ⟨R, rd, t, _, _, lt, _⟩ := h
    have := t.pos
    omega
  | n + 1 => by
    have ih := @c__law_parts_read_n T n
    obtain ⟨f, fd, F, df⟩ := T.d__law_parts_read
    refine cal_of F df (fn2 F sc__law_parts_read fun cdv A outer s H a b Q E hr h => ?_) fun _ _ _ _ _ _ us hl => match us, hl with | [_, _], _ => rfl
    have nd := sc__law_parts_read.nd
    obtain ⟨R, rd, t, ht, to, lt, ln, rfl, hv, k⟩ := h
    refine ⟨_, (pss_cons 
      (ps_if (pt_val (pe_callB (isi_K (K := K) rfl) (by rfl) T.isinstance (by decide +kernel) (pa_cons (pv 0) (pa_cons (pe_bltn (v := .ty "int") (by rfl) T.int (by decide +kernel) rfl) pa_nil)))) (pss_one 
      (ps_ret (pe_ix (ix_K (K := K) rfl) (pv 1) (pv 0) (fun _ _ => rfl)))) pss_nil) (pss_cons 
      (ps_par (i := 2) (j := 3) rfl nd rfl rfl (by decide) rfl rfl (pa_cons (pe_c ih hr (Nat.le_refl _) (by rfl) (pa_cons (pe_ix (ix_K (K := K) rfl) (pv 0) pe_int (fun _ _ => rfl)) (pa_cons (pv 1) pa_nil))) (pa_cons (pe_c ih hr (Nat.le_refl _) (by rfl) (pa_cons (pe_ix (ix_K (K := K) rfl) (pv 0) pe_int (fun _ _ => rfl)) (pa_cons (pv 1) pa_nil))) pa_nil)) (by rfl)) (pss_cons 
      (ps_if (PW.pt (pw_or (pt_cmpR op_isN (pv 2) pe_non (nomark _)) (pw_or1 (pt_cmpR op_isN (pv 3) pe_non (nomark _))))) (pss_cons 
      (ps_if (pt_cmpR (eq_K (K := K) rfl hr) (pe_ix (ix_K (K := K) rfl) (pv 0) pe_int (fun _ _ => rfl)) pe_str (nomark _)) (pss_one 
      (ps_ret pe_non)) pss_nil) (pss_one 
      (ps_ret (pe_ifExp (pt_cmpR op_isN (pv 2) pe_non (nomark _)) (pv 3) (pv 2))))) pss_nil) (pss_one 
      (ps_ret (pe_ifExp (pt_cmpR (eq_K (K := K) rfl hr) (pe_ix (ix_K (K := K) rfl) (pv 0) pe_int (fun _ _ => rfl)) pe_str (nomark _)) (pe_callB (call_min2 rfl) (by rfl) T.min (by decide +kernel) (pa_cons (pv 2) (pa_cons (pv 3) pa_nil))) (pe_op op_addU (pv 2) (pv 3)))))))), ?_⟩
    cases t with
    | leaf j =>
      cases tr_leaf ht
      refine ⟨_, rfl, .inl ⟨_, _, _, true, rfl, .base (.int _), by decide +kernel, _, rfl, iteT ?_⟩⟩
      obtain ⟨vs, hL, l3, all⟩ := id hv
      have jl : j < vs.length := by
        rw [l3]
        exact to
      have g : vs[j]? = some vs[j] := List.getElem?_eq_getElem jl
      have k : Q (oI (rd j)) H := k
      rw [← all j _ g] at k
      exact ⟨_, rfl, _, rfl, .inl ⟨R, _, _, _, rfl, rfl, SqL.of hL, atI_nat g, k⟩⟩
    | node b l r =>
      obtain ⟨A2, x, y, rfl, sA, d1, d2⟩ := tr_node ht
      have p1 := l.pos
      have p2 := r.pos
      have lt : l.lvs + r.lvs ≤ n + 1 := lt
      refine ⟨_, rfl, .inl ⟨_, _, _, false, rfl, sqt_ty sA, by decide +kernel, _, rfl, iteF ?_⟩⟩
      refine ⟨_, rfl, .inr (.inl ⟨A2, _, _, _, rfl, rfl, sA, at1, _, rfl, _, _, rfl, R, rd, l, d1, to.1, by omega, by omega, rfl, hv, ?_⟩)⟩
      refine ⟨_, rfl, .inr (.inl ⟨A2, _, _, _, rfl, rfl, sA, at2, _, rfl, _, _, rfl, R, rd, r, d2, to.2, by omega, by omega, rfl, hv, ?_⟩)⟩
      refine ⟨_, _, rfl, ?_⟩
      have k : Q (oI (if b = true then bestI (l.readI rd) (r.readI rd) else thenI (l.readI rd) (r.readI rd))) H := k
      generalize l.readI rd = X at k ⊢
      generalize r.readI rd = Y at k ⊢
      cases X with
      | none =>
        refine ⟨_, rfl, rfl, _, rfl, iteT ⟨_, rfl, .inr (.inl ⟨A2, _, _, _, rfl, rfl, sA, at0, .inl ⟨rfl, _, rfl, ?_⟩⟩)⟩⟩
        cases b with
        | true => exact iteF ⟨_, rfl, rfl, _, rfl, iteT ⟨_, rfl, k⟩⟩
        | false => exact iteT k
      | some i =>
        cases Y with
        | none =>
          refine ⟨_, rfl, rfl, _, rfl, iteF ⟨_, rfl, rfl, _, rfl, iteT ⟨_, rfl, .inr (.inl ⟨A2, _, _, _, rfl, rfl, sA, at0, .inl ⟨rfl, _, rfl, ?_⟩⟩)⟩⟩⟩
          cases b with
          | true => exact iteF ⟨_, rfl, rfl, _, rfl, iteF ⟨_, rfl, k⟩⟩
          | false => exact iteT k
        | some j =>
          refine ⟨_, rfl, rfl, _, rfl, iteF ⟨_, rfl, rfl, _, rfl, iteF ⟨_, rfl, .inr (.inl ⟨A2, _, _, _, rfl, rfl, sA, at0, .inl ⟨rfl, _, rfl, ?_⟩⟩)⟩⟩⟩
          cases b with
          | true => exact iteT ⟨_, rfl, _, rfl, i, j, rfl, k⟩
          | false => exact iteF ⟨_, rfl, _, rfl, .inl ⟨_, _, rfl, rfl, k⟩⟩
theorem c__law_parts_read (T : Top K mg C_Open C_OpenTable A_OpenTable_reading) : Cal P w K mg base 8 "_law_parts_read" (spPartsR K 5) [] := c__law_parts_read_n T 5
def spReadsSo (K : PySem.W.Frag) : Sp := sp5 fun a b c d e H Q => ∃ (p Ld L : Addr) (N : List Str) (lots : Nat → List OpR) (t : Tr), a = .ref p ∧ BagAt H p ∧ b = .ref Ld ∧ H Ld = some (.lst (N.map V.str)) ∧ N.length ≤ 900 ∧ c = .ref L ∧ ValsO K H L lots ∧ (∀ k < 3, LotK abcN (lots k)) ∧ Dp K H d t.dat ∧ t.ok ∧ t.lvs ≤ 5 ∧ OptO K H e (t.valO lots) ∧ ∀ H', Same H H' → Q (.bl true) H'
theorem dp_oI {K : PySem.W.Frag} {H : Hp} : ∀ m : Option Int, Dp K H (oI m) (oD PyData.int m)
  | none => .non
  | some i => .int i
theorem lk_oI {n : Nat} : ∀ m : Option Int, Lk (n + 1) (oD PyData.int m)
  | none => trivial
  | some _ => trivial
theorem lk_oIs {n : Nat} (l : List (Option Int)) (h : l.length ≤ 1000) : Lk (n + 2) (.list (l.map (oD PyData.int))) := ⟨by rw [List.length_map]; omega, fun d m => by
  obtain ⟨x, _, rfl⟩ := List.mem_map.mp m
  exact lk_oI x⟩
theorem dp_oIs {K : PySem.W.Frag} {H : Hp} : ∀ l : List (Option Int), DpAll K H (l.map oI) (l.map (oD PyData.int))
  | [] => .nil
  | m :: l => .cons (dp_oI m) (dp_oIs l)
theorem lk_strsN {n : Nat} {l : List Str} (h : l.length ≤ 1000) : Lk (n + 2) (.list (l.map .str)) := ⟨by rw [List.length_map]; omega, fun d m => by
  obtain ⟨x, _, rfl⟩ := List.mem_map.mp m
  trivial⟩
theorem eqv_nilS : ∀ l : List Str, PyData.eqv (.list (l.map PyData.str)) (.list []) = decide (l = [])
  | [] => by decide
  | i :: l => by
    rw [decide_eq_false (by simp)]
    rfl
theorem leastO_ex : ∀ l : List Int, ∃ m, LeastO l m
  | [] => ⟨none, rfl⟩
  | x :: l => by
    obtain ⟨m, h⟩ := leastO_ex l
    cases m with
    | none =>
      rw [show l = [] from h]
      exact ⟨some x, List.mem_singleton.mpr rfl, fun y my => by rw [List.mem_singleton.mp my]; exact Int.le_refl _⟩
    | some m =>
      by_cases c : x ≤ m
      · exact ⟨some x, List.mem_cons_self, fun y my => (List.mem_cons.mp my).elim (fun q => by rw [q]; exact Int.le_refl _) fun q => Int.le_trans c (h.2 y q)⟩
      · exact ⟨some m, List.mem_cons_of_mem _ h.1, fun y my => (List.mem_cons.mp my).elim (fun q => by rw [q]; omega) fun q => h.2 y q⟩
theorem c__law_reads_so (T : Top K mg C_Open C_OpenTable A_OpenTable_reading) : Cal P w K mg base 10 "_law_reads_so" (spReadsSo K) [] := by
  obtain ⟨f, fd, F, df⟩ := T.d__law_reads_so
  refine cal_of F df (fn5 F sc__law_reads_so fun cdv A outer s H a b c d e Q E hr h => ?_) fun _ _ _ _ _ _ us hl => match us, hl with | [_, _, _, _, _], _ => rfl
  have nd := sc__law_reads_so.nd
  have sq0 : ∀ H, SqT K H A_OpenTable_reading (([] : List Str).map V.str) := T.e_OpenTable_reading
  obtain ⟨p, Ld, L, N, lots, t, rfl, hb, rfl, hN, lN, rfl, hL, lo, ht, to, tl, hS, k⟩ := h
  refine ⟨_, (pss_cons 
      (ps_asg (pe_tup (pa_cons pe_dnewK (pa_cons (pe_lst pa_nil) pa_nil))) (tup_K (K := K) (n := 2) rfl rfl (pgs_cons (pg_name (i := 13) nd rfl (Or.inr rfl)) (pgs_cons (pg_name (i := 14) nd rfl (Or.inr rfl)) pgs_nil)))) (pss_cons 
      (ps_for PassesOwn.never rfl (pi_K (K := K) rfl (pe_c (c__law_turned T) hr (by decide) (by rfl) (pa_cons (pv 0) (pa_cons (pv 1) pa_nil)))) (pg_name (i := 5) nd rfl (Or.inl rfl)) (pss_cons 
      (ps_set (i := 15) nd rfl (Or.inl rfl) (pe_c (c__law_draw T) hr (by decide) (by rfl) (pa_cons (pv 0) (pa_cons pe_int pa_nil)))) (pss_one 
      (ps_if (pt_cmpR (lt_K (K := K) rfl hr) (pv 15) pe_int (nomark _)) (pss_one 
      (ps_dput (hu_of hr) (pv 13) (pv 5) (pe_c (c__law_of T) hr (by decide) (by rfl) (pa_cons (pv 0) (pa_cons (pe_lst (pa_cons pe_int (pa_cons pe_int (pa_cons pe_int (pa_cons pe_int (pa_cons pe_int (pa_cons pe_int pa_nil))))))) pa_nil))) rfl)) (pss_one 
      (ps_if (pt_cmpR (eq_K (K := K) rfl hr) (pv 15) pe_int (nomark _)) (pss_one 
      (ps_expr (pe_bm PySem.F.plainAttrs_list PySem.F.slot_list_append PySem.F.type_list_append mt_append (pv 14) (pa_cons (pv 5) pa_nil)))) pss_nil)))))) (pss_cut 
      (ps_if (PW.pt (pw_and (pt_cmpR (ne_K (K := K) rfl hr) (pv 14) (pe_lst pa_nil) (nomark _)) (pw_and1 (pt_cmpR (eq_K (K := K) rfl hr) (pe_c (c__law_draw T) hr (by decide) (by rfl) (pa_cons (pv 0) (pa_cons pe_int pa_nil))) pe_int (nomark _))))) (pss_one 
      (ps_set (i := 14) nd rfl (Or.inr rfl) (pe_op op_addU (pv 14) (pe_slice (sl_K (K := K) rfl) (pv 14) po_none (po_some pe_int))))) pss_nil) (pss_cons 
      (ps_set (i := 6) nd rfl (Or.inl rfl) (pe_c (c__law_priced T) hr (by decide) (by rfl) (pa_cons (pe_c (c__law_raw T) hr (by decide) (by rfl) (pa_cons (pe_tup (pa_cons pe_str (pa_cons pe_str pa_nil))) (pa_cons (pv 3) (pa_cons (pv 2) pa_nil)))) (pa_cons (pv 13) (pa_cons (pv 14) pa_nil))))) (pss_cut 
      (ps_setLc (i := 7) (own := [("x", 5)]) rfl nd rfl rfl (sw_true rfl rfl rfl (by decide +kernel)) (pi_K (K := K) rfl (pv 2)) (blkOk_by (N := ["bag", "doubts_y", "values", "tree", "told", "x", "due", "tables_y", "reads", "whole", "again", "seen", "rows_all", "fees_y", "barred", "pick", "held", "kept"]) (sc := fnScope s__law_reads_so) (by decide +kernel)) (fun _ _ _ _ _ => (pg_name (i := 5) nd rfl (Or.inl rfl))) (fun _ _ _ _ _ => pts_nil) (fun _ _ _ _ _ => (pe_mk (c_OpenTable___init__ T) hr (by decide) (by rfl) (pa_cons (pe_c (c__law_turned T) hr (by decide) (by rfl) (pa_cons (pv 0) (pa_cons (pv 1) pa_nil))) (pa_cons (pv 5) pa_nil))))) (pss_cons 
      (ps_setLc (i := 8) (own := [("x", 5)]) rfl nd rfl rfl (sw_true rfl rfl rfl (by decide +kernel)) (pi_K (K := K) rfl (pv 7)) (blkOk_by (N := ["bag", "doubts_y", "values", "tree", "told", "x", "due", "tables_y", "reads", "whole", "again", "seen", "rows_all", "fees_y", "barred", "pick", "held", "kept"]) (sc := fnScope s__law_reads_so) (by decide +kernel)) (fun _ _ _ _ _ => (pg_name (i := 5) nd rfl (Or.inl rfl))) (fun _ _ _ _ _ => pts_nil) (fun _ _ _ _ _ => (pe_mtk0 (k_OpenTable_reading_fees_shut T) hr (by decide) (pv 5) (pk_cons (pv 13) (pk_cons (pv 14) pk_nil))))) (pss_cons 
      (ps_if (pt_not (pt_val (pe_c (c__law_like T) hr (by decide) (by rfl) (pa_cons (pv 8) (pa_cons (pe_lc (own := [("x", 5)]) rfl nd (pi_K (K := K) rfl (pv 2)) (blkOk_by (N := ["bag", "doubts_y", "values", "tree", "told", "x", "due", "tables_y", "reads", "whole", "again", "seen", "rows_all", "fees_y", "barred", "pick", "held", "kept"]) (sc := fnScope s__law_reads_so) (by decide +kernel)) (fun _ _ _ _ _ => (pg_name (i := 5) nd rfl (Or.inl rfl))) (fun _ _ _ _ _ => pts_nil) (fun _ _ _ _ _ => (pe_ifExp (pt_cmpR op_isN (pv 5) pe_non (nomark _)) pe_non (pe_c (c__law_priced T) hr (by decide) (by rfl) (pa_cons (pv 5) (pa_cons (pv 13) (pa_cons (pv 14) pa_nil))))))) pa_nil))))) (pss_one 
      (ps_ret pe_bl)) pss_nil) (pss_cut 
      (ps_set (i := 9) nd rfl (Or.inl rfl) (pe_mk (c_OpenTable___init__ T) hr (by decide) (by rfl) (pa_cons (pe_c (c__law_turned T) hr (by decide) (by rfl) (pa_cons (pv 0) (pa_cons (pv 1) pa_nil))) (pa_cons (pv 4) pa_nil)))) (pss_cons 
      (ps_set (i := 10) nd rfl (Or.inl rfl) pe_dnewK) (pss_cons 
      (ps_for PassesOwn.never rfl (pi_K (K := K) rfl (pe_c (c__law_turned T) hr (by decide) (by rfl) (pa_cons (pv 0) (pa_cons (pe_callB (cr_sortDic (K := K) rfl hr rfl) (by rfl) T.sorted (by decide +kernel) (pa_cons (pv 13) pa_nil)) pa_nil)))) (pg_name (i := 5) nd rfl (Or.inl rfl)) (pss_one 
      (ps_dput (hu_of hr) (pv 10) (pv 5) (pe_dget (hu_of hr) (pv 13) (pv 5) (fun _ _ => rfl)) rfl))) (pss_cons 
      (ps_par (i := 16) (j := 17) rfl nd rfl rfl (by decide) rfl rfl (pa_cons (pe_callTy (listOf_K (K := K) rfl) (by rfl) T.list (by decide +kernel) (pa_cons (pv 14) pa_nil)) (pa_cons (pe_callTy call_dictD (by rfl) T.dict (by decide +kernel) (pa_cons (pv 10) pa_nil)) pa_nil)) (by rfl)) (pss_cut 
      (ps_set (i := 11) nd rfl (Or.inl rfl) (pe_lst (pa_cons (pe_mtk0 (k_OpenTable_reading_fees_shut T) hr (by decide) (pv 9) (pk_cons (pv 10) (pk_cons (pv 14) pk_nil))) (pa_cons (pe_mtk0 (k_OpenTable_reading_shut_fees T) hr (by decide) (pv 9) (pk_cons (pe_callTy (tupleOf_K (K := K) rfl) (by rfl) T.tuple (by decide +kernel) (pa_cons (pv 14) pa_nil)) (pk_cons (pv 13) pk_nil))) pa_nil)))) (pss_cons 
      (ps_if (PW.pt (pw_or (pt_not (pt_val (pe_c (c__law_like T) hr (by decide) (by rfl) (pa_cons (pv 11) (pa_cons (pe_lst (pa_cons (pv 6) (pa_cons (pv 6) pa_nil))) pa_nil))))) (pw_or1 (pt_not (pt_val (pe_c (c__law_like T) hr (by decide) (by rfl) (pa_cons (pe_c (c__law_parts_read T) hr (by decide) (by rfl) (pa_cons (pv 3) (pa_cons (pv 8) pa_nil))) (pa_cons (pv 6) pa_nil)))))))) (pss_one 
      (ps_ret pe_bl)) pss_nil) (pss_cut 
      (ps_set (i := 12) nd rfl (Or.inl rfl) (pe_c (c__law_raw T) hr (by decide) (by rfl) (pa_cons (pe_tup (pa_cons pe_str (pa_cons pe_str pa_nil))) (pa_cons (pv 3) (pa_cons (pv 2) pa_nil))))) (pss_cut 
      (ps_set (i := 11) nd rfl (Or.inl rfl) (pe_lst (pa_cons (pe_mtk0 (k_OpenTable_reading_ T) hr (by decide) (pv 9) pk_nil) (pa_cons (pe_mtk0 (k_OpenTable_reading_fees T) hr (by decide) (pv 9) (pk_cons (pv 13) pk_nil)) (pa_cons (pe_mtk0 (k_OpenTable_reading_shut T) hr (by decide) (pv 9) (pk_cons (pv 14) pk_nil)) (pa_cons (pe_mtk0 (k_OpenTable_reading_fees_shut T) hr (by decide) (pv 9) (pk_cons pe_non (pk_cons (pe_lst pa_nil) pk_nil))) pa_nil)))))) (pss_cut 
      (ps_set (i := 6) nd rfl (Or.inl rfl) (pe_lst (pa_cons (pe_c (c__law_priced T) hr (by decide) (by rfl) (pa_cons (pv 12) (pa_cons pe_dnewK (pa_cons (pe_lst pa_nil) pa_nil)))) (pa_cons (pe_c (c__law_priced T) hr (by decide) (by rfl) (pa_cons (pv 12) (pa_cons (pv 13) (pa_cons (pe_lst pa_nil) pa_nil)))) (pa_cons (pe_c (c__law_priced T) hr (by decide) (by rfl) (pa_cons (pv 12) (pa_cons pe_dnewK (pa_cons (pv 14) pa_nil)))) pa_nil))))) (pss_one 
      (ps_ret (pe_and (pe_c (c__law_like T) hr (by decide) (by rfl) (pa_cons (pv 11) (pa_cons (pe_op op_addU (pv 6) (pe_lst (pa_cons (pe_ix (ix_K (K := K) rfl) (pv 6) pe_int (fun _ _ => rfl)) pa_nil))) pa_nil))) (pe_one (pe_c (c__law_like T) hr (by decide) (by rfl) (pa_cons (pe_lst (pa_cons (pv 14) (pa_cons (pv 10) pa_nil))) (pa_cons (pe_lst (pa_cons (pv 16) (pa_cons (pv 17) pa_nil))) pa_nil))))))))))))))))))))))), ?_⟩
  refine fun F nF => ⟨Nat.le_of_ble_eq_true rfl, fun B nB => ⟨Nat.le_of_ble_eq_true rfl, fun tp ntp => ?_⟩⟩
  have e0 := (grow (o := .dK []) nF).trans ((grow (o := .lst []) nB).trans (grow (o := .tup [.ref F, .ref B]) ntp))
  have hF0 : (upd (upd (upd H F (.dK [])) B (.lst [])) tp (.tup [.ref F, .ref B])) F = some (.dK []) := (grow ntp) _ _ ((grow nB) _ _ upd_same)
  have hB0 : (upd (upd (upd H F (.dK [])) B (.lst [])) tp (.tup [.ref F, .ref B])) B = some (.lst []) := (grow ntp) _ _ upd_same
  have nFB : F ≠ B := ne_of_none upd_same nB
  have nB0 : H B = none := by
    rw [upd_ne nFB.symm] at nB
    exact nB
  refine ⟨tp, [_, _], rfl, SqT.of upd_same, rfl, _, [_], rfl, _, [], rfl, rfl, ?_⟩
  generalize upd (upd (upd H F (.dK [])) B (.lst [])) tp (.tup [.ref F, .ref B]) = H0 at e0 hF0 hB0 ⊢
  refine ⟨_, rfl, _, rfl, _, _, rfl, p, Ld, N.map V.str, rfl, hb.mono e0, rfl, SqL.of (e0 _ _ hN), by rw [List.length_map]; omega, fun H1 D cs e1 hD pm => ?_⟩
  have nF1 : H F = none := nF
  have hF1 := e1 _ _ hF0
  have hB1 := e1 _ _ hB0
  have e01 := e0.trans e1
  have lcs : cs.length = N.length := by rw [pm.length_eq, List.length_map]
  refine .inl ⟨D, rfl, ⟨_, SqL.of hD⟩, ?_⟩
  have nDF : D ≠ F := fun z => by
    rw [z, hF1] at hD
    cases hD
  have nDB0 : 0 < cs.length → D ≠ B := fun l q => by
    rw [q, hB1] at hD
    cases hD
    exact absurd l (Nat.lt_irrefl _)
  refine for_it (walk_list (xs := cs)) (fun i σ H' => Same H H' ∧ (∃ (kvs : List (Key × V)) (bs : List Str), H' F = some (.dK kvs) ∧ FeK N kvs ∧ kvs.length ≤ i ∧ H' B = some (.lst (bs.map V.str)) ∧ bs.length ≤ i ∧ ∀ z ∈ bs, z ∈ N) ∧ H' D = some (.lst cs) ∧ ∃ y5 y15, σ = [some (.ref p), some (.ref Ld), some (.ref L), some d, some e, y5, none, none, none, none, none, none, none, some (.ref F), some (.ref B), y15, none, none])
    ⟨e01, ⟨[], [], hF1, FeK.nil N, Nat.le_refl _, hB1, Nat.le_refl _, fun _ m => nomatch m⟩, hD, _, _, rfl⟩ (fun i σ H' _ ⟨_, _, h, _⟩ => SqL.of h) ?_ ?_
  · rintro i x σ G1 G2 hi ⟨eg, ⟨kvs, bs, hF, fe, lk, hB, lb, mb⟩, hD, y5, y15, rfl⟩ ⟨rfl, g⟩
    obtain ⟨z, mz, rfl⟩ : ∃ z ∈ N, x = .str z := by
      obtain ⟨z, mz, ez⟩ := List.mem_map.mp (pm.mem_iff.mp (List.mem_of_getElem? g))
      exact ⟨z, mz, ez.symm⟩
    refine ⟨_, rfl, _, _, rfl, p, 6, rfl, rfl, hb.mono eg, by decide, small_log (by decide) (by decide), fun pk p0 p6 => ?_⟩
    refine ⟨_, rfl, .inl ⟨_, _, rfl, rfl, _, rfl, ite2 (fun h3 => ?_) fun h3 => ?_⟩⟩
    · refine ⟨_, rfl, Nat.le_of_ble_eq_true rfl, fun c nc => ?_⟩
      have e2 := grow (o := .lst [.int 0, .int 1, .int 1, .int 2, .int 3, .int 1000000]) nc
      refine ⟨_, _, rfl, p, rfl, (hb.mono eg).mono e2, .inl ⟨c, _, rfl, .inl (SqL.of upd_same), Nat.le_of_ble_eq_true rfl, Nat.le_of_ble_eq_true rfl, fun v hv => ?_⟩⟩
      obtain ⟨n, rfl, n0, n1⟩ : ∃ n : Int, v = .int n ∧ 0 ≤ n ∧ n ≤ 1000000 := by
        simp only [List.mem_cons, List.not_mem_nil, or_false] at hv
        rcases hv with rfl | rfl | rfl | rfl | rfl | rfl <;> exact ⟨_, rfl, by decide, by decide⟩
      have nFc : F ≠ c := fun q => by rw [q] at hF; rw [nc] at hF; cases hF
      refine ⟨_, rfl, _, rfl, F, _, rfl, DPut.k (k := Sum.inr z) (e2 _ _ hF) (size5' (by omega)), ?_⟩
      refine ⟨same_mut (eg.trans e2) nF1, ⟨putK kvs (Sum.inr z) (.int n), bs, upd_same, fe.put2 mz n0 n1, ?_, ?_, by omega, mb⟩, ?_, _, _, rfl⟩
      · have := length_putK kvs (Sum.inr z) (.int n)
        omega
      · rw [upd_ne nFB.symm]
        exact e2 _ _ hB
      · rw [upd_ne nDF]
        exact e2 _ _ hD
    · refine ⟨_, rfl, .inl ⟨rfl, _, rfl, ite2 (fun h3 => ?_) fun h3 => ?_⟩⟩
      · refine ⟨_, rfl, .inl ⟨rfl, _, SqL.of hB⟩, _, rfl, B, _, _, rfl, rfl, hB, size5 (by rw [List.length_map]; omega), ?_⟩
        have nDB : D ≠ B := nDB0 (by omega)
        refine ⟨same_mut eg nB0, ⟨kvs, bs ++ [z], ?_, fe, by omega, by rw [upd_same, List.map_append]; rfl, by rw [List.length_append]; exact Nat.succ_le_succ lb, fun y my => ?_⟩, ?_, _, _, rfl⟩
        · rw [upd_ne nFB]
          exact hF
        · rcases List.mem_append.mp my with my | my
          · exact mb y my
          · rw [List.mem_singleton.mp my]
            exact mz
        · rw [upd_ne nDB]
          exact hD
      · exact ⟨eg, ⟨kvs, bs, hF, fe, by omega, hB, by omega, mb⟩, hD, _, _, rfl⟩
  rintro σ G1 ⟨eg, ⟨kvs, bs, hF, fe, lk, hB, lb, mb⟩, hD, y5, y15, rfl⟩
  clear e0 hF0 hB0 e1 hD pm hF1 hB1 e01 nDB0
  refine ⟨fun σ H' => ∃ (B : Addr) (bs : List Str) (y5 y15 : Option V), σ = [some (.ref p), some (.ref Ld), some (.ref L), some d, some e, y5, none, none, none, none, none, none, none, some (.ref F), some (.ref B), y15, none, none] ∧ Same H H' ∧ H' F = some (.dK kvs) ∧ H' B = some (.lst (bs.map V.str)) ∧ bs.length ≤ 1000 ∧ ∀ z ∈ bs, z ∈ N, ?_, ?_⟩
  · refine ⟨_, rfl, Nat.le_of_ble_eq_true rfl, fun E nE => .inr ⟨.list (bs.map .str), .list [], .lst (SqL.of ((grow nE) _ _ hB)) (dp_strs bs), .lst (SqL.of upd_same) .nil, Nat.le_trans (Nat.min_le_right _ _) (by decide), ?_⟩⟩
    rw [eqv_nilS]
    have e2 := eg.trans (grow (o := .lst []) nE)
    have hF2 := (grow (o := .lst []) nE) _ _ hF
    have hB2 := (grow (o := .lst []) nE) _ _ hB
    generalize upd G1 E _ = G2 at e2 hF2 hB2 ⊢
    by_cases be : bs = []
    · rw [decide_eq_true be]
      exact ⟨_, rfl, iteF ⟨B, bs, _, _, rfl, e2, hF2, hB2, by omega, mb⟩⟩
    · rw [decide_eq_false be]
      refine ⟨_, rfl, iteT ?_⟩
      refine ⟨_, rfl, _, _, rfl, p, 3, rfl, rfl, hb.mono e2, by decide, small_log (by decide) (by decide), fun pk p0 p3 => .inl ⟨rfl, _, rfl, ite2 (fun h0 => ?_) fun h0 => ?_⟩⟩
      · refine ⟨_, rfl, _, rfl, 1, rfl, .inl ⟨B, _, rfl, SqL.of hB2, fun c nc => ?_⟩⟩
        have e3 := grow (o := .lst (cutV (bs.map V.str) none (some 1))) nc
        have hc : (upd G2 c (.lst (cutV (bs.map V.str) none (some 1)))) c = some (.lst ((bs.take 1).map V.str)) := by
          rw [upd_same]
          cases bs with
          | nil => rfl
          | cons z r => rfl
        refine .inr (.inr ⟨B, c, _, _, rfl, rfl, e3 _ _ hB2, hc, size5' (by rw [List.length_map, List.length_map, List.length_take]; omega), fun c2 nc2 => ?_⟩)
        have e4 := e3.trans (grow (o := .lst (bs.map V.str ++ (bs.take 1).map V.str)) nc2)
        refine ⟨c2, bs ++ bs.take 1, _, _, rfl, e2.trans e4, e4 _ _ hF2, by rw [upd_same, List.map_append], ?_, fun y my => ?_⟩
        · rw [List.length_append, List.length_take]
          omega
        · rcases List.mem_append.mp my with my | my
          · exact mb y my
          · exact mb y (List.mem_of_mem_take my)
      · exact ⟨B, bs, _, _, rfl, e2, hF2, hB2, by omega, mb⟩
  rintro σ G2 ⟨B, bs, y5, y15, rfl, eg, hF, hB, lb, mb⟩
  have lk9 : kvs.length ≤ 1000 := by omega
  -- the raw rows read
  refine ⟨Nat.le_of_ble_eq_true rfl, fun tp ntp => ?_⟩
  have e1 := eg.trans (grow (o := .tup [.str "open", .str "a"]) ntp)
  have hF := (grow (o := .tup [.str "open", .str "a"]) ntp) _ _ hF
  have hB := (grow (o := .tup [.str "open", .str "a"]) ntp) _ _ hB
  have htp : (upd G2 tp (.tup [.str "open", .str "a"])) tp = some (.tup [.str "open", .str "a"]) := upd_same
  generalize upd G2 tp _ = G3 at e1 hF hB htp ⊢
  refine ⟨_, rfl, _, rfl, _, _, _, rfl, tp, L, lots, t, rfl, SqT.of htp, dp_mono e1 _ ht, to, tl, Nat.le_refl _, rfl, hL.mono e1, lo, fun G4 R ys e2 hR hys => ?_⟩
  have lR : (t.rawO lots).length ≤ 1000 := Nat.le_trans (rawO_len (fun k z => (lo k z).len) t to) (Nat.le_trans (Nat.pow_le_pow_right (by decide) tl) (by decide))
  have bR : ∀ r ∈ t.rawO lots, r.2.length ≤ 1000 := fun r m => by
    have := (rawO_bd (fun k z => (lo k z).bd) t to r m).2.2.1
    omega
  have lS : (t.valO lots).length ≤ 1000 := Nat.le_trans (valO_len lo t to (by omega)) (Nat.le_trans (Nat.pow_le_pow_right (by decide) tl) (by decide))
  have bS : ∀ r ∈ t.valO lots, r.2.length ≤ 1000 := fun r m => by
    have := (valO_row lo t to r m).2.2.1
    omega
  have oo : OO (t.rawO lots) (t.valO lots) := Tr.oo (fun k z => (lo k z).oo) t to
  have f0 : ∀ z, 0 ≤ feeF kvs z := fun z => (fe.val z).2.1
  have e12 := e1.trans e2
  have hF := e2 _ _ hF
  have hB := e2 _ _ hB
  refine ⟨_, rfl, _, rfl, _, _, _, rfl, R, F, B, ys, t.rawO lots, N, kvs, bs, rfl, .inl hR, hys, rfl, hF, fe, rfl, SqL.of hB, lR, bR, fun G5 due e3 hdue => ?_⟩
  have e13 := e12.trans e3
  have hF := e3 _ _ hF
  have hB := e3 _ _ hB
  clear hys hR htp e2 e12 e1 eg
  refine ⟨fun σ H' => ∃ (T : Addr) (ts : List V), σ = [some (.ref p), some (.ref Ld), some (.ref L), some d, some e, y5, some (oI due), some (.ref T), none, none, none, none, none, some (.ref F), some (.ref B), y15, none, none] ∧ Same H H' ∧ H' F = some (.dK kvs) ∧ H' B = some (.lst (bs.map V.str)) ∧ H' T = some (.lst ts) ∧ ts.length = 3 ∧ ∀ j v, ts[j]? = some v → ∃ q, v = .ref q ∧ TabO K C_OpenTable H' q N (lots j), ?_, ?_⟩
  · obtain ⟨vs, hvs, l3, all⟩ := hL.mono e13
    refine ⟨_, rfl, .inl ⟨L, rfl, ⟨_, SqL.of hvs⟩, fun T nT => ?_⟩⟩
    refine lc_some (walk_list (xs := vs)) (fun j v H' => ∃ q, v = .ref q ∧ TabO K C_OpenTable H' q N (lots j)) grow_at (by omega) nT (fun j v H1 H2 e ⟨q, a, b⟩ => ⟨q, a, b.mono e⟩) (fun H1 e => SqL.of (e _ _ hvs)) ?_ ?_
    · rintro j x G6 G7 hj e4 ⟨acc, hacc⟩ ⟨rfl, g⟩ W kR
      have eG := e13.trans e4
      refine ⟨rfl, _, rfl, _, rfl, _, _, rfl, p, Ld, N.map V.str, rfl, hb.mono eG, rfl, SqL.of (eG _ _ hN), by rw [List.length_map]; omega, fun G8 D8 cs8 e8 hD8 pm8 => ?_⟩
      obtain ⟨M, pM, rfl⟩ := perm_lift pm8 N rfl
      refine ⟨_, rfl, ?_⟩
      intro y dy ny ndy ne
      have e9 : Same G8 (upd (upd G8 dy (.own y)) y (.ins C_OpenTable dy [])) := (grow ndy).trans (grow (by rw [upd_ne ne.symm]; exact ny))
      have hacc8 := e8 _ _ hacc
      refine ⟨_, _, _, rfl, y, dy, D8, M, lots j, rfl, upd_same, rfl, SqL.of (e9 _ _ hD8), by rw [pM.length_eq]; omega, ((all j x g).mono ((e4.trans e8).trans e9)), (lo j (by omega)).len |> fun h => by omega, fun H' kp hT hT2 => ⟨rfl, ?_⟩⟩
      refine kR _ _ (fun b o h => kp _ _ (e9 _ _ (e8 _ _ h)) fun q => by rw [← q, e8 _ _ h] at ny; cases ny) fun o2 => ⟨y, rfl, (hT2 T acc o2 (e9 _ _ hacc8)).sub fun z mz => pM.mem_iff.mpr mz⟩
    · intro ts G6 e4 hT lt hts
      exact ⟨T, ts, rfl, e13.trans e4, e4 _ _ hF, e4 _ _ hB, hT, by rw [lt, l3], hts⟩
  rintro σ G6 ⟨T, ts, rfl, eg, hF, hB, hT, lt, hts⟩
  refine ⟨_, rfl, .inl ⟨T, rfl, ⟨_, SqL.of hT⟩, fun Rd nRd => ?_⟩⟩
  refine lc_some (walk_list (xs := ts)) (fun j v _ => ∃ m, v = oI m ∧ LeastO (pricesR (feeF kvs) bs (lots j)) m) grow_at (by omega) nRd (fun _ _ _ _ _ h => h) (fun H1 e => SqL.of (e _ _ hT)) ?_ ?_
  · rintro j x G7 G8 hj e4 ⟨acc, hacc⟩ ⟨rfl, g⟩ W kR
    obtain ⟨q, rfl, hq⟩ := hts j x g
    have hq := hq.mono e4
    obtain ⟨dx, D0, R0, ds, ys0, hq0, _⟩ := id hq
    have lj := lo j (by omega)
    exact ⟨rfl, _, rfl, q, dx, _, rfl, hq0, lkp0 (by decide +kernel) (by decide +kernel), _, rfl, _, rfl, rfl, rfl, _, _, _, rfl, q, B, N, lots j, kvs, bs, rfl, hq, fe, lk9, .inr ⟨F, rfl, e4 _ _ hF⟩, rfl, .inl (SqL.of (e4 _ _ hB)), mb, Nat.le_trans lj.len (by decide), fun r m => Nat.le_trans (lj.row r m).2.2.1 (by decide), fun H' m e5 hm => kR _ _ e5 fun _ => ⟨m, rfl, hm⟩⟩
  intro rs G7 e4 hRd lrs hrs
  have eg := eg.trans e4
  have hF := e4 _ _ hF
  have hB := e4 _ _ hB
  obtain ⟨rd, hrd⟩ : ∃ rd : Nat → Option Int, ∀ j v, rs[j]? = some v → v = oI (rd j) ∧ LeastO (pricesR (feeF kvs) bs (lots j)) (rd j) := by
    have ch : ∀ j, ∃ m, ∀ v, rs[j]? = some v → v = oI m ∧ LeastO (pricesR (feeF kvs) bs (lots j)) m := fun j => by
      cases g : rs[j]? with
      | none => exact ⟨none, fun v h => nomatch h⟩
      | some v =>
        obtain ⟨m, a, b⟩ := hrs j v g
        exact ⟨m, fun u h => by cases h; exact ⟨a, b⟩⟩
    exact ⟨fun j => (ch j).choose, fun j v g => (ch j).choose_spec v g⟩
  have l3 : rs.length = 3 := by omega
  obtain ⟨vs, hvs, lv3, all⟩ := hL.mono eg
  refine ⟨_, rfl, _, rfl, .inl ⟨L, rfl, ⟨_, SqL.of hvs⟩, fun Z nZ => ?_⟩⟩
  refine lc_some (walk_list (xs := vs)) (fun j v _ => v = oI (rd j)) grow_at (by omega) nZ (fun _ _ _ _ _ h => h) (fun H1 e => SqL.of (e _ _ hvs)) ?_ ?_
  · rintro j x G8 G9 hj e5 ⟨acc, hacc⟩ ⟨rfl, g⟩ W kR
    have hx := (all j x g).mono e5
    have lj := lo j (by omega)
    have gr : rs[j]? = some rs[j] := List.getElem?_eq_getElem (by omega)
    obtain ⟨_, hl⟩ := hrd j _ gr
    rcases hx with ⟨z0, rfl⟩ | ⟨ne, A, ys, rfl, hA, hy⟩
    · refine ⟨rfl, _, rfl, rfl, _, rfl, iteT ?_⟩
      rw [z0] at hl
      have h0 : rd j = none := LeastO.uniq hl (show LeastO (pricesR (feeF kvs) bs []) none from rfl)
      exact kR _ _ (Same.refl _) fun _ => by rw [h0]; rfl
    · refine ⟨rfl, _, rfl, rfl, _, rfl, iteF ?_⟩
      have eG := eg.trans e5
      exact ⟨_, rfl, _, rfl, _, rfl, _, _, _, rfl, A, F, B, ys, lots j, N, kvs, bs, rfl, .inr hA, hy, rfl, e5 _ _ hF, fe, rfl, SqL.of (e5 _ _ hB), Nat.le_trans lj.len (by decide), fun r m => Nat.le_trans (lj.row r m).2.2.1 (by decide), fun H' m e6 hm => kR _ _ e6 fun _ => by rw [LeastO.uniq hm hl]⟩
  intro ws G8 e5 hZ lws hws
  have ew : ws = rs := by
    refine List.ext_getElem (by omega) fun j h1 h2 => ?_
    rw [hws j _ (List.getElem?_eq_getElem h1), (hrd j _ (List.getElem?_eq_getElem h2)).1]
  rw [ew] at hZ
  have er : rs = ((List.range 3).map rd).map oI := by
    refine List.ext_getElem? fun j => ?_
    rw [List.getElem?_map, List.getElem?_map]
    cases g : rs[j]? with
    | none =>
      have := List.getElem?_eq_none_iff.mp g
      rw [List.getElem?_eq_none (by rw [List.length_range]; omega)]
      rfl
    | some v =>
      have lj := (List.getElem?_eq_some_iff.mp g).1
      rw [List.getElem?_range (by omega), (hrd j v g).1]
      rfl
  have hRd8 := e5 _ _ hRd
  dsimp only [tNil]
  refine ⟨_, _, rfl, RL.of (lk_oIs ((List.range 3).map rd) (by rw [List.length_map, List.length_range]; decide)) (.lst (SqL.of hRd8) (by rw [er]; exact dp_oIs _)) (.lst (SqL.of hZ) (by rw [er]; exact dp_oIs _)), fun G9 e6 => ⟨_, rfl, iteF ?_⟩⟩
  have eg := eg.trans (e5.trans e6)
  have hF := e6 _ _ (e5 _ _ hF)
  have hB := e6 _ _ (e5 _ _ hB)
  have hRd := e6 _ _ hRd8
  clear hvs all hZ hRd8 hws lws ew hT hts hrs e4 e5 e6 e13
  refine ⟨fun σ H' => ∃ (y : Addr), σ = [some (.ref p), some (.ref Ld), some (.ref L), some d, some e, y5, some (oI due), some (.ref T), some (.ref Rd), some (.ref y), none, none, none, some (.ref F), some (.ref B), y15, none, none] ∧ Same H H' ∧ H' F = some (.dK kvs) ∧ H' B = some (.lst (bs.map V.str)) ∧ H' Rd = some (.lst rs) ∧ TabO K C_OpenTable H' y N (t.valO lots), ?_, ?_⟩
  · refine ⟨_, rfl, _, rfl, _, _, rfl, p, Ld, N.map V.str, rfl, hb.mono eg, rfl, SqL.of (eg _ _ hN), by rw [List.length_map]; omega, fun G8 D8 cs8 e8 hD8 pm8 => ?_⟩
    obtain ⟨M, pM, rfl⟩ := perm_lift pm8 N rfl
    refine ⟨_, rfl, ?_⟩
    intro y dy ny ndy ne
    have e9 : Same G8 (upd (upd G8 dy (.own y)) y (.ins C_OpenTable dy [])) := (grow ndy).trans (grow (by rw [upd_ne ne.symm]; exact ny))
    refine ⟨_, _, _, rfl, y, dy, D8, M, t.valO lots, rfl, upd_same, rfl, SqL.of (e9 _ _ hD8), by rw [pM.length_eq]; omega, (hS.mono ((eg.trans e8).trans e9)), lS, fun H' kp hT hT2 => ⟨rfl, ?_⟩⟩
    have e10 : Same G8 H' := fun b o h => kp _ _ (e9 _ _ h) fun q => by rw [← q, h] at ny; cases ny
    have e11 := e8.trans e10
    exact ⟨y, rfl, eg.trans e11, e11 _ _ hF, e11 _ _ hB, e11 _ _ hRd, hT.sub fun z mz => pM.mem_iff.mpr mz⟩
  rintro σ G8 ⟨y, rfl, eg, hF, hB, hRd, hW⟩
  refine fun Ag nA => ?_
  have hA0 : upd G8 Ag (.dK []) Ag = some (.dK []) := upd_same
  have e1 := grow (o := .dK []) nA
  generalize upd G8 Ag (.dK []) = G9 at e1 hA0 ⊢
  obtain ⟨zs, ez, ndz, mz, mz2⟩ := fe.keys
  have ek := names_keys ez
  have lz : zs.length = kvs.length := by
    have := congrArg List.length ez
    rw [List.length_map, List.length_map] at this
    exact this.symm
  obtain ⟨x1, x2, x3⟩ := strZ_ok (K := K) (H := G9) zs
  refine ⟨_, rfl, _, rfl, F, rfl, .inl ⟨kvs, .inl (e1 _ _ hF), strZ zs, by rw [strZ_fst, ← ek], x1, x2, x3, fun q nq => ?_⟩⟩
  rw [sort_strs]
  have e2 := grow (o := .lst ((sortL zs).map V.str)) nq
  have lzs : (sortL zs).length = zs.length := List.length_mergeSort _
  refine ⟨_, _, rfl, p, q, (sortL zs).map V.str, rfl, hb.mono (eg.trans (e1.trans e2)), rfl, SqL.of upd_same, by rw [List.length_map]; omega, fun G10 D2 cs2 e3 hD2 pm2 => ?_⟩
  obtain ⟨M2, pM2, rfl⟩ := perm_lift pm2 (sortL zs) rfl
  have e123 := e1.trans (e2.trans e3)
  have hA1 := e3 _ _ (e2 _ _ hA0)
  have pz : M2.Perm zs := pM2.trans (List.mergeSort_perm zs strLe)
  have lM : M2.length = zs.length := pz.length_eq
  have nDA : D2 ≠ Ag := fun z => by
    rw [z, hA1] at hD2
    cases hD2
  refine .inl ⟨D2, rfl, ⟨_, SqL.of hD2⟩, ?_⟩
  refine for_it (walk_list (xs := M2.map V.str)) (fun i σ H' => Same G8 H' ∧ (∃ k2 : List (Key × V), H' Ag = some (.dK k2) ∧ FeK N k2 ∧ k2.length ≤ i ∧ ∀ z, feeF k2 z = if z ∈ M2.take i then feeF kvs z else 0) ∧ H' D2 = some (.lst (M2.map V.str)) ∧ ∃ y5, σ = [some (.ref p), some (.ref Ld), some (.ref L), some d, some e, y5, some (oI due), some (.ref T), some (.ref Rd), some (.ref y), some (.ref Ag), none, none, some (.ref F), some (.ref B), y15, none, none])
    ⟨e123, ⟨[], hA1, FeK.nil N, Nat.le_refl _, fun z => rfl⟩, hD2, _, rfl⟩ (fun i σ H' _ ⟨_, _, h, _⟩ => SqL.of h) ?_ ?_
  · rintro i x σ G11 G12 hi ⟨e4, ⟨k2, hA, f2, l2, v2⟩, hD, y5, rfl⟩ ⟨rfl, g⟩
    obtain ⟨z, gz, rfl⟩ := str_get g
    rw [List.length_map] at hi
    obtain ⟨zN, zS⟩ := mz z (pz.mem_iff.mp (List.mem_of_getElem? gz))
    obtain ⟨v, ev⟩ := Option.isSome_iff_exists.mp zS
    obtain ⟨fv, f0z, f1z⟩ := fe.val z
    rw [ev] at fv
    have fv : v = .int (feeF kvs z) := fv
    subst fv
    refine ⟨_, rfl, _, rfl, F, _, rfl, .inl ⟨kvs, Sum.inr z, .inl (e4 _ _ hF), rfl, ev.symm⟩, _, rfl, _, rfl, Ag, _, rfl, DPut.k (k := Sum.inr z) hA (size5' (by omega)), ?_⟩
    refine ⟨same_mut e4 nA, ⟨putK k2 (Sum.inr z) (.int (feeF kvs z)), upd_same, f2.put2 zN f0z f1z, ?_, fun w => ?_⟩, ?_, _, rfl⟩
    · have := length_putK k2 (Sum.inr z) (.int (feeF kvs z))
      omega
    · rw [feeF_put, List.take_add_one, gz, show (some z).toList = [z] from rfl]
      by_cases c : w = z
      · rw [if_pos c, if_pos (List.mem_append_right _ (by rw [c]; exact List.mem_singleton.mpr rfl)), c]
      · rw [if_neg c, v2 w]
        by_cases m : w ∈ M2.take i
        · rw [if_pos m, if_pos (List.mem_append_left _ m)]
        · rw [if_neg m, if_neg fun q => (List.mem_append.mp q).elim m fun q => c (List.mem_singleton.mp q)]
    · rw [upd_ne nDA]
      exact hD
  rintro σ G11 ⟨e4, ⟨k2, hA, f2, l2, v2⟩, hD, y5', rfl⟩
  have fk : feeF k2 = feeF kvs := funext fun z => by
    rw [v2 z, List.length_map, List.take_length]
    by_cases m : z ∈ M2
    · rw [if_pos m]
    · rw [if_neg m]
      have n : valV kvs (Sum.inr z) = none := by
        cases h : valV kvs (Sum.inr z) with
        | none => rfl
        | some v => exact absurd (pz.mem_iff.mpr (mz2 z (by rw [h]; rfl))) m
      unfold feeF
      rw [n]
  rw [List.length_map] at l2
  have eg := eg.trans e4
  have hF := e4 _ _ hF
  have hB := e4 _ _ hB
  have hRd := e4 _ _ hRd
  have hW := hW.mono e4
  clear hD hD2 e123 e1 e2 e3 e4 hA0 hA1 nA nq pM2 v2
  have lk2 : k2.length ≤ 1000 := by omega
  have le0 : LeastO (pricesR (feeF kvs) bs (t.valO lots)) due := (oo.read f0).mp hdue
  refine ⟨_, rfl, B, _, rfl, .inl (SqL.of hB), fun Hd nHd => ?_⟩
  have e1 := grow (o := .lst (bs.map V.str)) nHd
  have hHd : (upd G11 Hd (.lst (bs.map V.str))) Hd = some (.lst (bs.map V.str)) := upd_same
  generalize upd G11 Hd _ = G12 at e1 hHd ⊢
  refine ⟨_, rfl, Ag, k2, rfl, .inl (e1 _ _ hA), fun Kp nKp => ⟨_, _, rfl, ?_⟩⟩
  have e2 := e1.trans (grow (o := .dK k2) nKp)
  have hKp : (upd G12 Kp (.dK k2)) Kp = some (.dK k2) := upd_same
  have hHd := (grow (o := .dK k2) nKp) _ _ hHd
  generalize upd G12 Kp _ = G13 at e2 hHd hKp ⊢
  have eg := eg.trans e2
  have hF := e2 _ _ hF
  have hB := e2 _ _ hB
  have hA := e2 _ _ hA
  have hRd := e2 _ _ hRd
  have hW := hW.mono e2
  clear e1 e2 nHd nKp
  refine ⟨fun σ H' => ∃ Sn, σ = [some (.ref p), some (.ref Ld), some (.ref L), some d, some e, y5', some (oI due), some (.ref T), some (.ref Rd), some (.ref y), some (.ref Ag), some (.ref Sn), none, some (.ref F), some (.ref B), y15, some (.ref Hd), some (.ref Kp)] ∧ Same G13 H' ∧ H' Sn = some (.lst [oI due, oI due]), ?_, ?_⟩
  · obtain ⟨dx, D0, R0, ds, ys0, hq0, _⟩ := id hW
    refine ⟨_, rfl, y, dx, _, rfl, hq0, lkp0 (by decide +kernel) (by decide +kernel), _, rfl, _, rfl, rfl, rfl, _, _, _, rfl, y, B, N, t.valO lots, k2, bs, rfl, hW, f2, lk2, .inr ⟨Ag, rfl, hA⟩, rfl, .inl (SqL.of hB), mb, lS, bS, fun G14 m1 e1 h1 => ?_⟩
    rw [fk] at h1
    rw [LeastO.uniq h1 le0]
    refine ⟨_, rfl, y, dx, _, rfl, e1 _ _ hq0, lkp0 (by decide +kernel) (by decide +kernel), _, rfl, B, _, rfl, .inl ⟨SqL.of (e1 _ _ hB), fun tq ntq => ?_⟩⟩
    have e2 := grow (o := .tup (bs.map V.str)) ntq
    refine ⟨_, rfl, rfl, rfl, _, _, _, rfl, y, tq, N, t.valO lots, kvs, bs, rfl, (hW.mono e1).mono e2, fe, lk9, .inr ⟨F, rfl, e2 _ _ (e1 _ _ hF)⟩, rfl, .inr (SqT.of upd_same), mb, lS, bS, fun G15 m2 e3 h2 => ?_⟩
    rw [LeastO.uniq h2 le0]
    refine ⟨Nat.le_of_ble_eq_true rfl, fun Sn nSn => ⟨Sn, rfl, (e1.trans e2).trans (e3.trans (grow nSn)), upd_same⟩⟩
  rintro σ G14 ⟨Sn, rfl, e1, hSn⟩
  have eg := eg.trans e1
  have hF := e1 _ _ hF
  have hB := e1 _ _ hB
  have hA := e1 _ _ hA
  have hRd := e1 _ _ hRd
  have hHd := e1 _ _ hHd
  have hKp := e1 _ _ hKp
  have hW := hW.mono e1
  clear e1
  refine ⟨_, rfl, _, rfl, _, rfl, Nat.le_of_ble_eq_true rfl, fun Z nZ => ?_⟩
  refine ⟨_, _, rfl, RL.of (lk_oIs [due, due] (Nat.le_of_ble_eq_true rfl)) (.lst (SqL.of ((grow nZ) _ _ hSn)) (dp_oIs [due, due])) (.lst (SqL.of upd_same) (dp_oIs [due, due])), fun G15 e1 => ⟨_, rfl, iteF ?_⟩⟩
  have e1 := (grow (o := .lst [oI due, oI due]) nZ).trans e1
  have eg := eg.trans e1
  have hF := e1 _ _ hF
  have hB := e1 _ _ hB
  have hA := e1 _ _ hA
  have hRd := e1 _ _ hRd
  have hHd := e1 _ _ hHd
  have hKp := e1 _ _ hKp
  have hW := hW.mono e1
  clear e1 nZ hSn
  have hr3 : ∀ k < 3, LeastO (pricesR (feeF kvs) bs (lots k)) (rd k) := fun k hk => (hrd k _ (List.getElem?_eq_getElem (by omega))).2
  have er : t.readI rd = due := LeastO.uniq (Tr.least hr3 t to) hdue
  refine ⟨_, rfl, _, rfl, _, _, rfl, Rd, rd, t, dp_mono eg _ ht, to, tl, Nat.le_refl _, rfl, ⟨rs, hRd, l3, fun j v g => (hrd j v g).1⟩, ?_⟩
  rw [er]
  refine ⟨_, rfl, _, _, rfl, RL.of (lk_oI due) (dp_oI due) (dp_oI due), fun G16 e1 => ⟨_, rfl, iteF ?_⟩⟩
  have eg := eg.trans e1
  have hF := e1 _ _ hF
  have hB := e1 _ _ hB
  have hA := e1 _ _ hA
  have hHd := e1 _ _ hHd
  have hKp := e1 _ _ hKp
  have hW := hW.mono e1
  clear e1 er hr3 hRd
  refine ⟨fun σ H' => ∃ (Ra : Addr) (ys : List V), σ = [some (.ref p), some (.ref Ld), some (.ref L), some d, some e, y5', some (oI due), some (.ref T), some (.ref Rd), some (.ref y), some (.ref Ag), some (.ref Sn), some (.ref Ra), some (.ref F), some (.ref B), y15, some (.ref Hd), some (.ref Kp)] ∧ Same G16 H' ∧ H' Ra = some (.lst ys) ∧ RowsO K H' ys (t.rawO lots), ?_, ?_⟩
  · refine ⟨Nat.le_of_ble_eq_true rfl, fun tp ntp => ?_⟩
    have e1 := eg.trans (grow (o := .tup [.str "open", .str "a"]) ntp)
    exact ⟨_, rfl, _, rfl, _, _, _, rfl, tp, L, lots, t, rfl, SqT.of upd_same, dp_mono e1 _ ht, to, tl, Nat.le_refl _, rfl, hL.mono e1, lo, fun G4 R ys e2 hR hys => ⟨R, ys, rfl, (grow ntp).trans e2, hR, hys⟩⟩
  rintro σ G17 ⟨Ra, ys, rfl, e1, hRa, hys⟩
  have hF := e1 _ _ hF
  have hB := e1 _ _ hB
  have hA := e1 _ _ hA
  have hHd := e1 _ _ hHd
  have hKp := e1 _ _ hKp
  have hW := hW.mono e1
  have eg := eg.trans e1
  clear e1
  have hB0 : ∀ z ∈ ([] : List Str), z ∈ N := fun _ m => nomatch m
  have f00 : ∀ z, 0 ≤ feeF [] z := fun z => Int.le_refl _
  obtain ⟨d1, l1⟩ := leastO_ex (pricesR (feeF []) [] (t.valO lots))
  obtain ⟨d2, l2'⟩ := leastO_ex (pricesR (feeF kvs) [] (t.valO lots))
  obtain ⟨d3, l3'⟩ := leastO_ex (pricesR (feeF []) bs (t.valO lots))
  refine ⟨fun σ H' => ∃ S2, σ = [some (.ref p), some (.ref Ld), some (.ref L), some d, some e, y5', some (oI due), some (.ref T), some (.ref Rd), some (.ref y), some (.ref Ag), some (.ref S2), some (.ref Ra), some (.ref F), some (.ref B), y15, some (.ref Hd), some (.ref Kp)] ∧ Same G17 H' ∧ H' S2 = some (.lst [oI d1, oI d2, oI d3, oI d1]), ?_, ?_⟩
  · obtain ⟨dx, D0, R0, ds, ys0, hq0, _⟩ := id hW
    refine ⟨_, rfl, y, dx, _, rfl, hq0, lkp0 (by decide +kernel) (by decide +kernel), rfl, rfl, _, _, _, rfl, y, A_OpenTable_reading, N, t.valO lots, [], [], rfl, hW, FeK.nil N, by decide, .inl ⟨rfl, rfl⟩, rfl, .inr (sq0 _), hB0, lS, bS, fun G1 m1 e1 h1 => ?_⟩
    rw [LeastO.uniq h1 l1]
    refine ⟨_, rfl, y, dx, _, rfl, e1 _ _ hq0, lkp0 (by decide +kernel) (by decide +kernel), _, rfl, rfl, rfl, _, _, _, rfl, y, A_OpenTable_reading, N, t.valO lots, kvs, [], rfl, hW.mono e1, fe, lk9, .inr ⟨F, rfl, e1 _ _ hF⟩, rfl, .inr (sq0 _), hB0, lS, bS, fun G2 m2 e2 h2 => ?_⟩
    rw [LeastO.uniq h2 l2']
    have e12 := e1.trans e2
    refine ⟨_, rfl, y, dx, _, rfl, e12 _ _ hq0, lkp0 (by decide +kernel) (by decide +kernel), _, rfl, rfl, rfl, _, _, _, rfl, y, B, N, t.valO lots, [], bs, rfl, hW.mono e12, FeK.nil N, by decide, .inl ⟨rfl, rfl⟩, rfl, .inl (SqL.of (e12 _ _ hB)), mb, lS, bS, fun G3 m3 e3 h3 => ?_⟩
    rw [LeastO.uniq h3 l3']
    have e13 := e12.trans e3
    refine ⟨_, rfl, y, dx, _, rfl, e13 _ _ hq0, lkp0 (by decide +kernel) (by decide +kernel), Nat.le_of_ble_eq_true rfl, fun zl nzl => ?_⟩
    have e4 := e13.trans (grow (o := .lst []) nzl)
    refine ⟨rfl, rfl, _, _, _, rfl, y, zl, N, t.valO lots, [], [], rfl, hW.mono e4, FeK.nil N, by decide, .inl ⟨rfl, rfl⟩, rfl, .inl (SqL.of upd_same), hB0, lS, bS, fun G4 m4 e5 h4 => ?_⟩
    rw [LeastO.uniq h4 l1]
    exact ⟨Nat.le_of_ble_eq_true rfl, fun S2 nS2 => ⟨S2, rfl, (e4.trans e5).trans (grow nS2), upd_same⟩⟩
  rintro σ G18 ⟨S2, rfl, e1, hS2⟩
  have hF := e1 _ _ hF
  have hB := e1 _ _ hB
  have hA := e1 _ _ hA
  have hHd := e1 _ _ hHd
  have hKp := e1 _ _ hKp
  have hRa := e1 _ _ hRa
  have hys := hys.mono e1
  have eg := eg.trans e1
  clear e1 hW
  refine ⟨fun σ H' => ∃ Dd, σ = [some (.ref p), some (.ref Ld), some (.ref L), some d, some e, y5', some (.ref Dd), some (.ref T), some (.ref Rd), some (.ref y), some (.ref Ag), some (.ref S2), some (.ref Ra), some (.ref F), some (.ref B), y15, some (.ref Hd), some (.ref Kp)] ∧ Same G18 H' ∧ H' Dd = some (.lst [oI d1, oI d2, oI d3]), ?_, ?_⟩
  · refine ⟨_, rfl, fun a1 na1 => ⟨Nat.le_of_ble_eq_true rfl, fun a2 na2 => ?_⟩⟩
    have e1 := (grow (o := .dK []) na1).trans (grow (o := .lst []) na2)
    have g1 := (grow (o := .lst []) na2) _ _ (upd_same (H := G18) (a := a1) (o := HO.dK []))
    refine ⟨_, _, _, rfl, Ra, a1, a2, ys, t.rawO lots, N, [], [], rfl, .inl (e1 _ _ hRa), hys.mono e1, rfl, g1, FeK.nil N, rfl, SqL.of upd_same, lR, bR, fun G1 m1 e2 h1 => ?_⟩
    rw [LeastO.uniq ((oo.read f00).mp h1) l1]
    have e12 := e1.trans e2
    refine ⟨_, rfl, _, rfl, Nat.le_of_ble_eq_true rfl, fun a3 na3 => ?_⟩
    have e13 := e12.trans (grow (o := .lst []) na3)
    refine ⟨_, _, _, rfl, Ra, F, a3, ys, t.rawO lots, N, kvs, [], rfl, .inl (e13 _ _ hRa), hys.mono e13, rfl, e13 _ _ hF, fe, rfl, SqL.of upd_same, lR, bR, fun G2 m2 e3 h2 => ?_⟩
    rw [LeastO.uniq ((oo.read f0).mp h2) l2']
    have e14 := e13.trans e3
    refine ⟨_, rfl, fun a4 na4 => ⟨_, rfl, ?_⟩⟩
    have e15 := e14.trans (grow (o := .dK []) na4)
    refine ⟨_, _, _, rfl, Ra, a4, B, ys, t.rawO lots, N, [], bs, rfl, .inl (e15 _ _ hRa), hys.mono e15, rfl, upd_same, FeK.nil N, rfl, SqL.of (e15 _ _ hB), lR, bR, fun G3 m3 e6 h3 => ?_⟩
    rw [LeastO.uniq ((oo.read f00).mp h3) l3']
    exact ⟨Nat.le_of_ble_eq_true rfl, fun Dd nD => ⟨Dd, rfl, (e15.trans e6).trans (grow nD), upd_same⟩⟩
  rintro σ G19 ⟨Dd, rfl, e1, hDd⟩
  have hF := e1 _ _ hF
  have hB := e1 _ _ hB
  have hA := e1 _ _ hA
  have hHd := e1 _ _ hHd
  have hKp := e1 _ _ hKp
  have hS2 := e1 _ _ hS2
  have eg := eg.trans e1
  clear e1 hRa hys
  refine ⟨_, rfl, _, rfl, _, rfl, .inl ⟨Dd, [oI d1, oI d2, oI d3], 0, _, rfl, rfl, SqL.of hDd, rfl, Nat.le_of_ble_eq_true rfl, fun b1 nb1 => ?_⟩⟩
  have e1 := grow (o := .lst [oI d1]) nb1
  refine .inr (.inr ⟨Dd, b1, _, _, rfl, rfl, e1 _ _ hDd, upd_same, size5' (Nat.le_of_ble_eq_true rfl), fun b2 nb2 => ?_⟩)
  have e2 := e1.trans (grow (o := .lst ([oI d1, oI d2, oI d3] ++ [oI d1])) nb2)
  refine ⟨_, _, rfl, RL.of (lk_oIs [d1, d2, d3, d1] (Nat.le_of_ble_eq_true rfl)) (.lst (SqL.of (e2 _ _ hS2)) (dp_oIs [d1, d2, d3, d1])) (.lst (SqL.of upd_same) (dp_oIs [d1, d2, d3, d1])), fun G20 e3 => ⟨true, rfl, ?_⟩⟩
  rw [if_pos rfl]
  have e3 := e2.trans e3
  have eg := eg.trans e3
  have hB := e3 _ _ hB
  have hA := e3 _ _ hA
  have hHd := e3 _ _ hHd
  have hKp := e3 _ _ hKp
  clear e1 e2 e3
  refine ⟨_, rfl, _, rfl, Nat.le_of_ble_eq_true rfl, fun x1 nx1 => ⟨_, rfl, _, rfl, Nat.le_of_ble_eq_true rfl, fun x2 nx2 => ?_⟩⟩
  have e1 := grow (o := .lst [.ref B, .ref Ag]) nx1
  have h1 := (grow (o := .lst [.ref Hd, .ref Kp]) nx2) _ _ (upd_same (H := G20) (a := x1) (o := HO.lst [.ref B, .ref Ag]))
  have e2 := e1.trans (grow (o := .lst [.ref Hd, .ref Kp]) nx2)
  refine ⟨_, _, rfl, .inr (.inr ⟨x1, x2, _, _, rfl, rfl, SqL.of h1, SqL.of upd_same, rfl, Nat.le_of_ble_eq_true rfl, fun i x y gx gy => ?_⟩), fun G21 e3 => ?_⟩
  · match i with
    | 0 =>
      cases gx
      cases gy
      exact RL.of (d := .list (bs.map .str)) (lk_strsN lb) (.lst (SqL.of (e2 _ _ hB)) (dp_strs bs)) (.lst (SqL.of (e2 _ _ hHd)) (dp_strs bs))
    | 1 =>
      cases gx
      cases gy
      exact .inr (.inl ⟨by decide, Ag, Kp, k2, N, rfl, rfl, e2 _ _ hA, e2 _ _ hKp, f2, lk2⟩)
    | i + 2 => cases gx
  · exact k _ (eg.trans (e2.trans e3))
def spLaw1 (K : PySem.W.Frag) : Sp := sp1 fun a H Q => ∃ (l : Addr) (ns : List Int), a = .ref l ∧ SqL K H l (ns.map V.int) ∧ ∀ H', Q (.bl true) H'
theorem OptO.upd {K : PySem.W.Frag} {H : Hp} {q : Addr} {ys : List V} {o : HO} (hq : H q = some (.lst ys)) {v : V} {S : List OpR} (h : OptO K H v S) : OptO K (upd H q o) v S := by
  rcases h with h | ⟨n, D, xs, rfl, hD, hy⟩
  · exact .inl h
  · refine .inr ⟨n, D, xs, rfl, ?_, hy.upd hq⟩
    rw [upd_ne fun e => by rw [e, hq] at hD; cases hD]
    exact hD
theorem ok_law (T : Top K mg C_Open C_OpenTable A_OpenTable_reading) {f : Addr} {fd : FuncData} (F : Def K mg "law" s_law f fd) : FnOk P w K mg base C8.CX0 13 f fd ["script"] (spLaw1 K) := by
  refine fn1 F sc_law fun cdv A outer s H a Q E hr h => ?_
  have nd := sc_law.nd
  obtain ⟨l, ns, rfl, hs, k⟩ := h
  refine ⟨_, (pss_cons 
      (ps_set (i := 1) nd rfl (Or.inr rfl) (pe_c (c__law_bag T) hr (by decide) (by rfl) (pa_cons (pv 0) pa_nil))) (pss_cons 
      (ps_set (i := 2) nd rfl (Or.inl rfl) (pe_tup (pa_cons pe_str (pa_cons pe_str pa_nil)))) (pss_cons 
      (ps_for PassesOwn.never rfl (pi_range1 (by rfl) T.range (pa_cons pe_int pa_nil)) (pg_name (i := 3) nd rfl (Or.inl rfl)) (pss_cut 
      (ps_set (i := 4) nd rfl (Or.inl rfl) (pe_mk (c_Open___init__ T) hr (by decide) (by rfl) (pa_cons pe_str pa_nil))) (pss_cut 
      (ps_setLc (i := 5) (own := [("k", 10)]) rfl nd rfl rfl (sw_true rfl rfl rfl (by decide +kernel)) (pi_range1 (by rfl) T.range (pa_cons pe_int pa_nil)) (blkOk_by (N := ["script", "bag", "spec", "turn", "made", "values", "tree", "told", "doubts_y", "listed", "k", "x"]) (sc := fnScope s_law) (by decide +kernel)) (fun _ _ _ _ _ => (pg_name (i := 10) nd rfl (Or.inl rfl))) (fun _ _ _ _ _ => pts_nil) (fun _ _ _ _ _ => (pe_c (c__law_open_or_none T) hr (by decide) (by rfl) (pa_cons (pv 1) pa_nil)))) (pss_cut 
      (ps_set (i := 6) nd rfl (Or.inl rfl) (pe_c (c__law_small_tree T) hr (by decide) (by rfl) (pa_cons (pv 1) pa_nil))) (pss_cut 
      (ps_set (i := 7) nd rfl (Or.inl rfl) (pe_c (c__law_by_program T) hr (by decide) (by rfl) (pa_cons (pv 4) (pa_cons (pv 6) (pa_cons (pv 5) pa_nil))))) (pss_cut 
      (ps_set (i := 8) nd rfl (Or.inr rfl) (pe_c (c__law_all_names T) hr (by decide) (by rfl) (pa_cons (pv 5) pa_nil))) (pss_cut 
      (ps_set (i := 8) nd rfl (Or.inr rfl) (pe_op op_addU (pv 8) (pe_lc (own := [("x", 11)]) rfl nd (pi_K (K := K) rfl (pe_c (c__law_of T) hr (by decide) (by rfl) (pa_cons (pv 1) (pa_cons (pe_lst (pa_cons (pe_lst pa_nil) (pa_cons (pe_lst (pa_cons pe_str pa_nil)) (pa_cons (pe_lst (pa_cons pe_str (pa_cons pe_str pa_nil))) pa_nil)))) pa_nil)))) (blkOk_by (N := ["script", "bag", "spec", "turn", "made", "values", "tree", "told", "doubts_y", "listed", "k", "x"]) (sc := fnScope s_law) (by decide +kernel)) (fun _ _ _ _ _ => (pg_name (i := 11) nd rfl (Or.inl rfl))) (fun _ _ _ _ _ => (pts_one (pt_cmpR (notIn_K (K := K) rfl) (pv 11) (pv 8) (by with_unfolding_all rfl)))) (fun _ _ _ _ _ => (pv 11))))) (pss_cut 
      (ps_set (i := 9) nd rfl (Or.inl rfl) (pe_c (c__law_raw T) hr (by decide) (by rfl) (pa_cons (pv 2) (pa_cons (pv 6) (pa_cons (pv 5) pa_nil))))) (pss_cut 
      (ps_if (pt_cmpR (eq_K (K := K) rfl hr) (pv 9) (pe_lst pa_nil) (nomark _)) (pss_one 
      (ps_if (pt_cmpR op_notN (pv 7) pe_non (nomark _)) (pss_one 
      (ps_ret pe_bl)) pss_nil)) (pss_one 
      (ps_if (pt_not (pt_val (pe_c (c__law_fits_rows T) hr (by decide) (by rfl) (pa_cons (pv 2) (pa_cons (pv 7) (pa_cons (pv 9) pa_nil)))))) (pss_one 
      (ps_ret pe_bl)) pss_nil))) (pss_one 
      (ps_for PassesOwn.never rfl (pi_range1 (by rfl) T.range (pa_cons pe_int pa_nil)) (pg_name (i := 10) nd rfl (Or.inl rfl)) (pss_one 
      (ps_if (pt_not (pt_val (pe_c (c__law_reads_so T) hr (by decide) (by rfl) (pa_cons (pv 1) (pa_cons (pv 8) (pa_cons (pv 5) (pa_cons (pv 6) (pa_cons (pv 7) pa_nil)))))))) (pss_one 
      (ps_ret pe_bl)) pss_nil))))))))))))) (pss_one 
      (ps_ret pe_bl))))), ?_⟩
  refine ⟨_, rfl, _, rfl, l, ns, rfl, hs, fun p H0 e0 hb => ?_⟩
  refine ⟨Nat.le_of_ble_eq_true rfl, fun A nA => ?_⟩
  have hb0 := hb.mono (grow (o := .tup [.str "open", .str "a"]) nA)
  have hA0 : SqT K (upd H0 A (.tup [.str "open", .str "a"])) A [.str "open", .str "a"] := SqT.of upd_same
  generalize upd H0 A _ = H1 at hb0 hA0 ⊢
  refine ⟨4, rfl, by decide, by decide, for_it walk_range (fun i σ G => (BagAt G p ∧ SqT K G A [.str "open", .str "a"]) ∧ ∃ y3 y4 y5 y6 y7 y8 y9 y10 y11, σ = [some (.ref l), some (.ref p), some (.ref A), y3, y4, y5, y6, y7, y8, y9, y10, y11]) ⟨⟨hb0, hA0⟩, _, _, _, _, _, _, _, _, _, rfl⟩ (fun _ _ _ _ _ => trivial) ?_ ?_⟩
  rotate_left
  · rintro σ H3 ⟨_, y3, y4, y5, y6, y7, y8, y9, y10, y11, rfl⟩
    exact k H3
  rintro ti tx σ H2 G0 hti ⟨⟨hb1, hA1⟩, y3, y4, y5, y6, y7, y8, y9, y10, y11, rfl⟩ ⟨rfl, _⟩
  clear hb hb0 hA0 e0 nA
  -- made
  refine ⟨fun σ G => ∃ (x : Addr), σ = [some (.ref l), some (.ref p), some (.ref A), some tx, some (.ref x), y5, y6, y7, y8, y9, y10, y11] ∧ Same G0 G ∧ PlainO C_Open G x, ?_, ?_⟩
  · refine fun x dx nx ndx nex => ⟨_, _, rfl, x, dx, rfl, upd_same, rfl, fun G1 keep hm => ⟨rfl, x, rfl, fun b o e => keep b o (by rw [upd_ne (ne_of_none e nx), upd_ne (ne_of_none e ndx)]; exact e) (ne_of_none e nx), hm⟩⟩
  rintro σ G1 ⟨x, rfl, e1, hm⟩
  -- values
  refine ⟨fun σ G => ∃ (L : Addr) (lots : Nat → List OpR), σ = [some (.ref l), some (.ref p), some (.ref A), some tx, some (.ref x), some (.ref L), y6, y7, y8, y9, y10, y11] ∧ Same G1 G ∧ ValsO K G L lots ∧ (∀ k < 3, LotK abcN (lots k)), ?_, ?_⟩
  · refine ⟨3, rfl, by decide, by decide, fun L nL => ?_⟩
    refine lc_some walk_range (fun _ v H' => ∃ S, OptO K H' v S ∧ LotK abcN S) grow_fn (by decide) nL (fun _ _ _ _ e ⟨S, a, b⟩ => ⟨S, a.mono e, b⟩) (fun _ _ => trivial) ?_ ?_
    · rintro i z G3 G4 hi e ⟨acc, hacc⟩ ⟨rfl, rfl⟩ R kk
      exact ⟨rfl, _, rfl, _, rfl, p, rfl, (hb1.mono e1).mono e, fun G5 v S e5 ho lo => kk _ _ e5 fun o => ⟨S, ho.upd (e5 _ _ hacc), lo⟩⟩
    · intro vs G3 e hL l3 hp
      have ch : ∀ j : Nat, ∃ S, LotK abcN S ∧ ∀ v, vs[j]? = some v → OptO K G3 v S := fun j => by
        cases g : vs[j]? with
        | none => exact ⟨[], LotK.nil _, fun v h => nomatch h⟩
        | some v =>
          obtain ⟨S, a, b⟩ := hp j v g
          exact ⟨S, b, fun u h => by cases h; exact a⟩
      exact ⟨L, fun j => (ch j).choose, rfl, e, ⟨vs, hL, l3, fun j v g => (ch j).choose_spec.2 v g⟩, fun j _ => (ch j).choose_spec.1⟩
  rintro σ G2 ⟨L, lots, rfl, e2, hL, lo⟩
  have e12 := e1.trans e2
  -- tree
  refine ⟨fun σ G => ∃ (u : V) (t : Tr), σ = [some (.ref l), some (.ref p), some (.ref A), some tx, some (.ref x), some (.ref L), some u, y7, y8, y9, y10, y11] ∧ Same G2 G ∧ Dp K G u t.dat ∧ t.ok ∧ t.lvs ≤ 5, ?_, ?_⟩
  · exact ⟨_, rfl, _, rfl, p, rfl, hb1.mono e12, fun G v t e a b c => ⟨v, t, rfl, e, a, b, c⟩⟩
  rintro σ G3 ⟨u, t, rfl, e3, ht, to, tl⟩
  have e13 := e12.trans e3
  -- told
  refine ⟨fun σ G => ∃ (v : V), σ = [some (.ref l), some (.ref p), some (.ref A), some tx, some (.ref x), some (.ref L), some u, some v, y8, y9, y10, y11] ∧ Same G3 G ∧ OptO K G v (t.valO lots), ?_, ?_⟩
  · exact ⟨_, rfl, _, rfl, _, rfl, _, _, _, rfl, x, L, lots, t, rfl, hm.mono (e2.trans e3), ht, to, tl, Nat.le_refl _, rfl, hL.mono e3, lo, fun G v e h => ⟨v, rfl, e, h⟩⟩
  rintro σ G4 ⟨v, rfl, e4, hS⟩
  have e14 := e13.trans e4
  have hL4 := (hL.mono e3).mono e4
  have ht4 := dp_mono e4 _ ht
  -- all names
  refine ⟨fun σ G => ∃ (D : Addr) (N : List Str), σ = [some (.ref l), some (.ref p), some (.ref A), some tx, some (.ref x), some (.ref L), some u, some v, some (.ref D), y9, y10, y11] ∧ Same G4 G ∧ G D = some (.lst (N.map V.str)) ∧ N.length ≤ 27, ?_, ?_⟩
  · exact ⟨_, rfl, _, rfl, L, lots, rfl, hL4, lo, fun G D N e hD _ lN => ⟨D, N, rfl, e, hD, lN⟩⟩
  rintro σ G5 ⟨D0, N0, rfl, e5, hD0, lN0⟩
  have e15 := e14.trans e5
  -- two names more
  refine ⟨fun σ G => ∃ (D : Addr) (N : List Str) (y11 : Option V), σ = [some (.ref l), some (.ref p), some (.ref A), some tx, some (.ref x), some (.ref L), some u, some v, some (.ref D), y9, y10, y11] ∧ Same G5 G ∧ G D = some (.lst (N.map V.str)) ∧ N.length ≤ 900, ?_, ?_⟩
  · refine ⟨_, rfl, _, rfl, Nat.le_of_ble_eq_true rfl, fun a1 n1 => ⟨Nat.le_of_ble_eq_true rfl, fun a2 n2 => ⟨Nat.le_of_ble_eq_true rfl, fun a3 n3 => ⟨Nat.le_of_ble_eq_true rfl, fun a4 n4 => ?_⟩⟩⟩⟩
    have g1 := grow (o := .lst []) n1
    have g2 := grow (o := .lst [.str "zz"]) n2
    have g3 := grow (o := .lst [.str "zz", .str "q"]) n3
    have g4 := grow (o := .lst [.ref a1, .ref a2, .ref a3]) n4
    have h1 := g4 _ _ (g3 _ _ (g2 _ _ (upd_same (H := G5) (a := a1) (o := .lst []))))
    have h2 := g4 _ _ (g3 _ _ (upd_same (H := upd G5 a1 (.lst [])) (a := a2) (o := .lst [.str "zz"])))
    have h3 := g4 _ _ (upd_same (H := upd (upd G5 a1 (.lst [])) a2 (.lst [.str "zz"])) (a := a3) (o := .lst [.str "zz", .str "q"]))
    have e6 := g1.trans (g2.trans (g3.trans g4))
    refine ⟨_, _, rfl, p, rfl, (hb1.mono e15).mono e6, .inl ⟨a4, _, rfl, .inl (SqL.of upd_same), Nat.le_of_ble_eq_true rfl, Nat.le_of_ble_eq_true rfl, fun z hz => ?_⟩⟩
    obtain ⟨Z, zs, rfl, hZ, lz⟩ : ∃ (Z : Addr) (zs : List Str), z = .ref Z ∧ (upd (upd (upd (upd G5 a1 (.lst [])) a2 (.lst [.str "zz"])) a3 (.lst [.str "zz", .str "q"])) a4 (.lst [.ref a1, .ref a2, .ref a3])) Z = some (.lst (zs.map V.str)) ∧ zs.length ≤ 2 := by
      simp only [List.mem_cons, List.not_mem_nil, or_false] at hz
      rcases hz with rfl | rfl | rfl
      · exact ⟨a1, [], rfl, h1, by decide⟩
      · exact ⟨a2, ["zz"], rfl, h2, Nat.le_of_ble_eq_true rfl⟩
      · exact ⟨a3, ["zz", "q"], rfl, h3, Nat.le_of_ble_eq_true rfl⟩
    clear g1 g2 g3 g4 h1 h2 h3 hz
    have hD6 := e6 _ _ hD0
    generalize upd (upd (upd (upd G5 a1 _) a2 _) a3 _) a4 _ = G6 at e6 hZ hD6 ⊢
    refine .inl ⟨Z, rfl, ⟨_, SqL.of hZ⟩, fun C nC => ?_⟩
    refine lc_it (walk_list (xs := zs.map V.str)) (fun i G => Same G6 G ∧ ∃ us : List Str, us.length ≤ i ∧ G C = some (.lst (us.map V.str))) ⟨grow nC, [], Nat.zero_le _, upd_same⟩ (fun i G _ ⟨e, _⟩ => SqL.of (e _ _ hZ)) ?_ ?_
    · rintro i v2 H3 H4 hi ⟨e, us, lu, hC⟩ ⟨rfl, g⟩
      obtain ⟨w2, gw, rfl⟩ := str_get g
      rw [List.length_map] at hi
      refine ⟨rfl, _, rfl, _, rfl, .inr ⟨D0, _, rfl, .inl (SqL.of (e _ _ hD6)), rfl, flat_strs N0, ?_⟩⟩
      rw [inV_strs]
      refine ⟨_, rfl, ?_⟩
      cases c : decide (w2 ∈ N0) with
      | true => exact iteF ⟨e, us, by omega, hC⟩
      | false =>
        refine iteT ⟨_, rfl, _, hC, size5 (by rw [List.length_map]; omega), same_mut e nC, us ++ [w2], by rw [List.length_append]; exact Nat.succ_le_succ lu, ?_⟩
        rw [upd_same, List.map_append]
        rfl
    · rintro H3 ⟨e, us, lu, hC⟩
      rw [List.length_map] at lu
      refine .inr (.inr ⟨D0, C, _, _, rfl, rfl, e _ _ hD6, hC, size5' (by rw [List.length_map, List.length_map]; omega), fun c2 nc2 => ?_⟩)
      exact ⟨c2, N0 ++ us, _, rfl, e6.trans (e.trans (grow nc2)), by rw [upd_same, List.map_append], by rw [List.length_append]; omega⟩
  rintro σ G6 ⟨D, N, y11, rfl, e6, hD, lN⟩
  have e16 := e15.trans e6
  have hL6 := (hL4.mono e5).mono e6
  have ht6 := dp_mono e6 _ (dp_mono e5 _ ht4)
  have hS6 := (hS.mono e5).mono e6
  -- listed
  refine ⟨fun σ G => ∃ (R : Addr) (ys : List V), σ = [some (.ref l), some (.ref p), some (.ref A), some tx, some (.ref x), some (.ref L), some u, some v, some (.ref D), some (.ref R), y10, y11] ∧ Same G6 G ∧ G R = some (.lst ys) ∧ RowsO K G ys (t.rawO lots), ?_, ?_⟩
  · exact ⟨_, rfl, _, rfl, _, rfl, _, _, _, rfl, A, L, lots, t, rfl, same_tup e16 hA1, ht6, to, tl, Nat.le_refl _, rfl, hL6, lo, fun G R ys e hR hy => ⟨R, ys, rfl, e, hR, hy⟩⟩
  rintro σ G7 ⟨R, ys, rfl, e7, hR, hy⟩
  have e17 := e16.trans e7
  have hS7 := hS6.mono e7
  have hA7 := same_tup e17 hA1
  have lR : (t.rawO lots).length ≤ 1000 := Nat.le_trans (rawO_len (fun k z => (lo k z).len) t to) (Nat.le_trans (Nat.pow_le_pow_right (by decide) tl) (by decide))
  have oo : OO (t.rawO lots) (t.valO lots) := Tr.oo (fun k z => (lo k z).oo) t to
  -- the branch
  refine ⟨fun σ G => σ = [some (.ref l), some (.ref p), some (.ref A), some tx, some (.ref x), some (.ref L), some u, some v, some (.ref D), some (.ref R), y10, y11] ∧ Same G7 G, ?_, ?_⟩
  · refine ⟨_, rfl, Nat.le_of_ble_eq_true rfl, fun E nE => .inr ⟨.list ((t.rawO lots).map openD), .list [], .lst (SqL.of ((grow nE) _ _ hR)) (rowsO_dp (hy.mono (grow nE))), .lst (SqL.of upd_same) .nil, Nat.le_trans (Nat.min_le_right _ _) (by decide), ?_⟩⟩
    have e8 := grow (o := .lst []) nE
    have hR := e8 _ _ hR
    have hy := hy.mono e8
    have hS := hS7.mono e8
    have hA := same_tup e8 hA7
    generalize upd G7 E _ = G8 at e8 hR hy hS hA ⊢
    rw [eqv_nil]
    by_cases w : t.rawO lots = []
    · have s0 : t.valO lots = [] := List.eq_nil_iff_forall_not_mem.mpr fun r m => by
        have := oo.sub r m
        rw [w] at this
        cases this
      rw [w]
      refine ⟨_, rfl, iteT ?_⟩
      rcases hS with ⟨_, rfl⟩ | ⟨n, _⟩
      · exact ⟨_, rfl, rfl, _, rfl, iteF ⟨rfl, e8⟩⟩
      · exact absurd s0 n
    · rw [show (t.rawO lots).isEmpty = false by cases h : t.rawO lots with | nil => exact absurd h w | cons a b => rfl]
      refine ⟨_, rfl, iteF ?_⟩
      rcases hS with ⟨s0, _⟩ | ⟨n, B, xs, rfl, hB, hx⟩
      · exact absurd s0 (oo.ne w)
      have lS : (t.valO lots).length ≤ 1000 := Nat.le_trans (valO_len lo t to (by omega)) (Nat.le_trans (Nat.pow_le_pow_right (by decide) tl) (by decide))
      refine ⟨_, rfl, _, rfl, _, rfl, _, _, _, rfl, A, B, R, xs, ys, t.valO lots, t.rawO lots, rfl, hA, rfl, hB, hx, rfl, hR, hy, n, lS, lR, fun r m => ?_, valO_out lo t to, fun r m => ?_, oo, fun G9 e9 => ⟨_, rfl, iteF ⟨rfl, e8.trans e9⟩⟩⟩
      · have := valO_row lo t to r m
        exact ⟨this.1, by have := this.2.2.1; omega, this.2.2.2, oo.cn r (oo.sub r m)⟩
      · have := rawO_bd (fun k z => (lo k z).bd) t to r m
        exact ⟨by have := this.2.2.1; omega, this.2.2.2⟩
  rintro σ G8 ⟨rfl, e8⟩
  have e18 := e17.trans e8
  have hb8 := hb1.mono e18
  have hA8 := same_tup e18 hA1
  have hD8 := (e7.trans e8) _ _ hD
  have hL8 := hL6.mono (e7.trans e8)
  have ht8 := dp_mono (e7.trans e8) _ ht6
  have hS8 := hS7.mono e8
  clear e1 e2 e3 e4 e5 e6 e7 e8 e12 e13 e14 e15 e16 e17 e18
  refine ⟨3, rfl, by decide, by decide, for_it walk_range (fun i σ G => Same G8 G ∧ ∃ y10, σ = [some (.ref l), some (.ref p), some (.ref A), some tx, some (.ref x), some (.ref L), some u, some v, some (.ref D), some (.ref R), y10, y11]) ⟨Same.refl _, _, rfl⟩ (fun _ _ _ _ _ => trivial) ?_ ?_⟩
  · rintro i z σ H3 H4 hi ⟨e, y10, rfl⟩ ⟨rfl, rfl⟩
    exact ⟨_, rfl, _, rfl, _, rfl, _, rfl, _, rfl, _, _, _, _, _, rfl, p, D, L, N, lots, t, rfl, hb8.mono e, rfl, e _ _ hD8, lN, rfl, hL8.mono e, lo, dp_mono e _ ht8, to, tl, hS8.mono e, fun H5 e5 => ⟨_, rfl, iteF ⟨e.trans e5, _, rfl⟩⟩⟩
  · rintro σ H3 ⟨e, y10, rfl⟩
    exact ⟨⟨hb8.mono e, same_tup e hA8⟩, _, _, _, _, _, _, _, _, _, rfl⟩
end
end Fb
set_option Elab.async false
set_option linter.all false
set_option maxRecDepth 100000
set_option maxHeartbeats 4000000
set_option maxHeartbeats 0
open_shared TT for PySem.Challenge.pw_feeblind_k73_whole_open_read_goes_throug leaving 0
namespace Fb
open PySem PySem.W PySem.Calls PyProof.Rows HeadRun
noncomputable def KF : Params → Frag := fun P =>
  (nat_lit 2, boot_o_2 P) :: (nat_lit 3, TT.o_671 P) :: (nat_lit 15, TT.o_7 P) :: (nat_lit 17, TT.o_9 P) :: (nat_lit 18, TT.o_10 P) :: (nat_lit 20, TT.o_12 P) :: (nat_lit 21, TT.o_13 P) :: (nat_lit 22, TT.o_14 P) :: (nat_lit 24, TT.o_16 P) :: (nat_lit 25, TT.o_17 P) :: (nat_lit 27, TT.o_19 P) :: (nat_lit 28, TT.o_20 P) ::
  (nat_lit 29, TT.o_21 P) :: (nat_lit 36, TT.o_28 P) :: (nat_lit 37, TT.o_29 P) :: (nat_lit 38, TT.o_62 P) :: (nat_lit 39, TT.o_31 P) :: (nat_lit 42, TT.o_38 P) :: (nat_lit 45, TT.o_41 P) :: (nat_lit 50, TT.o_46 P) :: (nat_lit 51, TT.o_47 P) :: (nat_lit 53, TT.o_49 P) :: (nat_lit 54, TT.o_50 P) :: (nat_lit 56, TT.o_52 P) ::
  (nat_lit 57, TT.o_53 P) :: (nat_lit 58, TT.o_54 P) :: (nat_lit 59, TT.o_55 P) :: (nat_lit 60, TT.o_56 P) :: (nat_lit 63, TT.o_63 P) :: (nat_lit 66, TT.o_66 P) :: (nat_lit 71, TT.o_71 P) :: (nat_lit 72, TT.o_72 P) :: (nat_lit 74, TT.o_74 P) :: (nat_lit 75, TT.o_75 P) :: (nat_lit 77, TT.o_77 P) :: (nat_lit 78, TT.o_78 P) ::
  (nat_lit 79, TT.o_79 P) :: (nat_lit 80, TT.o_80 P) :: (nat_lit 81, TT.o_81 P) :: (nat_lit 84, TT.o_87 P) :: (nat_lit 91, TT.o_94 P) :: (nat_lit 92, TT.o_95 P) :: (nat_lit 93, TT.o_103 P) :: (nat_lit 94, TT.o_97 P) :: (nat_lit 97, TT.o_104 P) :: (nat_lit 100, TT.o_107 P) :: (nat_lit 105, TT.o_112 P) :: (nat_lit 106, TT.o_113 P) ::
  (nat_lit 108, TT.o_115 P) :: (nat_lit 109, TT.o_116 P) :: (nat_lit 111, TT.o_118 P) :: (nat_lit 112, TT.o_119 P) :: (nat_lit 113, TT.o_120 P) :: (nat_lit 114, TT.o_121 P) :: (nat_lit 115, TT.o_122 P) :: (nat_lit 118, TT.o_125 P) :: (nat_lit 121, TT.o_128 P) :: (nat_lit 122, TT.o_129 P) :: (nat_lit 123, TT.o_130 P) :: (nat_lit 124, TT.o_131 P) ::
  (nat_lit 126, TT.o_133 P) :: (nat_lit 127, TT.o_134 P) :: (nat_lit 129, TT.o_136 P) :: (nat_lit 130, TT.o_137 P) :: (nat_lit 138, TT.o_148 P) :: (nat_lit 140, TT.o_150 P) :: (nat_lit 141, TT.o_151 P) :: (nat_lit 143, TT.o_153 P) :: (nat_lit 144, TT.o_154 P) :: (nat_lit 145, TT.o_155 P) :: (nat_lit 147, TT.o_157 P) :: (nat_lit 148, TT.o_158 P) ::
  (nat_lit 150, TT.o_160 P) :: (nat_lit 151, TT.o_161 P) :: (nat_lit 152, TT.o_162 P) :: (nat_lit 154, TT.o_164 P) :: (nat_lit 155, TT.o_165 P) :: (nat_lit 157, TT.o_167 P) :: (nat_lit 158, TT.o_168 P) :: (nat_lit 159, TT.o_169 P) :: (nat_lit 161, TT.o_171 P) :: (nat_lit 162, TT.o_172 P) :: (nat_lit 164, TT.o_174 P) :: (nat_lit 165, TT.o_175 P) ::
  (nat_lit 166, TT.o_176 P) :: (nat_lit 168, TT.o_178 P) :: (nat_lit 169, TT.o_179 P) :: (nat_lit 171, TT.o_181 P) :: (nat_lit 172, TT.o_182 P) :: (nat_lit 173, TT.o_183 P) :: (nat_lit 174, TT.o_184 P) :: (nat_lit 175, TT.o_215 P) :: (nat_lit 176, TT.o_186 P) :: (nat_lit 177, TT.o_187 P) :: (nat_lit 180, TT.o_190 P) :: (nat_lit 182, TT.o_192 P) ::
  (nat_lit 183, TT.o_193 P) :: (nat_lit 185, TT.o_195 P) :: (nat_lit 186, TT.o_196 P) :: (nat_lit 187, TT.o_200 P) :: (nat_lit 190, TT.o_203 P) :: (nat_lit 191, TT.o_204 P) :: (nat_lit 192, TT.o_205 P) :: (nat_lit 194, TT.o_207 P) :: (nat_lit 195, TT.o_208 P) :: (nat_lit 197, TT.o_210 P) :: (nat_lit 198, TT.o_211 P) :: (nat_lit 199, TT.o_216 P) ::
  (nat_lit 206, TT.o_223 P) :: (nat_lit 208, TT.o_225 P) :: (nat_lit 209, TT.o_226 P) :: (nat_lit 211, TT.o_228 P) :: (nat_lit 212, TT.o_229 P) :: (nat_lit 213, TT.o_230 P) :: (nat_lit 215, TT.o_232 P) :: (nat_lit 216, TT.o_233 P) :: (nat_lit 218, TT.o_235 P) :: (nat_lit 219, TT.o_236 P) :: (nat_lit 220, TT.o_237 P) :: (nat_lit 223, TT.o_240 P) ::
  (nat_lit 224, TT.o_241 P) :: (nat_lit 225, TT.o_242 P) :: (nat_lit 227, TT.o_244 P) :: (nat_lit 228, TT.o_245 P) :: (nat_lit 230, TT.o_247 P) :: (nat_lit 231, TT.o_248 P) :: (nat_lit 232, TT.o_249 P) :: (nat_lit 234, TT.o_251 P) :: (nat_lit 235, TT.o_252 P) :: (nat_lit 237, TT.o_254 P) :: (nat_lit 238, TT.o_255 P) :: (nat_lit 239, TT.o_256 P) ::
  (nat_lit 241, TT.o_258 P) :: (nat_lit 242, TT.o_259 P) :: (nat_lit 244, TT.o_261 P) :: (nat_lit 245, TT.o_262 P) :: (nat_lit 246, TT.o_263 P) :: (nat_lit 248, TT.o_265 P) :: (nat_lit 249, TT.o_266 P) :: (nat_lit 251, TT.o_268 P) :: (nat_lit 252, TT.o_269 P) :: (nat_lit 253, TT.o_270 P) :: (nat_lit 254, TT.o_271 P) :: (nat_lit 255, TT.o_272 P) ::
  (nat_lit 258, TT.o_278 P) :: (nat_lit 260, TT.o_280 P) :: (nat_lit 261, TT.o_281 P) :: (nat_lit 263, TT.o_283 P) :: (nat_lit 264, TT.o_284 P) :: (nat_lit 265, TT.o_285 P) :: (nat_lit 268, TT.o_288 P) :: (nat_lit 269, TT.o_289 P) :: (nat_lit 277, TT.o_300 P) :: (nat_lit 280, TT.o_303 P) :: (nat_lit 281, TT.o_304 P) :: (nat_lit 282, TT.o_305 P) ::
  (nat_lit 284, TT.o_307 P) :: (nat_lit 285, TT.o_308 P) :: (nat_lit 287, TT.o_310 P) :: (nat_lit 288, TT.o_311 P) :: (nat_lit 289, TT.o_312 P) :: (nat_lit 291, TT.o_314 P) :: (nat_lit 292, TT.o_315 P) :: (nat_lit 294, TT.o_317 P) :: (nat_lit 295, TT.o_318 P) :: (nat_lit 296, TT.o_319 P) :: (nat_lit 297, TT.o_320 P) :: (nat_lit 298, TT.o_321 P) ::
  (nat_lit 301, TT.o_324 P) :: (nat_lit 302, TT.o_325 P) :: (nat_lit 303, TT.o_326 P) :: (nat_lit 305, TT.o_328 P) :: (nat_lit 306, TT.o_329 P) :: (nat_lit 308, TT.o_331 P) :: (nat_lit 309, TT.o_332 P) :: (nat_lit 310, TT.o_333 P) :: (nat_lit 312, TT.o_335 P) :: (nat_lit 313, TT.o_336 P) :: (nat_lit 315, TT.o_338 P) :: (nat_lit 316, TT.o_339 P) ::
  (nat_lit 317, TT.o_340 P) :: (nat_lit 318, TT.o_341 P) :: (nat_lit 320, TT.o_343 P) :: (nat_lit 321, TT.o_344 P) :: (nat_lit 323, TT.o_346 P) :: (nat_lit 324, TT.o_347 P) :: (nat_lit 325, TT.o_348 P) :: (nat_lit 327, TT.o_350 P) :: (nat_lit 328, TT.o_351 P) :: (nat_lit 330, TT.o_353 P) :: (nat_lit 331, TT.o_354 P) :: (nat_lit 332, TT.o_355 P) ::
  (nat_lit 333, TT.o_356 P) :: (nat_lit 334, TT.o_357 P) :: (nat_lit 336, TT.o_359 P) :: (nat_lit 337, TT.o_360 P) :: (nat_lit 339, TT.o_362 P) :: (nat_lit 340, TT.o_363 P) :: (nat_lit 341, TT.o_364 P) :: (nat_lit 344, TT.o_367 P) :: (nat_lit 345, TT.o_368 P) :: (nat_lit 346, TT.o_369 P) :: (nat_lit 349, TT.o_372 P) :: (nat_lit 350, TT.o_373 P) ::
  (nat_lit 351, TT.o_374 P) :: (nat_lit 353, TT.o_376 P) :: (nat_lit 354, TT.o_377 P) :: (nat_lit 356, TT.o_379 P) :: (nat_lit 357, TT.o_380 P) :: (nat_lit 358, TT.o_381 P) :: (nat_lit 360, TT.o_383 P) :: (nat_lit 361, TT.o_384 P) :: (nat_lit 363, TT.o_386 P) :: (nat_lit 364, TT.o_387 P) :: (nat_lit 365, TT.o_388 P) :: (nat_lit 367, TT.o_390 P) ::
  (nat_lit 368, TT.o_391 P) :: (nat_lit 370, TT.o_393 P) :: (nat_lit 371, TT.o_394 P) :: (nat_lit 372, TT.o_395 P) :: (nat_lit 374, TT.o_397 P) :: (nat_lit 375, TT.o_398 P) :: (nat_lit 377, TT.o_400 P) :: (nat_lit 378, TT.o_401 P) :: (nat_lit 379, TT.o_402 P) :: (nat_lit 381, TT.o_404 P) :: (nat_lit 382, TT.o_405 P) :: (nat_lit 384, TT.o_407 P) ::
  (nat_lit 385, TT.o_408 P) :: (nat_lit 386, TT.o_409 P) :: (nat_lit 387, TT.o_410 P) :: (nat_lit 388, TT.o_411 P) :: (nat_lit 389, TT.o_412 P) :: (nat_lit 390, TT.o_413 P) :: (nat_lit 393, TT.o_502 P) :: (nat_lit 395, TT.o_504 P) :: (nat_lit 396, TT.o_505 P) :: (nat_lit 398, TT.o_507 P) :: (nat_lit 399, TT.o_508 P) :: (nat_lit 400, TT.o_509 P) ::
  (nat_lit 402, TT.o_511 P) :: (nat_lit 403, TT.o_512 P) :: (nat_lit 405, TT.o_514 P) :: (nat_lit 406, TT.o_515 P) :: (nat_lit 407, TT.o_516 P) :: (nat_lit 409, TT.o_518 P) :: (nat_lit 410, TT.o_519 P) :: (nat_lit 412, TT.o_521 P) :: (nat_lit 413, TT.o_522 P) :: (nat_lit 414, TT.o_523 P) :: (nat_lit 416, TT.o_525 P) :: (nat_lit 417, TT.o_526 P) ::
  (nat_lit 419, TT.o_528 P) :: (nat_lit 420, TT.o_529 P) :: (nat_lit 421, TT.o_530 P) :: (nat_lit 424, TT.o_533 P) :: (nat_lit 425, TT.o_534 P) :: (nat_lit 426, TT.o_535 P) :: (nat_lit 428, TT.o_537 P) :: (nat_lit 429, TT.o_538 P) :: (nat_lit 431, TT.o_540 P) :: (nat_lit 432, TT.o_541 P) :: (nat_lit 433, TT.o_542 P) :: (nat_lit 436, TT.o_545 P) ::
  (nat_lit 437, TT.o_546 P) :: (nat_lit 438, TT.o_547 P) :: (nat_lit 441, TT.o_550 P) :: (nat_lit 442, TT.o_551 P) :: (nat_lit 443, TT.o_552 P) :: (nat_lit 446, TT.o_555 P) :: (nat_lit 447, TT.o_556 P) :: (nat_lit 448, TT.o_557 P) :: (nat_lit 451, TT.o_560 P) :: (nat_lit 452, TT.o_561 P) :: (nat_lit 453, TT.o_562 P) :: (nat_lit 455, TT.o_564 P) ::
  (nat_lit 456, TT.o_565 P) :: (nat_lit 458, TT.o_567 P) :: (nat_lit 459, TT.o_568 P) :: (nat_lit 460, TT.o_569 P) :: (nat_lit 462, TT.o_571 P) :: (nat_lit 463, TT.o_572 P) :: (nat_lit 465, TT.o_574 P) :: (nat_lit 466, TT.o_575 P) :: (nat_lit 467, TT.o_576 P) :: (nat_lit 469, TT.o_578 P) :: (nat_lit 470, TT.o_579 P) :: (nat_lit 472, TT.o_581 P) ::
  (nat_lit 473, TT.o_582 P) :: (nat_lit 474, TT.o_586 P) :: (nat_lit 476, TT.o_588 P) :: (nat_lit 477, TT.o_589 P) :: (nat_lit 479, TT.o_591 P) :: (nat_lit 480, TT.o_592 P) :: (nat_lit 481, TT.o_593 P) :: (nat_lit 483, TT.o_595 P) :: (nat_lit 484, TT.o_596 P) :: (nat_lit 486, TT.o_598 P) :: (nat_lit 487, TT.o_599 P) :: (nat_lit 488, TT.o_600 P) ::
  (nat_lit 491, TT.o_603 P) :: (nat_lit 492, TT.o_604 P) :: (nat_lit 493, TT.o_605 P) :: (nat_lit 495, TT.o_607 P) :: (nat_lit 496, TT.o_608 P) :: (nat_lit 498, TT.o_610 P) :: (nat_lit 499, TT.o_611 P) :: (nat_lit 500, TT.o_612 P) :: (nat_lit 503, TT.o_615 P) :: (nat_lit 504, TT.o_616 P) :: (nat_lit 505, TT.o_617 P) :: (nat_lit 507, TT.o_619 P) ::
  (nat_lit 508, TT.o_620 P) :: (nat_lit 510, TT.o_622 P) :: (nat_lit 511, TT.o_623 P) :: (nat_lit 512, TT.o_624 P) :: (nat_lit 514, TT.o_626 P) :: (nat_lit 515, TT.o_627 P) :: (nat_lit 517, TT.o_629 P) :: (nat_lit 518, TT.o_630 P) :: (nat_lit 519, TT.o_631 P) :: (nat_lit 522, TT.o_634 P) :: (nat_lit 523, TT.o_635 P) :: (nat_lit 524, TT.o_636 P) ::
  (nat_lit 527, TT.o_639 P) :: (nat_lit 528, TT.o_640 P) :: (nat_lit 529, TT.o_641 P) :: (nat_lit 532, TT.o_644 P) :: (nat_lit 533, TT.o_645 P) :: (nat_lit 534, TT.o_646 P) :: (nat_lit 536, TT.o_648 P) :: (nat_lit 537, TT.o_649 P) :: (nat_lit 539, TT.o_651 P) :: (nat_lit 540, TT.o_652 P) :: (nat_lit 541, TT.o_653 P) :: (nat_lit 544, TT.o_656 P) ::
  (nat_lit 545, TT.o_657 P) :: (nat_lit 546, TT.o_658 P) :: (nat_lit 549, TT.o_661 P) :: (nat_lit 550, TT.o_662 P) :: (nat_lit 551, TT.o_663 P) :: (nat_lit 553, TT.o_665 P) :: (nat_lit 554, TT.o_666 P) :: (nat_lit 556, TT.o_668 P) :: (nat_lit 557, TT.o_669 P) :: (nat_lit 558, TT.o_673 P) :: (nat_lit 560, TT.o_675 P) :: (nat_lit 561, TT.o_676 P) ::
  (nat_lit 563, TT.o_678 P) :: (nat_lit 564, TT.o_679 P) :: (nat_lit 565, TT.o_680 P) :: (nat_lit 568, TT.o_683 P) :: (nat_lit 569, TT.o_684 P) :: (nat_lit 570, TT.o_685 P) :: (nat_lit 573, TT.o_688 P) :: (nat_lit 574, TT.o_689 P) :: (nat_lit 575, TT.o_690 P) :: (nat_lit 577, TT.o_692 P) :: (nat_lit 578, TT.o_693 P) :: (nat_lit 580, TT.o_695 P) ::
  (nat_lit 581, TT.o_696 P) :: (nat_lit 582, TT.o_697 P) :: (nat_lit 584, TT.o_699 P) :: (nat_lit 585, TT.o_700 P) :: (nat_lit 587, TT.o_702 P) :: (nat_lit 588, TT.o_703 P) :: (nat_lit 589, TT.o_704 P) :: (nat_lit 592, TT.o_707 P) :: (nat_lit 593, TT.o_708 P) :: (nat_lit 594, TT.o_709 P) :: (nat_lit 597, TT.o_712 P) :: (nat_lit 598, TT.o_713 P) :: []
def KA : List Addr := [2, 3, 15, 17, 18, 20, 21, 22, 24, 25, 27, 28, 29, 36, 37, 38, 39, 42, 45, 50, 51, 53, 54, 56, 57, 58, 59, 60, 63, 66, 71, 72, 74, 75, 77, 78, 79, 80, 81, 84, 91, 92, 93, 94, 97, 100, 105, 106, 108, 109, 111, 112, 113, 114, 115, 118, 121, 122, 123, 124, 126, 127, 129, 130, 138, 140, 141, 143, 144, 145, 147, 148, 150, 151, 152, 154, 155, 157, 158, 159, 161, 162, 164, 165, 166, 168, 169, 171, 172, 173, 174, 175, 176, 177, 180, 182, 183, 185, 186, 187, 190, 191, 192, 194, 195, 197, 198, 199, 206, 208, 209, 211, 212, 213, 215, 216, 218, 219, 220, 223, 224, 225, 227, 228, 230, 231, 232, 234, 235, 237, 238, 239, 241, 242, 244, 245, 246, 248, 249, 251, 252, 253, 254, 255, 258, 260, 261, 263, 264, 265, 268, 269, 277, 280, 281, 282, 284, 285, 287, 288, 289, 291, 292, 294, 295, 296, 297, 298, 301, 302, 303, 305, 306, 308, 309, 310, 312, 313, 315, 316, 317, 318, 320, 321, 323, 324, 325, 327, 328, 330, 331, 332, 333, 334, 336, 337, 339, 340, 341, 344, 345, 346, 349, 350, 351, 353, 354, 356, 357, 358, 360, 361, 363, 364, 365, 367, 368, 370, 371, 372, 374, 375, 377, 378, 379, 381, 382, 384, 385, 386, 387, 388, 389, 390, 393, 395, 396, 398, 399, 400, 402, 403, 405, 406, 407, 409, 410, 412, 413, 414, 416, 417, 419, 420, 421, 424, 425, 426, 428, 429, 431, 432, 433, 436, 437, 438, 441, 442, 443, 446, 447, 448, 451, 452, 453, 455, 456, 458, 459, 460, 462, 463, 465, 466, 467, 469, 470, 472, 473, 474, 476, 477, 479, 480, 481, 483, 484, 486, 487, 488, 491, 492, 493, 495, 496, 498, 499, 500, 503, 504, 505, 507, 508, 510, 511, 512, 514, 515, 517, 518, 519, 522, 523, 524, 527, 528, 529, 532, 533, 534, 536, 537, 539, 540, 541, 544, 545, 546, 549, 550, 551, 553, 554, 556, 557, 558, 560, 561, 563, 564, 565, 568, 569, 570, 573, 574, 575, 577, 578, 580, 581, 582, 584, 585, 587, 588, 589, 592, 593, 594, 597, 598]
def VW : Program := view PySem.Challenge.pw_feeblind_k73_whole_open_read_goes_throug [0, 2, 3, 4, 5, 6, 7, 9, 10, 13, 15, 16, 17, 18, 20, 22, 23, 25, 26, 27, 28, 29, 30, 31, 32, 33, 34, 35, 36, 37, 38, 39, 40, 41, 42, 43, 44, 45, 46, 47, 48, 49, 50, 51, 52, 53, 54, 55, 56, 57, 58]
def KL : List PySem.Str := ["is_number", "OpenTable"]
noncomputable def SF (w : World) (os : OsState) : SharedT := ⟨TT.tree_713 w.params, 599, { }, { toList := [] }, { }, 940, os⟩
abbrev XW (s : Shared) : Bool := xlAt VW [] s && recOk [] s
abbrev MW : List PySem.Str := importedModules (PySem.Challenge.pw_feeblind_k73_whole_open_read_goes_throug).main.body
theorem fin_all (w : World) (os : OsState) : goF (stepQ (denQ tabQ) PySem.Challenge.pw_feeblind_k73_whole_open_read_goes_throug w) 11 (some (Value.ref 6)) 80 (SF w os) (restOf [] TT.env_1 (.body (behindTheImports PySem.Challenge.pw_feeblind_k73_whole_open_read_goes_throug) TT.env_1) { line := 433, col := 0, endLine := 452, endCol := 15 } [topFrame { line := 0, col := 0, endLine := 0, endCol := 0 }]) = some (SF w os) := by kernel_rfl
theorem f1_all (w : World) (os : OsState) : staticsOk MW (boot_heap w.params) (SF w os).abs.heap = true := by kernel_rfl
theorem f2_all (w : World) (os : OsState) : namesBound PySem.Challenge.pw_feeblind_k73_whole_open_read_goes_throug (SF w os).abs.heap = true := by kernel_rfl
theorem f4_all (w : World) (os : OsState) : laidKept (boot_heap w.params) (SF w os).abs.heap = true := by kernel_rfl
theorem s1_all (w : World) (os : OsState) : (seenQ VW KL MW XW (SF w os).abs).1 = expectedOf VW := by kernel_rfl
theorem s2_all (w : World) (os : OsState) : (seenQ VW KL MW XW (SF w os).abs).2.1 = bltViewBooted := by kernel_rfl
theorem s3_all (w : World) (os : OsState) : (seenQ VW KL MW XW (SF w os).abs).2.2.1 = true := by kernel_rfl
theorem s4_all (w : World) (os : OsState) : (seenQ VW KL MW XW (SF w os).abs).2.2.2.1 = true := by kernel_rfl
theorem s5_all (w : World) (os : OsState) : (seenQ VW KL MW XW (SF w os).abs).2.2.2.2.1 = pinGoodD (drecsOf VW) := by kernel_rfl
theorem s6_0 (w : World) (os : OsState) : chL 0 1 (seenQ VW KL MW XW (SF w os).abs).2.2.2.2.2.1 = chR 0 1 (plainGoodE VW (looseW VW KL)) := by kernel_rfl
theorem s6_1 (w : World) (os : OsState) : chL 1 1 (seenQ VW KL MW XW (SF w os).abs).2.2.2.2.2.1 = chR 1 1 (plainGoodE VW (looseW VW KL)) := by kernel_rfl
theorem s6_2 (w : World) (os : OsState) : chL 2 1 (seenQ VW KL MW XW (SF w os).abs).2.2.2.2.2.1 = chR 2 1 (plainGoodE VW (looseW VW KL)) := by kernel_rfl
theorem s6_3 (w : World) (os : OsState) : chL 3 1 (seenQ VW KL MW XW (SF w os).abs).2.2.2.2.2.1 = chR 3 1 (plainGoodE VW (looseW VW KL)) := by kernel_rfl
theorem s6_4 (w : World) (os : OsState) : chL 4 1 (seenQ VW KL MW XW (SF w os).abs).2.2.2.2.2.1 = chR 4 1 (plainGoodE VW (looseW VW KL)) := by kernel_rfl
theorem s6_5 (w : World) (os : OsState) : chL 5 1 (seenQ VW KL MW XW (SF w os).abs).2.2.2.2.2.1 = chR 5 1 (plainGoodE VW (looseW VW KL)) := by kernel_rfl
theorem s6_6 (w : World) (os : OsState) : chL 6 1 (seenQ VW KL MW XW (SF w os).abs).2.2.2.2.2.1 = chR 6 1 (plainGoodE VW (looseW VW KL)) := by kernel_rfl
theorem s6_7 (w : World) (os : OsState) : chL 7 1 (seenQ VW KL MW XW (SF w os).abs).2.2.2.2.2.1 = chR 7 1 (plainGoodE VW (looseW VW KL)) := by kernel_rfl
theorem s6_8 (w : World) (os : OsState) : chL 8 1 (seenQ VW KL MW XW (SF w os).abs).2.2.2.2.2.1 = chR 8 1 (plainGoodE VW (looseW VW KL)) := by kernel_rfl
theorem s6_9 (w : World) (os : OsState) : chL 9 1 (seenQ VW KL MW XW (SF w os).abs).2.2.2.2.2.1 = chR 9 1 (plainGoodE VW (looseW VW KL)) := by kernel_rfl
theorem s6_10 (w : World) (os : OsState) : chL 10 1 (seenQ VW KL MW XW (SF w os).abs).2.2.2.2.2.1 = chR 10 1 (plainGoodE VW (looseW VW KL)) := by kernel_rfl
theorem s6_11 (w : World) (os : OsState) : chL 11 1 (seenQ VW KL MW XW (SF w os).abs).2.2.2.2.2.1 = chR 11 1 (plainGoodE VW (looseW VW KL)) := by kernel_rfl
theorem s6_12 (w : World) (os : OsState) : chL 12 100 (seenQ VW KL MW XW (SF w os).abs).2.2.2.2.2.1 = chR 12 100 (plainGoodE VW (looseW VW KL)) := by kernel_rfl
theorem s6_all (w : World) (os : OsState) : (seenQ VW KL MW XW (SF w os).abs).2.2.2.2.2.1 = (plainGoodE VW (looseW VW KL)) := ch_all (ch_step 0 111 (s6_0 w os) (ch_step 1 110 (s6_1 w os) (ch_step 2 109 (s6_2 w os) (ch_step 3 108 (s6_3 w os) (ch_step 4 107 (s6_4 w os) (ch_step 5 106 (s6_5 w os) (ch_step 6 105 (s6_6 w os) (ch_step 7 104 (s6_7 w os) (ch_step 8 103 (s6_8 w os) (ch_step 9 102 (s6_9 w os) (ch_step 10 101 (s6_10 w os) (ch_step 11 100 (s6_11 w os) (s6_12 w os))))))))))))) (Nat.le_of_ble_eq_true (by kernel_rfl)) (Nat.le_of_ble_eq_true (by kernel_rfl))
theorem s7_all (w : World) (os : OsState) : (seenQ VW KL MW XW (SF w os).abs).2.2.2.2.2.2.1 = plainGoodD VW KL := by kernel_rfl
theorem s8_all (w : World) (os : OsState) : (seenQ VW KL MW XW (SF w os).abs).2.2.2.2.2.2.2.1 = wideGood VW := by kernel_rfl
theorem s9_all (w : World) (os : OsState) : (seenQ VW KL MW XW (SF w os).abs).2.2.2.2.2.2.2.2 = clsGoodW VW KL := by kernel_rfl
theorem ks_all (w : World) (os : OsState) : KA.map (getT (SF w os)) = (KF w.params).map fun x => some x.2 := by kernel_rfl
theorem left_all : LeftO PySem.Challenge.pw_feeblind_k73_whole_open_read_goes_throug VW KL (fun s => xlAt VW [] s && recOk [] s) (Hook.obs (kHook KF KA (fun _ => by kernel_rfl))) (Hook.val (kHook KF KA (fun _ => by kernel_rfl))) 10004 true :=
  left_cut2 (m := 12) (L := 80) (Sf := SF) (by kernel_rfl) (by rfl) (fun _ => by kernel_rfl) (fun _ => by kernel_rfl) (fun _ => by kernel_rfl)
    (fun _ _ => by kernel_rfl) (fun _ _ => by kernel_rfl) (by kernel_rfl) (fun w os n r => TT.chain PySem.Challenge.pw_feeblind_k73_whole_open_read_goes_throug (behindTheImports PySem.Challenge.pw_feeblind_k73_whole_open_read_goes_throug) w os [] n r)
    fin_all f1_all f2_all (fun _ _ => by kernel_rfl) f4_all (fun w os => tup9 (s1_all w os) (s2_all w os) (s3_all w os) (s4_all w os) (s5_all w os) (s6_all w os) (s7_all w os) (s8_all w os) (s9_all w os)) ks_all (by kernel_rfl)
end Fb
set_option Elab.async false
set_option linter.all false
set_option maxRecDepth 100000
set_option maxHeartbeats 4000000
namespace Fb
open PySem PySem.Spec L2
open PyProof.Rows hiding St
open C8 (Cal Met Mak Def cal0 met0 mak0 pe_c pe_mk pe_mt pe_mt0 fnScope fnBody fnArgs pss_cut tCut)
theorem all_mk {l : PySem.W.OpenLaw} {w : World} {K : PySem.W.Frag} {h : Heap} {mg : Str → Option Value} {fa C_Open C_OpenTable f1 f2 t2 f3 f4 f5 f6 f7 f8 f9 f10 f11 f12 f13 f14 f15 f16 f17 f18 f19 f20 f21 f22 f23 f24 f25 f26 f27 f28 f29 f30 f31 f32 f33 f34 f35 f36 f37 f38 f39 f40 f41 D41 A_OpenTable_reading f42 : Addr} {od1 an1 : Option Addr} {sl1 : Array (Option Value)} {oc1 kV1 dc1 pm1 cd1 ct1 : Value}
    {od2 an2 : Option Addr} {sl2 : Array (Option Value)} {oc2 kV2 dc2 pm2 cd2 ct2 : Value}
    {dt2_0 : Tok}
    {to2 : Value} {td2 : Option Addr} {tn2 : Nat} {ts2 : Array (Option Value)}
    {od3 an3 : Option Addr} {sl3 : Array (Option Value)} {oc3 kV3 dc3 pm3 cd3 ct3 : Value}
    {od4 an4 : Option Addr} {sl4 : Array (Option Value)} {oc4 kV4 dc4 pm4 cd4 ct4 : Value}
    {od5 an5 : Option Addr} {sl5 : Array (Option Value)} {oc5 kV5 dc5 pm5 cd5 ct5 : Value}
    {od6 an6 : Option Addr} {sl6 : Array (Option Value)} {oc6 kV6 dc6 pm6 cd6 ct6 : Value}
    {od7 an7 : Option Addr} {sl7 : Array (Option Value)} {oc7 kV7 dc7 pm7 cd7 ct7 : Value}
    {od8 an8 : Option Addr} {sl8 : Array (Option Value)} {oc8 kV8 dc8 pm8 cd8 ct8 : Value}
    {od9 an9 : Option Addr} {sl9 : Array (Option Value)} {oc9 kV9 dc9 pm9 cd9 ct9 : Value}
    {od10 an10 : Option Addr} {sl10 : Array (Option Value)} {oc10 kV10 dc10 pm10 cd10 ct10 : Value}
    {od11 an11 : Option Addr} {sl11 : Array (Option Value)} {oc11 kV11 dc11 pm11 cd11 ct11 : Value}
    {od12 an12 : Option Addr} {sl12 : Array (Option Value)} {oc12 kV12 dc12 pm12 cd12 ct12 : Value}
    {od13 an13 : Option Addr} {sl13 : Array (Option Value)} {oc13 kV13 dc13 pm13 cd13 ct13 : Value}
    {od14 an14 : Option Addr} {sl14 : Array (Option Value)} {oc14 kV14 dc14 pm14 cd14 ct14 : Value}
    {od15 an15 : Option Addr} {sl15 : Array (Option Value)} {oc15 kV15 dc15 pm15 cd15 ct15 : Value}
    {od16 an16 : Option Addr} {sl16 : Array (Option Value)} {oc16 kV16 dc16 pm16 cd16 ct16 : Value}
    {od17 an17 : Option Addr} {sl17 : Array (Option Value)} {oc17 kV17 dc17 pm17 cd17 ct17 : Value}
    {od18 an18 : Option Addr} {sl18 : Array (Option Value)} {oc18 kV18 dc18 pm18 cd18 ct18 : Value}
    {od19 an19 : Option Addr} {sl19 : Array (Option Value)} {oc19 kV19 dc19 pm19 cd19 ct19 : Value}
    {od20 an20 : Option Addr} {sl20 : Array (Option Value)} {oc20 kV20 dc20 pm20 cd20 ct20 : Value}
    {od21 an21 : Option Addr} {sl21 : Array (Option Value)} {oc21 kV21 dc21 pm21 cd21 ct21 : Value}
    {od22 an22 : Option Addr} {sl22 : Array (Option Value)} {oc22 kV22 dc22 pm22 cd22 ct22 : Value}
    {od23 an23 : Option Addr} {sl23 : Array (Option Value)} {oc23 kV23 dc23 pm23 cd23 ct23 : Value}
    {od24 an24 : Option Addr} {sl24 : Array (Option Value)} {oc24 kV24 dc24 pm24 cd24 ct24 : Value}
    {od25 an25 : Option Addr} {sl25 : Array (Option Value)} {oc25 kV25 dc25 pm25 cd25 ct25 : Value}
    {od26 an26 : Option Addr} {sl26 : Array (Option Value)} {oc26 kV26 dc26 pm26 cd26 ct26 : Value}
    {od27 an27 : Option Addr} {sl27 : Array (Option Value)} {oc27 kV27 dc27 pm27 cd27 ct27 : Value}
    {od28 an28 : Option Addr} {sl28 : Array (Option Value)} {oc28 kV28 dc28 pm28 cd28 ct28 : Value}
    {od29 an29 : Option Addr} {sl29 : Array (Option Value)} {oc29 kV29 dc29 pm29 cd29 ct29 : Value}
    {od30 an30 : Option Addr} {sl30 : Array (Option Value)} {oc30 kV30 dc30 pm30 cd30 ct30 : Value}
    {od31 an31 : Option Addr} {sl31 : Array (Option Value)} {oc31 kV31 dc31 pm31 cd31 ct31 : Value}
    {od32 an32 : Option Addr} {sl32 : Array (Option Value)} {oc32 kV32 dc32 pm32 cd32 ct32 : Value}
    {od33 an33 : Option Addr} {sl33 : Array (Option Value)} {oc33 kV33 dc33 pm33 cd33 ct33 : Value}
    {od34 an34 : Option Addr} {sl34 : Array (Option Value)} {oc34 kV34 dc34 pm34 cd34 ct34 : Value}
    {od35 an35 : Option Addr} {sl35 : Array (Option Value)} {oc35 kV35 dc35 pm35 cd35 ct35 : Value}
    {od36 an36 : Option Addr} {sl36 : Array (Option Value)} {oc36 kV36 dc36 pm36 cd36 ct36 : Value}
    {od37 an37 : Option Addr} {sl37 : Array (Option Value)} {oc37 kV37 dc37 pm37 cd37 ct37 : Value}
    {od38 an38 : Option Addr} {sl38 : Array (Option Value)} {oc38 kV38 dc38 pm38 cd38 ct38 : Value}
    {od39 an39 : Option Addr} {sl39 : Array (Option Value)} {oc39 kV39 dc39 pm39 cd39 ct39 : Value}
    {od40 an40 : Option Addr} {sl40 : Array (Option Value)} {oc40 kV40 dc40 pm40 cd40 ct40 : Value}
    {od41 an41 : Option Addr} {sl41 : Array (Option Value)} {oc41 dc41 pm41 cd41 ct41 : Value} {td41 : Option Addr} {tn41 : Nat} {ts41 : Array (Option Value)}
    {od42 an42 : Option Addr} {sl42 : Array (Option Value)} {oc42 kV42 dc42 pm42 cd42 ct42 : Value}
    {g0 : Tok}
    (X : K.In h) (G : h.Ns mainGlobals mg) (hfa : mg "law" = some (.ref fa))
    (aC_Open : PySem.W.nsIn K mainGlobals "Open" = some (some (.ref C_Open)))
    (pg_Open : PySem.W.plainGet K C_Open Str.empty = true)
    (hd_Open : PySem.W.hasDictIn K C_Open = true)
    (po_Open : PySem.W.plainOver K C_Open = true)
    (sa_Open : PySem.W.findIn K (.ref C_Open) "__setattr__" = some (some (.builtin "object.__setattr__")))
    (mk_Open : PySem.W.makesIn K C_Open = true)
    (kC_Open : PySem.W.keepIn K (.ref C_Open) = true)
    (nwish_Open : PySem.W.findIn K (.ref C_Open) "wish" = some none)
    (nstay_Open : PySem.W.findIn K (.ref C_Open) "stay" = some none)
    (aC_OpenTable : PySem.W.nsIn K mainGlobals "OpenTable" = some (some (.ref C_OpenTable)))
    (pg_OpenTable : PySem.W.plainGet K C_OpenTable Str.empty = true)
    (hd_OpenTable : PySem.W.hasDictIn K C_OpenTable = true)
    (po_OpenTable : PySem.W.plainOver K C_OpenTable = true)
    (sa_OpenTable : PySem.W.findIn K (.ref C_OpenTable) "__setattr__" = some (some (.builtin "object.__setattr__")))
    (mk_OpenTable : PySem.W.makesIn K C_OpenTable = true)
    (kC_OpenTable : PySem.W.keepIn K (.ref C_OpenTable) = true)
    (n_doubts_OpenTable : PySem.W.findIn K (.ref C_OpenTable) "_doubts" = some none)
    (n_rows_OpenTable : PySem.W.findIn K (.ref C_OpenTable) "_rows" = some none)
    (a1 : PySem.W.nsIn K mainGlobals "is_name" = some (some (.ref f1)))
    (l1 : K.lookup f1 = some ⟨oc1, od1, .func (PySem.W.fnOf "is_name" "is_name" (fnArgs s_is_name) (fnBody s_is_name) (fnScope s_is_name) .none kV1 dc1 pm1 an1 cd1 ct1), sl1⟩)
    (c1 : PySem.W.codeIn K cd1 "is_name" = true)
    (k1 : PySem.W.keepIn K (.ref f1) = true)
    (a2 : PySem.W.nsIn K mainGlobals "is_number" = some (some (.ref f2)))
    (l2 : K.lookup f2 = some ⟨oc2, od2, .func (PySem.W.fnOf "is_number" "is_number" (fnArgs s_is_number) (fnBody s_is_number) (fnScope s_is_number) (.ref t2) kV2 dc2 pm2 an2 cd2 ct2), sl2⟩)
    (c2 : PySem.W.codeIn K cd2 "is_number" = true)
    (k2 : PySem.W.keepIn K (.ref f2) = true)
    (d2 : K.lookup t2 = some ⟨to2, td2, .seq #[.int 0 dt2_0, .none] tn2, ts2⟩)
    (a3 : PySem.W.nsIn K mainGlobals "covers" = some (some (.ref f3)))
    (l3 : K.lookup f3 = some ⟨oc3, od3, .func (PySem.W.fnOf "covers" "covers" (fnArgs s_covers) (fnBody s_covers) (fnScope s_covers) .none kV3 dc3 pm3 an3 cd3 ct3), sl3⟩)
    (c3 : PySem.W.codeIn K cd3 "covers" = true)
    (k3 : PySem.W.keepIn K (.ref f3) = true)
    (a4 : PySem.W.nsIn K mainGlobals "thin_open" = some (some (.ref f4)))
    (l4 : K.lookup f4 = some ⟨oc4, od4, .func (PySem.W.fnOf "thin_open" "thin_open" (fnArgs s_thin_open) (fnBody s_thin_open) (fnScope s_thin_open) .none kV4 dc4 pm4 an4 cd4 ct4), sl4⟩)
    (c4 : PySem.W.codeIn K cd4 "thin_open" = true)
    (k4 : PySem.W.keepIn K (.ref f4) = true)
    (a5 : PySem.W.nsIn K mainGlobals "any_covers" = some (some (.ref f5)))
    (l5 : K.lookup f5 = some ⟨oc5, od5, .func (PySem.W.fnOf "any_covers" "any_covers" (fnArgs s_any_covers) (fnBody s_any_covers) (fnScope s_any_covers) .none kV5 dc5 pm5 an5 cd5 ct5), sl5⟩)
    (c5 : PySem.W.codeIn K cd5 "any_covers" = true)
    (k5 : PySem.W.keepIn K (.ref f5) = true)
    (a6 : PySem.W.nsIn K mainGlobals "is_one_of" = some (some (.ref f6)))
    (l6 : K.lookup f6 = some ⟨oc6, od6, .func (PySem.W.fnOf "is_one_of" "is_one_of" (fnArgs s_is_one_of) (fnBody s_is_one_of) (fnScope s_is_one_of) .none kV6 dc6 pm6 an6 cd6 ct6), sl6⟩)
    (c6 : PySem.W.codeIn K cd6 "is_one_of" = true)
    (k6 : PySem.W.keepIn K (.ref f6) = true)
    (a7 : PySem.W.nsIn K mainGlobals "price_of" = some (some (.ref f7)))
    (l7 : K.lookup f7 = some ⟨oc7, od7, .func (PySem.W.fnOf "price_of" "price_of" (fnArgs s_price_of) (fnBody s_price_of) (fnScope s_price_of) .none kV7 dc7 pm7 an7 cd7 ct7), sl7⟩)
    (c7 : PySem.W.codeIn K cd7 "price_of" = true)
    (k7 : PySem.W.keepIn K (.ref f7) = true)
    (a8 : PySem.W.nsIn K mainGlobals "_law_bag" = some (some (.ref f8)))
    (l8 : K.lookup f8 = some ⟨oc8, od8, .func (PySem.W.fnOf "_law_bag" "_law_bag" (fnArgs s__law_bag) (fnBody s__law_bag) (fnScope s__law_bag) .none kV8 dc8 pm8 an8 cd8 ct8), sl8⟩)
    (c8 : PySem.W.codeIn K cd8 "_law_bag" = true)
    (k8 : PySem.W.keepIn K (.ref f8) = true)
    (a9 : PySem.W.nsIn K mainGlobals "_law_draw" = some (some (.ref f9)))
    (l9 : K.lookup f9 = some ⟨oc9, od9, .func (PySem.W.fnOf "_law_draw" "_law_draw" (fnArgs s__law_draw) (fnBody s__law_draw) (fnScope s__law_draw) .none kV9 dc9 pm9 an9 cd9 ct9), sl9⟩)
    (c9 : PySem.W.codeIn K cd9 "_law_draw" = true)
    (k9 : PySem.W.keepIn K (.ref f9) = true)
    (a10 : PySem.W.nsIn K mainGlobals "_law_of" = some (some (.ref f10)))
    (l10 : K.lookup f10 = some ⟨oc10, od10, .func (PySem.W.fnOf "_law_of" "_law_of" (fnArgs s__law_of) (fnBody s__law_of) (fnScope s__law_of) .none kV10 dc10 pm10 an10 cd10 ct10), sl10⟩)
    (c10 : PySem.W.codeIn K cd10 "_law_of" = true)
    (k10 : PySem.W.keepIn K (.ref f10) = true)
    (a11 : PySem.W.nsIn K mainGlobals "_law_turned" = some (some (.ref f11)))
    (l11 : K.lookup f11 = some ⟨oc11, od11, .func (PySem.W.fnOf "_law_turned" "_law_turned" (fnArgs s__law_turned) (fnBody s__law_turned) (fnScope s__law_turned) .none kV11 dc11 pm11 an11 cd11 ct11), sl11⟩)
    (c11 : PySem.W.codeIn K cd11 "_law_turned" = true)
    (k11 : PySem.W.keepIn K (.ref f11) = true)
    (a12 : PySem.W.nsIn K mainGlobals "_law_like" = some (some (.ref f12)))
    (l12 : K.lookup f12 = some ⟨oc12, od12, .func (PySem.W.fnOf "_law_like" "_law_like" (fnArgs s__law_like) (fnBody s__law_like) (fnScope s__law_like) .none kV12 dc12 pm12 an12 cd12 ct12), sl12⟩)
    (c12 : PySem.W.codeIn K cd12 "_law_like" = true)
    (k12 : PySem.W.keepIn K (.ref f12) = true)
    (a13 : PySem.W.nsIn K mainGlobals "_law_is_number" = some (some (.ref f13)))
    (l13 : K.lookup f13 = some ⟨oc13, od13, .func (PySem.W.fnOf "_law_is_number" "_law_is_number" (fnArgs s__law_is_number) (fnBody s__law_is_number) (fnScope s__law_is_number) .none kV13 dc13 pm13 an13 cd13 ct13), sl13⟩)
    (c13 : PySem.W.codeIn K cd13 "_law_is_number" = true)
    (k13 : PySem.W.keepIn K (.ref f13) = true)
    (a14 : PySem.W.nsIn K mainGlobals "_law_is_title" = some (some (.ref f14)))
    (l14 : K.lookup f14 = some ⟨oc14, od14, .func (PySem.W.fnOf "_law_is_title" "_law_is_title" (fnArgs s__law_is_title) (fnBody s__law_is_title) (fnScope s__law_is_title) .none kV14 dc14 pm14 an14 cd14 ct14), sl14⟩)
    (c14 : PySem.W.codeIn K cd14 "_law_is_title" = true)
    (k14 : PySem.W.keepIn K (.ref f14) = true)
    (a15 : PySem.W.nsIn K mainGlobals "_law_over" = some (some (.ref f15)))
    (l15 : K.lookup f15 = some ⟨oc15, od15, .func (PySem.W.fnOf "_law_over" "_law_over" (fnArgs s__law_over) (fnBody s__law_over) (fnScope s__law_over) .none kV15 dc15 pm15 an15 cd15 ct15), sl15⟩)
    (c15 : PySem.W.codeIn K cd15 "_law_over" = true)
    (k15 : PySem.W.keepIn K (.ref f15) = true)
    (a16 : PySem.W.nsIn K mainGlobals "_law_open" = some (some (.ref f16)))
    (l16 : K.lookup f16 = some ⟨oc16, od16, .func (PySem.W.fnOf "_law_open" "_law_open" (fnArgs s__law_open) (fnBody s__law_open) (fnScope s__law_open) .none kV16 dc16 pm16 an16 cd16 ct16), sl16⟩)
    (c16 : PySem.W.codeIn K cd16 "_law_open" = true)
    (k16 : PySem.W.keepIn K (.ref f16) = true)
    (a17 : PySem.W.nsIn K mainGlobals "_law_pairs" = some (some (.ref f17)))
    (l17 : K.lookup f17 = some ⟨oc17, od17, .func (PySem.W.fnOf "_law_pairs" "_law_pairs" (fnArgs s__law_pairs) (fnBody s__law_pairs) (fnScope s__law_pairs) .none kV17 dc17 pm17 an17 cd17 ct17), sl17⟩)
    (c17 : PySem.W.codeIn K cd17 "_law_pairs" = true)
    (k17 : PySem.W.keepIn K (.ref f17) = true)
    (a18 : PySem.W.nsIn K mainGlobals "_law_fee" = some (some (.ref f18)))
    (l18 : K.lookup f18 = some ⟨oc18, od18, .func (PySem.W.fnOf "_law_fee" "_law_fee" (fnArgs s__law_fee) (fnBody s__law_fee) (fnScope s__law_fee) .none kV18 dc18 pm18 an18 cd18 ct18), sl18⟩)
    (c18 : PySem.W.codeIn K cd18 "_law_fee" = true)
    (k18 : PySem.W.keepIn K (.ref f18) = true)
    (a19 : PySem.W.nsIn K mainGlobals "_law_row" = some (some (.ref f19)))
    (l19 : K.lookup f19 = some ⟨oc19, od19, .func (PySem.W.fnOf "_law_row" "_law_row" (fnArgs s__law_row) (fnBody s__law_row) (fnScope s__law_row) .none kV19 dc19 pm19 an19 cd19 ct19), sl19⟩)
    (c19 : PySem.W.codeIn K cd19 "_law_row" = true)
    (k19 : PySem.W.keepIn K (.ref f19) = true)
    (a20 : PySem.W.nsIn K mainGlobals "_law_tuple_of" = some (some (.ref f20)))
    (l20 : K.lookup f20 = some ⟨oc20, od20, .func (PySem.W.fnOf "_law_tuple_of" "_law_tuple_of" (fnArgs s__law_tuple_of) (fnBody s__law_tuple_of) (fnScope s__law_tuple_of) .none kV20 dc20 pm20 an20 cd20 ct20), sl20⟩)
    (c20 : PySem.W.codeIn K cd20 "_law_tuple_of" = true)
    (k20 : PySem.W.keepIn K (.ref f20) = true)
    (a21 : PySem.W.nsIn K mainGlobals "_law_is" = some (some (.ref f21)))
    (l21 : K.lookup f21 = some ⟨oc21, od21, .func (PySem.W.fnOf "_law_is" "_law_is" (fnArgs s__law_is) (fnBody s__law_is) (fnScope s__law_is) .none kV21 dc21 pm21 an21 cd21 ct21), sl21⟩)
    (c21 : PySem.W.codeIn K cd21 "_law_is" = true)
    (k21 : PySem.W.keepIn K (.ref f21) = true)
    (a22 : PySem.W.nsIn K mainGlobals "_law_tree" = some (some (.ref f22)))
    (l22 : K.lookup f22 = some ⟨oc22, od22, .func (PySem.W.fnOf "_law_tree" "_law_tree" (fnArgs s__law_tree) (fnBody s__law_tree) (fnScope s__law_tree) .none kV22 dc22 pm22 an22 cd22 ct22), sl22⟩)
    (c22 : PySem.W.codeIn K cd22 "_law_tree" = true)
    (k22 : PySem.W.keepIn K (.ref f22) = true)
    (a23 : PySem.W.nsIn K mainGlobals "_law_by_program" = some (some (.ref f23)))
    (l23 : K.lookup f23 = some ⟨oc23, od23, .func (PySem.W.fnOf "_law_by_program" "_law_by_program" (fnArgs s__law_by_program) (fnBody s__law_by_program) (fnScope s__law_by_program) .none kV23 dc23 pm23 an23 cd23 ct23), sl23⟩)
    (c23 : PySem.W.codeIn K cd23 "_law_by_program" = true)
    (k23 : PySem.W.keepIn K (.ref f23) = true)
    (a24 : PySem.W.nsIn K mainGlobals "_law_row_then" = some (some (.ref f24)))
    (l24 : K.lookup f24 = some ⟨oc24, od24, .func (PySem.W.fnOf "_law_row_then" "_law_row_then" (fnArgs s__law_row_then) (fnBody s__law_row_then) (fnScope s__law_row_then) .none kV24 dc24 pm24 an24 cd24 ct24), sl24⟩)
    (c24 : PySem.W.codeIn K cd24 "_law_row_then" = true)
    (k24 : PySem.W.keepIn K (.ref f24) = true)
    (a25 : PySem.W.nsIn K mainGlobals "_law_split" = some (some (.ref f25)))
    (l25 : K.lookup f25 = some ⟨oc25, od25, .func (PySem.W.fnOf "_law_split" "_law_split" (fnArgs s__law_split) (fnBody s__law_split) (fnScope s__law_split) .none kV25 dc25 pm25 an25 cd25 ct25), sl25⟩)
    (c25 : PySem.W.codeIn K cd25 "_law_split" = true)
    (k25 : PySem.W.keepIn K (.ref f25) = true)
    (a26 : PySem.W.nsIn K mainGlobals "_law_raw" = some (some (.ref f26)))
    (l26 : K.lookup f26 = some ⟨oc26, od26, .func (PySem.W.fnOf "_law_raw" "_law_raw" (fnArgs s__law_raw) (fnBody s__law_raw) (fnScope s__law_raw) .none kV26 dc26 pm26 an26 cd26 ct26), sl26⟩)
    (c26 : PySem.W.codeIn K cd26 "_law_raw" = true)
    (k26 : PySem.W.keepIn K (.ref f26) = true)
    (a27 : PySem.W.nsIn K mainGlobals "_law_fits_rows" = some (some (.ref f27)))
    (l27 : K.lookup f27 = some ⟨oc27, od27, .func (PySem.W.fnOf "_law_fits_rows" "_law_fits_rows" (fnArgs s__law_fits_rows) (fnBody s__law_fits_rows) (fnScope s__law_fits_rows) .none kV27 dc27 pm27 an27 cd27 ct27), sl27⟩)
    (c27 : PySem.W.codeIn K cd27 "_law_fits_rows" = true)
    (k27 : PySem.W.keepIn K (.ref f27) = true)
    (a28 : PySem.W.nsIn K mainGlobals "_law_joinings" = some (some (.ref f28)))
    (l28 : K.lookup f28 = some ⟨oc28, od28, .func (PySem.W.fnOf "_law_joinings" "_law_joinings" (fnArgs s__law_joinings) (fnBody s__law_joinings) (fnScope s__law_joinings) .none kV28 dc28 pm28 an28 cd28 ct28), sl28⟩)
    (c28 : PySem.W.codeIn K cd28 "_law_joinings" = true)
    (k28 : PySem.W.keepIn K (.ref f28) = true)
    (a29 : PySem.W.nsIn K mainGlobals "_law_small_tree" = some (some (.ref f29)))
    (l29 : K.lookup f29 = some ⟨oc29, od29, .func (PySem.W.fnOf "_law_small_tree" "_law_small_tree" (fnArgs s__law_small_tree) (fnBody s__law_small_tree) (fnScope s__law_small_tree) .none kV29 dc29 pm29 an29 cd29 ct29), sl29⟩)
    (c29 : PySem.W.codeIn K cd29 "_law_small_tree" = true)
    (k29 : PySem.W.keepIn K (.ref f29) = true)
    (a30 : PySem.W.nsIn K mainGlobals "_law_open_or_none" = some (some (.ref f30)))
    (l30 : K.lookup f30 = some ⟨oc30, od30, .func (PySem.W.fnOf "_law_open_or_none" "_law_open_or_none" (fnArgs s__law_open_or_none) (fnBody s__law_open_or_none) (fnScope s__law_open_or_none) .none kV30 dc30 pm30 an30 cd30 ct30), sl30⟩)
    (c30 : PySem.W.codeIn K cd30 "_law_open_or_none" = true)
    (k30 : PySem.W.keepIn K (.ref f30) = true)
    (a31 : PySem.W.nsIn K mainGlobals "_law_priced" = some (some (.ref f31)))
    (l31 : K.lookup f31 = some ⟨oc31, od31, .func (PySem.W.fnOf "_law_priced" "_law_priced" (fnArgs s__law_priced) (fnBody s__law_priced) (fnScope s__law_priced) .none kV31 dc31 pm31 an31 cd31 ct31), sl31⟩)
    (c31 : PySem.W.codeIn K cd31 "_law_priced" = true)
    (k31 : PySem.W.keepIn K (.ref f31) = true)
    (a32 : PySem.W.nsIn K mainGlobals "_law_parts_read" = some (some (.ref f32)))
    (l32 : K.lookup f32 = some ⟨oc32, od32, .func (PySem.W.fnOf "_law_parts_read" "_law_parts_read" (fnArgs s__law_parts_read) (fnBody s__law_parts_read) (fnScope s__law_parts_read) .none kV32 dc32 pm32 an32 cd32 ct32), sl32⟩)
    (c32 : PySem.W.codeIn K cd32 "_law_parts_read" = true)
    (k32 : PySem.W.keepIn K (.ref f32) = true)
    (a33 : PySem.W.nsIn K mainGlobals "_law_all_names" = some (some (.ref f33)))
    (l33 : K.lookup f33 = some ⟨oc33, od33, .func (PySem.W.fnOf "_law_all_names" "_law_all_names" (fnArgs s__law_all_names) (fnBody s__law_all_names) (fnScope s__law_all_names) .none kV33 dc33 pm33 an33 cd33 ct33), sl33⟩)
    (c33 : PySem.W.codeIn K cd33 "_law_all_names" = true)
    (k33 : PySem.W.keepIn K (.ref f33) = true)
    (a34 : PySem.W.nsIn K mainGlobals "_law_reads_so" = some (some (.ref f34)))
    (l34 : K.lookup f34 = some ⟨oc34, od34, .func (PySem.W.fnOf "_law_reads_so" "_law_reads_so" (fnArgs s__law_reads_so) (fnBody s__law_reads_so) (fnScope s__law_reads_so) .none kV34 dc34 pm34 an34 cd34 ct34), sl34⟩)
    (c34 : PySem.W.codeIn K cd34 "_law_reads_so" = true)
    (k34 : PySem.W.keepIn K (.ref f34) = true)
    (a35 : PySem.W.findIn K (.ref C_Open) "__init__" = some (some (.ref f35)))
    (i35 : PySem.W.isFn K (.ref f35) = true)
    (l35 : K.lookup f35 = some ⟨oc35, od35, .func (PySem.W.fnOf "__init__" "Open.__init__" (fnArgs s_Open___init__) (fnBody s_Open___init__) (fnScope s_Open___init__) .none kV35 dc35 pm35 an35 cd35 ct35), sl35⟩)
    (c35 : PySem.W.codeIn K cd35 "Open.__init__" = true)
    (k35 : PySem.W.keepIn K (.ref f35) = true)
    (a36 : PySem.W.findIn K (.ref C_Open) "best" = some (some (.ref f36)))
    (i36 : PySem.W.isFn K (.ref f36) = true)
    (l36 : K.lookup f36 = some ⟨oc36, od36, .func (PySem.W.fnOf "best" "Open.best" (fnArgs s_Open_best) (fnBody s_Open_best) (fnScope s_Open_best) .none kV36 dc36 pm36 an36 cd36 ct36), sl36⟩)
    (c36 : PySem.W.codeIn K cd36 "Open.best" = true)
    (k36 : PySem.W.keepIn K (.ref f36) = true)
    (a37 : PySem.W.findIn K (.ref C_Open) "then" = some (some (.ref f37)))
    (i37 : PySem.W.isFn K (.ref f37) = true)
    (l37 : K.lookup f37 = some ⟨oc37, od37, .func (PySem.W.fnOf "then" "Open.then" (fnArgs s_Open_then) (fnBody s_Open_then) (fnScope s_Open_then) .none kV37 dc37 pm37 an37 cd37 ct37), sl37⟩)
    (c37 : PySem.W.codeIn K cd37 "Open.then" = true)
    (k37 : PySem.W.keepIn K (.ref f37) = true)
    (a38 : PySem.W.findIn K (.ref C_OpenTable) "__init__" = some (some (.ref f38)))
    (i38 : PySem.W.isFn K (.ref f38) = true)
    (l38 : K.lookup f38 = some ⟨oc38, od38, .func (PySem.W.fnOf "__init__" "OpenTable.__init__" (fnArgs s_OpenTable___init__) (fnBody s_OpenTable___init__) (fnScope s_OpenTable___init__) .none kV38 dc38 pm38 an38 cd38 ct38), sl38⟩)
    (c38 : PySem.W.codeIn K cd38 "OpenTable.__init__" = true)
    (k38 : PySem.W.keepIn K (.ref f38) = true)
    (a39 : PySem.W.findIn K (.ref C_OpenTable) "_usable" = some (some (.ref f39)))
    (i39 : PySem.W.isFn K (.ref f39) = true)
    (l39 : K.lookup f39 = some ⟨oc39, od39, .func (PySem.W.fnOf "_usable" "OpenTable._usable" (fnArgs s_OpenTable__usable) (fnBody s_OpenTable__usable) (fnScope s_OpenTable__usable) .none kV39 dc39 pm39 an39 cd39 ct39), sl39⟩)
    (c39 : PySem.W.codeIn K cd39 "OpenTable._usable" = true)
    (k39 : PySem.W.keepIn K (.ref f39) = true)
    (a40 : PySem.W.findIn K (.ref C_OpenTable) "_checked" = some (some (.ref f40)))
    (i40 : PySem.W.isFn K (.ref f40) = true)
    (l40 : K.lookup f40 = some ⟨oc40, od40, .func (PySem.W.fnOf "_checked" "OpenTable._checked" (fnArgs s_OpenTable__checked) (fnBody s_OpenTable__checked) (fnScope s_OpenTable__checked) .none kV40 dc40 pm40 an40 cd40 ct40), sl40⟩)
    (c40 : PySem.W.codeIn K cd40 "OpenTable._checked" = true)
    (k40 : PySem.W.keepIn K (.ref f40) = true)
    (a41 : PySem.W.findIn K (.ref C_OpenTable) "reading" = some (some (.ref f41)))
    (i41 : PySem.W.isFn K (.ref f41) = true)
    (l41 : K.lookup f41 = some ⟨oc41, od41, .func (PySem.W.fnOf "reading" "OpenTable.reading" (fnArgs s_OpenTable_reading) (fnBody s_OpenTable_reading) (fnScope s_OpenTable_reading) .none (.ref D41) dc41 pm41 an41 cd41 ct41), sl41⟩)
    (c41 : PySem.W.codeIn K cd41 "OpenTable.reading" = true)
    (k41 : PySem.W.keepIn K (.ref f41) = true)
    (kq41_0 : PySem.W.nsIn K D41 "fees" = some (some .none))
    (kq41_1 : PySem.W.nsIn K D41 "shut" = some (some (.ref A_OpenTable_reading)))
    (kt41 : K.lookup A_OpenTable_reading = some ⟨.type "tuple", td41, .seq #[] tn41, ts41⟩)
    (a42 : PySem.W.nsIn K mainGlobals "law" = some (some (.ref f42)))
    (l42 : K.lookup f42 = some ⟨oc42, od42, .func (PySem.W.fnOf "law" "law" (fnArgs s_law) (fnBody s_law) (fnScope s_law) .none kV42 dc42 pm42 an42 cd42 ct42), sl42⟩)
    (c42 : PySem.W.codeIn K cd42 "law" = true)
    (k42 : PySem.W.keepIn K (.ref f42) = true)
    (z0 : PySem.W.nsIn K mainGlobals "all" = some none)
    (z1 : PySem.W.nsIn K mainGlobals "any" = some none)
    (z2 : PySem.W.nsIn K mainGlobals "bool" = some none)
    (z3 : PySem.W.nsIn K mainGlobals "dict" = some none)
    (z4 : PySem.W.nsIn K mainGlobals "enumerate" = some none)
    (z5 : PySem.W.nsIn K mainGlobals "int" = some none)
    (z6 : PySem.W.nsIn K mainGlobals "isinstance" = some none)
    (z7 : PySem.W.nsIn K mainGlobals "len" = some none)
    (z8 : PySem.W.nsIn K mainGlobals "list" = some none)
    (z9 : PySem.W.nsIn K mainGlobals "min" = some none)
    (z10 : PySem.W.nsIn K mainGlobals "range" = some none)
    (z11 : PySem.W.nsIn K mainGlobals "set" = some none)
    (z12 : PySem.W.nsIn K mainGlobals "sorted" = some none)
    (z13 : PySem.W.nsIn K mainGlobals "str" = some none)
    (z14 : PySem.W.nsIn K mainGlobals "sum" = some none)
    (z15 : PySem.W.nsIn K mainGlobals "tuple" = some none)
    (z16 : PySem.W.nsIn K mainGlobals "zip" = some none)
    (m0 : PySem.W.nsIn K mainGlobals "LETTERS" = some (some (.int 8 g0))) :
    ∃ fd : FuncData, (∀ (s : Shared) (v : Value), BindsTo s fd ⟨[v], []⟩ [("script", v)]) ∧ ∀ base : Heap, K.In base → base.Ns mainGlobals mg → FnOk l.prog w K mg base C8.CX0 13 fa fd ["script"] (spLaw1 K) := by
  have T : Top K mg C_Open C_OpenTable A_OpenTable_reading :=
    { cl_Open := ⟨pg_Open, hd_Open, po_Open, sa_Open⟩
      g_Open := PySem.W.mg_of X G aC_Open
      na_Open_wish := nwish_Open
      na_Open_stay := nstay_Open
      cl_OpenTable := ⟨pg_OpenTable, hd_OpenTable, po_OpenTable, sa_OpenTable⟩
      g_OpenTable := PySem.W.mg_of X G aC_OpenTable
      na_OpenTable__doubts := n_doubts_OpenTable
      na_OpenTable__rows := n_rows_OpenTable
      d_is_name := ⟨f1, _, ⟨⟨_, _, _, _, _, _, _, _, _, _, rfl, l1, c1⟩, PySem.W.mg_of X G a1, k1⟩, rfl⟩
      d_is_number := ⟨f2, _, ⟨⟨_, _, _, _, _, _, _, _, _, _, rfl, l2, c2⟩, PySem.W.mg_of X G a2, k2⟩, .inr ⟨(by intro h; cases h), t2, _, [.int 0 dt2_0, .none], tn2, rfl, d2, rfl, (.cons ⟨_, rfl⟩ (.cons rfl .nil))⟩⟩
      d_covers := ⟨f3, _, ⟨⟨_, _, _, _, _, _, _, _, _, _, rfl, l3, c3⟩, PySem.W.mg_of X G a3, k3⟩, rfl⟩
      d_thin_open := ⟨f4, _, ⟨⟨_, _, _, _, _, _, _, _, _, _, rfl, l4, c4⟩, PySem.W.mg_of X G a4, k4⟩, rfl⟩
      d_any_covers := ⟨f5, _, ⟨⟨_, _, _, _, _, _, _, _, _, _, rfl, l5, c5⟩, PySem.W.mg_of X G a5, k5⟩, rfl⟩
      d_is_one_of := ⟨f6, _, ⟨⟨_, _, _, _, _, _, _, _, _, _, rfl, l6, c6⟩, PySem.W.mg_of X G a6, k6⟩, rfl⟩
      d_price_of := ⟨f7, _, ⟨⟨_, _, _, _, _, _, _, _, _, _, rfl, l7, c7⟩, PySem.W.mg_of X G a7, k7⟩, rfl⟩
      d__law_bag := ⟨f8, _, ⟨⟨_, _, _, _, _, _, _, _, _, _, rfl, l8, c8⟩, PySem.W.mg_of X G a8, k8⟩, rfl⟩
      d__law_draw := ⟨f9, _, ⟨⟨_, _, _, _, _, _, _, _, _, _, rfl, l9, c9⟩, PySem.W.mg_of X G a9, k9⟩, rfl⟩
      d__law_of := ⟨f10, _, ⟨⟨_, _, _, _, _, _, _, _, _, _, rfl, l10, c10⟩, PySem.W.mg_of X G a10, k10⟩, rfl⟩
      d__law_turned := ⟨f11, _, ⟨⟨_, _, _, _, _, _, _, _, _, _, rfl, l11, c11⟩, PySem.W.mg_of X G a11, k11⟩, rfl⟩
      d__law_like := ⟨f12, _, ⟨⟨_, _, _, _, _, _, _, _, _, _, rfl, l12, c12⟩, PySem.W.mg_of X G a12, k12⟩, rfl⟩
      d__law_is_number := ⟨f13, _, ⟨⟨_, _, _, _, _, _, _, _, _, _, rfl, l13, c13⟩, PySem.W.mg_of X G a13, k13⟩, rfl⟩
      d__law_is_title := ⟨f14, _, ⟨⟨_, _, _, _, _, _, _, _, _, _, rfl, l14, c14⟩, PySem.W.mg_of X G a14, k14⟩, rfl⟩
      d__law_over := ⟨f15, _, ⟨⟨_, _, _, _, _, _, _, _, _, _, rfl, l15, c15⟩, PySem.W.mg_of X G a15, k15⟩, rfl⟩
      d__law_open := ⟨f16, _, ⟨⟨_, _, _, _, _, _, _, _, _, _, rfl, l16, c16⟩, PySem.W.mg_of X G a16, k16⟩, rfl⟩
      d__law_pairs := ⟨f17, _, ⟨⟨_, _, _, _, _, _, _, _, _, _, rfl, l17, c17⟩, PySem.W.mg_of X G a17, k17⟩, rfl⟩
      d__law_fee := ⟨f18, _, ⟨⟨_, _, _, _, _, _, _, _, _, _, rfl, l18, c18⟩, PySem.W.mg_of X G a18, k18⟩, rfl⟩
      d__law_row := ⟨f19, _, ⟨⟨_, _, _, _, _, _, _, _, _, _, rfl, l19, c19⟩, PySem.W.mg_of X G a19, k19⟩, rfl⟩
      d__law_tuple_of := ⟨f20, _, ⟨⟨_, _, _, _, _, _, _, _, _, _, rfl, l20, c20⟩, PySem.W.mg_of X G a20, k20⟩, rfl⟩
      d__law_is := ⟨f21, _, ⟨⟨_, _, _, _, _, _, _, _, _, _, rfl, l21, c21⟩, PySem.W.mg_of X G a21, k21⟩, rfl⟩
      d__law_tree := ⟨f22, _, ⟨⟨_, _, _, _, _, _, _, _, _, _, rfl, l22, c22⟩, PySem.W.mg_of X G a22, k22⟩, rfl⟩
      d__law_by_program := ⟨f23, _, ⟨⟨_, _, _, _, _, _, _, _, _, _, rfl, l23, c23⟩, PySem.W.mg_of X G a23, k23⟩, rfl⟩
      d__law_row_then := ⟨f24, _, ⟨⟨_, _, _, _, _, _, _, _, _, _, rfl, l24, c24⟩, PySem.W.mg_of X G a24, k24⟩, rfl⟩
      d__law_split := ⟨f25, _, ⟨⟨_, _, _, _, _, _, _, _, _, _, rfl, l25, c25⟩, PySem.W.mg_of X G a25, k25⟩, rfl⟩
      d__law_raw := ⟨f26, _, ⟨⟨_, _, _, _, _, _, _, _, _, _, rfl, l26, c26⟩, PySem.W.mg_of X G a26, k26⟩, rfl⟩
      d__law_fits_rows := ⟨f27, _, ⟨⟨_, _, _, _, _, _, _, _, _, _, rfl, l27, c27⟩, PySem.W.mg_of X G a27, k27⟩, rfl⟩
      d__law_joinings := ⟨f28, _, ⟨⟨_, _, _, _, _, _, _, _, _, _, rfl, l28, c28⟩, PySem.W.mg_of X G a28, k28⟩, rfl⟩
      d__law_small_tree := ⟨f29, _, ⟨⟨_, _, _, _, _, _, _, _, _, _, rfl, l29, c29⟩, PySem.W.mg_of X G a29, k29⟩, rfl⟩
      d__law_open_or_none := ⟨f30, _, ⟨⟨_, _, _, _, _, _, _, _, _, _, rfl, l30, c30⟩, PySem.W.mg_of X G a30, k30⟩, rfl⟩
      d__law_priced := ⟨f31, _, ⟨⟨_, _, _, _, _, _, _, _, _, _, rfl, l31, c31⟩, PySem.W.mg_of X G a31, k31⟩, rfl⟩
      d__law_parts_read := ⟨f32, _, ⟨⟨_, _, _, _, _, _, _, _, _, _, rfl, l32, c32⟩, PySem.W.mg_of X G a32, k32⟩, rfl⟩
      d__law_all_names := ⟨f33, _, ⟨⟨_, _, _, _, _, _, _, _, _, _, rfl, l33, c33⟩, PySem.W.mg_of X G a33, k33⟩, rfl⟩
      d__law_reads_so := ⟨f34, _, ⟨⟨_, _, _, _, _, _, _, _, _, _, rfl, l34, c34⟩, PySem.W.mg_of X G a34, k34⟩, rfl⟩
      d_Open___init__ := ⟨f35, _, ⟨mk_Open, a35, i35, kC_Open⟩, ⟨_, _, _, _, _, _, _, _, _, _, rfl, l35, c35⟩, rfl⟩
      d_Open_best := ⟨f36, _, ⟨a36, i36, k36⟩, ⟨_, _, _, _, _, _, _, _, _, _, rfl, l36, c36⟩, rfl⟩
      d_Open_then := ⟨f37, _, ⟨a37, i37, k37⟩, ⟨_, _, _, _, _, _, _, _, _, _, rfl, l37, c37⟩, rfl⟩
      d_OpenTable___init__ := ⟨f38, _, ⟨mk_OpenTable, a38, i38, kC_OpenTable⟩, ⟨_, _, _, _, _, _, _, _, _, _, rfl, l38, c38⟩, rfl⟩
      d_OpenTable__usable := ⟨f39, _, ⟨a39, i39, k39⟩, ⟨_, _, _, _, _, _, _, _, _, _, rfl, l39, c39⟩, rfl⟩
      d_OpenTable__checked := ⟨f40, _, ⟨a40, i40, k40⟩, ⟨_, _, _, _, _, _, _, _, _, _, rfl, l40, c40⟩, rfl⟩
      d_OpenTable_reading := ⟨f41, _, ⟨a41, i41, k41⟩, ⟨_, _, _, _, _, _, _, _, _, _, rfl, l41, c41⟩, ⟨⟨_, _, _, _, _, _, _, _, _, _, rfl, l41, c41, .inl ⟨rfl, rfl⟩, .inr ⟨D41, rfl, fun q hq => (List.mem_cons.mp hq).elim (fun e => by rw [e]; exact ⟨_, kq41_0, rfl⟩) fun hq => by rw [List.mem_singleton.mp hq]; exact ⟨_, kq41_1, rfl⟩⟩⟩, k41⟩⟩
      e_OpenTable_reading := fun H => .inr ⟨_, #[], tn41, kt41, rfl, rfl, Nat.zero_le _, .nil⟩
      d_law := ⟨f42, _, ⟨⟨_, _, _, _, _, _, _, _, _, _, rfl, l42, c42⟩, PySem.W.mg_of X G a42, k42⟩, rfl⟩
      all := PySem.W.mg_none_of X G z0
      any := PySem.W.mg_none_of X G z1
      bool := PySem.W.mg_none_of X G z2
      dict := PySem.W.mg_none_of X G z3
      enumerate := PySem.W.mg_none_of X G z4
      int := PySem.W.mg_none_of X G z5
      isinstance := PySem.W.mg_none_of X G z6
      len := PySem.W.mg_none_of X G z7
      list := PySem.W.mg_none_of X G z8
      min := PySem.W.mg_none_of X G z9
      range := PySem.W.mg_none_of X G z10
      set := PySem.W.mg_none_of X G z11
      sorted := PySem.W.mg_none_of X G z12
      str := PySem.W.mg_none_of X G z13
      sum := PySem.W.mg_none_of X G z14
      tuple := PySem.W.mg_none_of X G z15
      zip := PySem.W.mg_none_of X G z16
      m_LETTERS := ⟨_, PySem.W.mg_of X G m0, _, rfl⟩ }
  have ea := hfa.symm.trans (PySem.W.mg_of X G a42)
  cases ea
  exact ⟨_, fun s v => .of_eq rfl, fun base _ _ => ok_law T ⟨⟨_, _, _, _, _, _, _, _, _, _, rfl, l42, c42⟩, PySem.W.mg_of X G a42, k42⟩⟩
end Fb
open PySem PySem.W PyProof.Rows
set_option maxRecDepth 100000 in
set_option maxHeartbeats 0 in
theorem PySem.Challenge.cw_feeblind_k73_whole_open_read_goes_throug_holds : PySem.Challenge.rw_feeblind_k73_whole_open_read_goes_throug.Holds := by
  w_on; o_law
  refine' Fb.head_cut Fb.left_all (by rfl) (by rfl) (by rfl) (by rfl) (by first | assumption | decide +kernel) (by decide +kernel) ⟨rfl, rfl, rfl, rfl, rfl, by decide +kernel⟩ ?hw ?hc
  case hw => w_witness2
  k_fill
  refine L2.walk_of (l := PySem.Challenge.rw_feeblind_k73_whole_open_read_goes_throug) (n := 63) (k := 13) (x := "script") (CX := fun _ => C8.CX0) (sp := fun w => Fb.spLaw1 _) rfl (by decide) rfl ⟨rfl, by decide, by decide⟩ (fun w h Y => PySem.W.kIn_of Y) ?F (fun _ _ a ns hl _ hS => ⟨_, rfl, a, ns, rfl, hS, fun _ => rfl⟩) (fun _ _ _ _ _ z => z)
  case F =>
    intro w mg fa h KX G hmg
    refine' Fb.all_mk KX G hmg ?aC_Open ?pg_Open ?hd_Open ?po_Open ?sa_Open ?mk_Open ?kC_Open ?nwish_Open ?nstay_Open ?aC_OpenTable ?pg_OpenTable ?hd_OpenTable ?po_OpenTable ?sa_OpenTable ?mk_OpenTable ?kC_OpenTable ?n_doubts_OpenTable ?n_rows_OpenTable ?a1 ?l1 ?c1 ?k1 ?a2 ?l2 ?c2 ?k2 ?d2 ?a3 ?l3 ?c3 ?k3 ?a4 ?l4 ?c4 ?k4 ?a5 ?l5 ?c5 ?k5 ?a6 ?l6 ?c6 ?k6 ?a7 ?l7 ?c7 ?k7 ?a8 ?l8 ?c8 ?k8 ?a9 ?l9 ?c9 ?k9 ?a10 ?l10 ?c10 ?k10 ?a11 ?l11 ?c11 ?k11 ?a12 ?l12 ?c12 ?k12 ?a13 ?l13 ?c13 ?k13 ?a14 ?l14 ?c14 ?k14 ?a15 ?l15 ?c15 ?k15 ?a16 ?l16 ?c16 ?k16 ?a17 ?l17 ?c17 ?k17 ?a18 ?l18 ?c18 ?k18 ?a19 ?l19 ?c19 ?k19 ?a20 ?l20 ?c20 ?k20 ?a21 ?l21 ?c21 ?k21 ?a22 ?l22 ?c22 ?k22 ?a23 ?l23 ?c23 ?k23 ?a24 ?l24 ?c24 ?k24 ?a25 ?l25 ?c25 ?k25 ?a26 ?l26 ?c26 ?k26 ?a27 ?l27 ?c27 ?k27 ?a28 ?l28 ?c28 ?k28 ?a29 ?l29 ?c29 ?k29 ?a30 ?l30 ?c30 ?k30 ?a31 ?l31 ?c31 ?k31 ?a32 ?l32 ?c32 ?k32 ?a33 ?l33 ?c33 ?k33 ?a34 ?l34 ?c34 ?k34 ?a35 ?i35 ?l35 ?c35 ?k35 ?a36 ?i36 ?l36 ?c36 ?k36 ?a37 ?i37 ?l37 ?c37 ?k37 ?a38 ?i38 ?l38 ?c38 ?k38 ?a39 ?i39 ?l39 ?c39 ?k39 ?a40 ?i40 ?l40 ?c40 ?k40 ?a41 ?i41 ?l41 ?c41 ?k41 ?kq41_0 ?kq41_1 ?kt41 ?a42 ?l42 ?c42 ?k42 ?z0 ?z1 ?z2 ?z3 ?z4 ?z5 ?z6 ?z7 ?z8 ?z9 ?z10 ?z11 ?z12 ?z13 ?z14 ?z15 ?z16 ?m0
    (case aC_Open => k_is)
    (case pg_Open => k_is)
    (case hd_Open => k_is)
    (case po_Open => k_is)
    (case sa_Open => k_is)
    (case mk_Open => k_is)
    (case kC_Open => k_is)
    (case nwish_Open => k_is)
    (case nstay_Open => k_is)
    (case aC_OpenTable => k_is)
    (case pg_OpenTable => k_is)
    (case hd_OpenTable => k_is)
    (case po_OpenTable => k_is)
    (case sa_OpenTable => k_is)
    (case mk_OpenTable => k_is)
    (case kC_OpenTable => k_is)
    (case n_doubts_OpenTable => k_is)
    (case n_rows_OpenTable => k_is)
    (case a1 => k_is)
    (case l1 => k_is)
    (case c1 => k_is)
    (case k1 => k_is)
    (case a2 => k_is)
    (case l2 => k_is)
    (case c2 => k_is)
    (case k2 => k_is)
    (case d2 => k_is)
    (case a3 => k_is)
    (case l3 => k_is)
    (case c3 => k_is)
    (case k3 => k_is)
    (case a4 => k_is)
    (case l4 => k_is)
    (case c4 => k_is)
    (case k4 => k_is)
    (case a5 => k_is)
    (case l5 => k_is)
    (case c5 => k_is)
    (case k5 => k_is)
    (case a6 => k_is)
    (case l6 => k_is)
    (case c6 => k_is)
    (case k6 => k_is)
    (case a7 => k_is)
    (case l7 => k_is)
    (case c7 => k_is)
    (case k7 => k_is)
    (case a8 => k_is)
    (case l8 => k_is)
    (case c8 => k_is)
    (case k8 => k_is)
    (case a9 => k_is)
    (case l9 => k_is)
    (case c9 => k_is)
    (case k9 => k_is)
    (case a10 => k_is)
    (case l10 => k_is)
    (case c10 => k_is)
    (case k10 => k_is)
    (case a11 => k_is)
    (case l11 => k_is)
    (case c11 => k_is)
    (case k11 => k_is)
    (case a12 => k_is)
    (case l12 => k_is)
    (case c12 => k_is)
    (case k12 => k_is)
    (case a13 => k_is)
    (case l13 => k_is)
    (case c13 => k_is)
    (case k13 => k_is)
    (case a14 => k_is)
    (case l14 => k_is)
    (case c14 => k_is)
    (case k14 => k_is)
    (case a15 => k_is)
    (case l15 => k_is)
    (case c15 => k_is)
    (case k15 => k_is)
    (case a16 => k_is)
    (case l16 => k_is)
    (case c16 => k_is)
    (case k16 => k_is)
    (case a17 => k_is)
    (case l17 => k_is)
    (case c17 => k_is)
    (case k17 => k_is)
    (case a18 => k_is)
    (case l18 => k_is)
    (case c18 => k_is)
    (case k18 => k_is)
    (case a19 => k_is)
    (case l19 => k_is)
    (case c19 => k_is)
    (case k19 => k_is)
    (case a20 => k_is)
    (case l20 => k_is)
    (case c20 => k_is)
    (case k20 => k_is)
    (case a21 => k_is)
    (case l21 => k_is)
    (case c21 => k_is)
    (case k21 => k_is)
    (case a22 => k_is)
    (case l22 => k_is)
    (case c22 => k_is)
    (case k22 => k_is)
    (case a23 => k_is)
    (case l23 => k_is)
    (case c23 => k_is)
    (case k23 => k_is)
    (case a24 => k_is)
    (case l24 => k_is)
    (case c24 => k_is)
    (case k24 => k_is)
    (case a25 => k_is)
    (case l25 => k_is)
    (case c25 => k_is)
    (case k25 => k_is)
    (case a26 => k_is)
    (case l26 => k_is)
    (case c26 => k_is)
    (case k26 => k_is)
    (case a27 => k_is)
    (case l27 => k_is)
    (case c27 => k_is)
    (case k27 => k_is)
    (case a28 => k_is)
    (case l28 => k_is)
    (case c28 => k_is)
    (case k28 => k_is)
    (case a29 => k_is)
    (case l29 => k_is)
    (case c29 => k_is)
    (case k29 => k_is)
    (case a30 => k_is)
    (case l30 => k_is)
    (case c30 => k_is)
    (case k30 => k_is)
    (case a31 => k_is)
    (case l31 => k_is)
    (case c31 => k_is)
    (case k31 => k_is)
    (case a32 => k_is)
    (case l32 => k_is)
    (case c32 => k_is)
    (case k32 => k_is)
    (case a33 => k_is)
    (case l33 => k_is)
    (case c33 => k_is)
    (case k33 => k_is)
    (case a34 => k_is)
    (case l34 => k_is)
    (case c34 => k_is)
    (case k34 => k_is)
    (case a35 => k_is)
    (case i35 => k_is)
    (case l35 => k_is)
    (case c35 => k_is)
    (case k35 => k_is)
    (case a36 => k_is)
    (case i36 => k_is)
    (case l36 => k_is)
    (case c36 => k_is)
    (case k36 => k_is)
    (case a37 => k_is)
    (case i37 => k_is)
    (case l37 => k_is)
    (case c37 => k_is)
    (case k37 => k_is)
    (case a38 => k_is)
    (case i38 => k_is)
    (case l38 => k_is)
    (case c38 => k_is)
    (case k38 => k_is)
    (case a39 => k_is)
    (case i39 => k_is)
    (case l39 => k_is)
    (case c39 => k_is)
    (case k39 => k_is)
    (case a40 => k_is)
    (case i40 => k_is)
    (case l40 => k_is)
    (case c40 => k_is)
    (case k40 => k_is)
    (case a41 => k_is)
    (case i41 => k_is)
    (case l41 => k_is)
    (case c41 => k_is)
    (case k41 => k_is)
    (case kq41_0 => k_is)
    (case kq41_1 => k_is)
    (case kt41 => k_is)
    (case a42 => k_is)
    (case l42 => k_is)
    (case c42 => k_is)
    (case k42 => k_is)
    (case z0 => k_is)
    (case z1 => k_is)
    (case z2 => k_is)
    (case z3 => k_is)
    (case z4 => k_is)
    (case z5 => k_is)
    (case z6 => k_is)
    (case z7 => k_is)
    (case z8 => k_is)
    (case z9 => k_is)
    (case z10 => k_is)
    (case z11 => k_is)
    (case z12 => k_is)
    (case z13 => k_is)
    (case z14 => k_is)
    (case z15 => k_is)
    (case z16 => k_is)
    (case m0 => k_is)
