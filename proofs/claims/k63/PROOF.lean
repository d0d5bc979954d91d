import PyProof.Rows.All
import Wide.All
import OpenK.AllK
import Wide.FinOn
import HandS.ForMost
import HandS.IsInst
import HandS.Property
import HandS.ClsMeth
import HandS.MakeKw
import HandS.MakeKwOnly
import HandS.OwnEq
import HandS.Flow
import HandS.Style
import HandS.TupAny
import HandS.Conv
import HandS.Codes
import HandS.Walk
import HandS.Wide
import HandS.WideBits
import HandS.StrMore
import HandS.Exc
import HandS.TryOnly
import HandS.TryMany
import HandS.ExcOwn
import HandS.WordsExc
import HandS.Small
import KE.KTupSum
import KE.GoesEnum
import PyProof.ReprRoads
import OpenK.KOps
import KE.KCallOwn
import KE.KFmtOwn
import PyProof.InstNe
import PyProof.ReprBulk
import KE.KRevSl
import PyProof.EqKinds
import PyProof.NeKinds
import PyProof.FactsAll.dict
import KE.KTryMore
import HandS.ExcInit
import HandS.ExcValue
import HandS.ExcIs
import HandS.ExcField
import KE.KExcInit
import HandS.HotCalls
import HandS.ExcInitHot
import HandS.Lambda
import HandS.DeepEq
import HandS.TupMul
import PyProof.EqAt
import PyProof.Rows.EqBoolInt
import HandS.EndTab
import KE.KIntText
import KE.KxLen
import HandS.Zip0
import HandS.Star
import KE.KDictZip
import KE.KItemsList
import PyProof.ListNew
import HandS.Zip
import HandS.Strs
import HandS.Gcd
import KE.KMathGC
import HandS.List
import PyProof.WalkInts
import PyProof.TupleIter
import HandS.NoneIn
import KE.DataMinMax
import HandS.SortKw
import HandS.TupSets
import PyProof.WalksMore
import PySem.Challenge.RW_alwaysagree_k63_whole_days_by_shares
set_option Elab.async false
set_option linter.all false
set_option maxRecDepth 100000
set_option maxHeartbeats 4000000
namespace U
open PySem L2

/-- a def of the text that lets nothing out, as its callers see it -/
structure DefX (P : Program) (w : World) (K : PySem.W.Frag) (mg : Str → Option Value) (base : Heap) (k : Nat) (x : Str) (ps : List Str) (sp : Sp) : Prop where
  ex : ∃ (f : Addr) (fd : FuncData), FnOk P w K mg base CX0 k f fd ps sp ∧ mg x = some (.ref f) ∧ PySem.W.keepIn K (.ref f) = true ∧ Binds K fd ps []

section
variable {X : Cx}
theorem pe_fn {k j : Nat} {x : Str} {ps : List Str} {sp : Sp} {e : Expr} {es : List Expr} {t : TA} {p pos : Pos} (D : DefX X.prog X.w X.K X.mg X.base k x ps sp) (hr : Room j X.A) (hk : k ≤ j)
    (ha : PA X (e :: es) t) (hg : Gl X x := by rfl) (hdb : (x == ("__debug__" : Str)) = false := by decide) (he : starEach (e :: es) X.env = (false, eval e X.env) :: starEach es X.env := by rfl) (hpl : (backTo pos (starEach es X.env)).any (·.1) = false := by rfl) :
    PE X (.Call (.Name x p) (e :: es) [] pos) (tCall sp [] E0 t) := by
  obtain ⟨f, fd, F, hm, hkp, hb⟩ := D.ex
  exact pe_call F (hr.mono hk) hg hm hkp hb .nil pass0 ha hdb he hpl
end

/-- a module's constant, by what it is -/
theorem pe_globE {X : Cx} {x : Str} {v : V} {pos : Pos} (h : ∃ u, X.mg x = some u ∧ RelV v u) (hg : Gl X x := by rfl) (hd : (x == ("__debug__" : Str)) = false := by decide) : PE X (.Name x pos) (tC v) := by
  obtain ⟨u, hm, r⟩ := h
  exact pe_glob hg hm r hd
/-! ### rules with the written part named (within a comprehension's block it must not hang on the block) -/
section
variable {X : Cx}
def rLenQ (K : PySem.W.Frag) : List V → Hp → VK → Prop := fun xs H Q => ∃ p ys, xs = [.ref p] ∧ (SqL K H p ys ∨ SqT K H p ys) ∧ Q (.int ys.length) H
theorem lenQ (K : PySem.W.Frag) (h : X.K = K := by rfl) : CallR X (.builtin "len") (rLenQ K) := by subst h; exact call_len_seq
def rTupO (K : PySem.W.Frag) : List V → Hp → VK → Prop := fun xs H Q => ∃ p ys, xs = [.ref p] ∧ ((SqL K H p ys ∧ ∀ l, H l = none → Q (.ref l) (upd H l (.tup ys))) ∨ (SqT K H p ys ∧ Q (.ref p) H))
theorem tupO (K : PySem.W.Frag) (h : X.K = K := by rfl) : CallR X (.type "tuple") (rTupO K) := by subst h; exact call_tuple_of
def rLstO (K : PySem.W.Frag) : List V → Hp → VK → Prop := fun xs H Q => ∃ p ys, xs = [.ref p] ∧ (SqL K H p ys ∨ SqT K H p ys) ∧ ∀ l, H l = none → Q (.ref l) (upd H l (.lst ys))
theorem lstO (K : PySem.W.Frag) (h : X.K = K := by rfl) : CallR X (.type "list") (rLstO K) := by subst h; exact call_list_of
theorem ixL (K : PySem.W.Frag) (h : X.K = K := by rfl) : IxR X (rIxL K) := by subst h; exact ix_list
theorem ixT (K : PySem.W.Frag) (h : X.K = K := by rfl) : IxR X (rIxT K) := by subst h; exact ix_tup
theorem slL (K : PySem.W.Frag) (h : X.K = K := by rfl) : SlR X (rSlL K) := by subst h; exact sl_list
theorem slA (K : PySem.W.Frag) (h : X.K = K := by rfl) : SlR X (rSlA K) := by subst h; exact sl_tupA
theorem sumL (K : PySem.W.Frag) (hc : X.calm = true := by rfl) (h : X.K = K := by rfl) : CallR X (.builtin "sum") (rSum K) := by subst h; exact cr_sum hc
theorem allL (K : PySem.W.Frag) (hc : X.calm = true := by rfl) (h : X.K = K := by rfl) : CallR X (.builtin "all") (rAll K) := by subst h; exact cr_all hc
theorem inQ (K : PySem.W.Frag) (h : X.K = K := by rfl) : OpR X (compareOp .In) (rIn K false) := by subst h; exact op_in_seq
theorem ninQ (K : PySem.W.Frag) (h : X.K = K := by rfl) : OpR X (compareOp .NotIn) (rIn K true) := by subst h; exact op_notIn_seq
theorem eqD (K : PySem.W.Frag) (hu : X.A.units + 64 < cLine) (h : X.K = K := by rfl) : OpR X (compareOp .Eq) (rEqD K) := by subst h; exact op_eqD hu
theorem neD (K : PySem.W.Frag) (hu : X.A.units + 64 < cLine) (h : X.K = K := by rfl) : OpR X (compareOp .NotEq) (rNeD K) := by subst h; exact op_neD hu
theorem catA (K : PySem.W.Frag) (h : X.K = K := by rfl) : OpR X (binaryOp .Add) (rCatA K) := by subst h; exact op_catA
theorem isiQ (K : PySem.W.Frag) (h : X.K = K := by rfl) : CallR X (.builtin "isinstance") (rIsi K) := by subst h; exact call_isi
theorem piL (K : PySem.W.Frag) {tg l : Expr} {tl : TE} (hl : PE X l tl) (h : X.K = K := by rfl) : PI X tg l (iList K tl) := by subst h; exact pi_list hl
theorem piT (K : PySem.W.Frag) {tg l : Expr} {tl : TE} (hl : PE X l tl) (h : X.K = K := by rfl) : PI X tg l (iTup K tl) := by subst h; exact pi_tup hl
def rJoin (K : PySem.W.Frag) : V → List V → Hp → VK → Prop := fun x xs H Q => ∃ a p, ∃ ys : List Str, x = .str a ∧ xs = [.ref p] ∧ (SqL K H p (ys.map V.str) ∨ SqT K H p (ys.map V.str)) ∧
    (ys.map (·.length)).sum + ys.length * a.length ≤ 16777216 ∧ Q (.str (Txt.join a ys)) H
theorem joinQ (K : PySem.W.Frag) (h : X.K = K := by rfl) : MtR X "str.join" (rJoin K) := by subst h; exact mt_join
variable {o e : Expr} {es : List Expr} {to : TE} {t : TA} {name : Str} {apos cpos : Pos} {T id : String} {r : V → List V → Hp → VK → Prop}
theorem pbm (K : PySem.W.Frag) (pa : PlainAttrs T) (slot : Slot T name id) (hty : typeOf (.builtin id) = pure (.type "method_descriptor")) (hm : MtR X id r) (ho : PE X o to) (ha : PA X (e :: es) t) (h : X.K = K := by rfl)
    (hbase : attributeBase o name X.env (eval o X.env) = eval o X.env := by rfl)
    (hfew : ((backTo cpos (starEach (e :: es) X.env)).all (fun x => !x.1) && (backToKw cpos (keywordEach [] X.env)).all (fun x => x.1.isSome)
      && decide ((e :: es).length + ([] : List Keyword).length + (if ([] : List Keyword).isEmpty then 0 else 1) < 30)) = true := by rfl)
    (hline : (apos.endLine == cpos.line) = true := by rfl) (hs : starEach (e :: es) X.env = (false, eval e X.env) :: starEach es X.env := by rfl) (hplain : (backTo cpos (starEach es X.env)).any (·.1) = false := by rfl) :
    PE X (.Call (.Attribute o name apos) (e :: es) [] cpos) (tBM K T r to t) := by
  subst h
  exact pe_bm pa slot hty hm ho ha hbase hfew hline hs hplain
theorem pbm0 (K : PySem.W.Frag) (pa : PlainAttrs T) (slot : Slot T name id) (hty : typeOf (.builtin id) = pure (.type "method_descriptor")) (hm : MtR X id r) (ho : PE X o to) (h : X.K = K := by rfl)
    (hbase : attributeBase o name X.env (eval o X.env) = eval o X.env := by rfl) (hline : (apos.endLine == cpos.line) = true := by rfl) : PE X (.Call (.Attribute o name apos) [] [] cpos) (tBM0 K T r to) := by
  subst h
  exact pe_bm0 pa slot hty hm ho hbase hline
theorem pjoin (K : PySem.W.Frag) {apos cpos : Pos} {o e : Expr} {to : TE} {t : TA} (ho : PE X o to) (ha : PA X [e] t) (h : X.K = K := by rfl)
    (hbase : attributeBase o "join" X.env (eval o X.env) = eval o X.env := by rfl)
    (hfew : ((backTo cpos (starEach [e] X.env)).all (fun x => !x.1) && (backToKw cpos (keywordEach [] X.env)).all (fun x => x.1.isSome)
      && decide ([e].length + ([] : List Keyword).length + (if ([] : List Keyword).isEmpty then 0 else 1) < 30)) = true := by rfl)
    (hline : (apos.endLine == cpos.line) = true := by rfl) (hs : starEach [e] X.env = (false, eval e X.env) :: starEach [] X.env := by rfl) (hplain : (backTo cpos (starEach [] X.env)).any (·.1) = false := by rfl) :
    PE X (.Call (.Attribute o "join" apos) [e] [] cpos) (tBM K "str" (rJoin K) to t) :=
  pbm K PySem.F.plainAttrs_str PySem.F.slot_str_join PySem.F.type_str_join (joinQ K h) ho ha h hbase hfew hline hs hplain
end

/-! ### a tuple stands: as the rules lay it, or with its record kept -/
def TuO (o : HO) (xs : List V) : Prop := o = .tup xs ∨ ∃ r : Obj, r.dict = none ∧ o = .frz r (.tup xs)
def Tu (H : Hp) (a : Addr) (xs : List V) : Prop := ∃ o, H a = some o ∧ TuO o xs
section
variable {H H' : Hp} {a b : Addr} {xs ys : List V}
theorem Tu.of (h : H a = some (.tup xs)) : Tu H a xs := ⟨_, h, .inl rfl⟩
theorem Tu.up : Tu (upd H a (.tup xs)) a xs := Tu.of upd_same
theorem Tu.sq {K : PySem.W.Frag} (h : Tu H a xs) : SqT K H a xs := by
  obtain ⟨o, e, rfl | ⟨r, _, rfl⟩⟩ := h
  · exact .inl (.inl e)
  · exact .inl (.inr ⟨r, e⟩)
theorem Tu.keep (h : Tu H a xs) (k : ∀ o, H a = some o → H' a = some o) : Tu H' a xs := by
  obtain ⟨o, e, t⟩ := h
  exact ⟨o, k o e, t⟩
theorem Tu.same (h : Tu H a xs) (s : Same H H') : Tu H' a xs := h.keep fun o e => s a o e
theorem Tu.neL (h : Tu H a xs) (e : H b = some (.lst ys)) : a ≠ b := by
  obtain ⟨o, e1, rfl | ⟨r, _, rfl⟩⟩ := h
  · exact ne_of e1 e (by intro z; cases z)
  · exact ne_of e1 e (by intro z; cases z)
theorem Tu.neI {C dx : Addr} {fs : List (Str × V)} (h : Tu H a xs) (e : H b = some (.ins C dx fs)) : a ≠ b := by
  obtain ⟨o, e1, rfl | ⟨r, _, rfl⟩⟩ := h
  · exact ne_of e1 e (by intro z; cases z)
  · exact ne_of e1 e (by intro z; cases z)
theorem Tu.neN (h : Tu H a xs) (e : H b = none) : a ≠ b := by
  obtain ⟨o, e1, _⟩ := h
  exact ne_of_none e1 e
theorem Tu.tyx {K : PySem.W.Frag} (h : Tu H a xs) : TyX K H (.ref a) (.type "tuple") := by
  obtain ⟨o, e, rfl | ⟨r, _, rfl⟩⟩ := h
  · exact .base (.tup e)
  · exact .fTuple e
end
/-- tuple(a list), its record kept: its methods may be asked -/
def rTupF (K : PySem.W.Frag) : List V → Hp → VK → Prop := fun xs H Q => ∃ (p : Addr) (ys : List V), xs = [.ref p] ∧ SqL K H p ys ∧ ∀ (l : Addr) (r : Obj), H l = none → r.dict = none → Q (.ref l) (upd H l (.frz r (.tup ys)))
theorem tupF {X : Cx} (K : PySem.W.Frag) (h : X.K = K := by rfl) : CallR X (.type "tuple") (rTupF K) := by
  subst h
  intro pins s σ H xs us Q I r h
  obtain ⟨p, ys, rfl, hq, q⟩ := h
  obtain ⟨u, rfl, rx⟩ := vals1 r
  cases rx
  obtain ⟨its, rv, pl, hz⟩ := I.list hq
  have hlen := rv.length
  refine call_tuple_list pl.isList (fun h' kp => ?_) (by simp only [List.size_toArray] <;> omega)
  have I1 : Inv X pins σ H { s with heap := h' } := I.kept (t' := s.toks) kp
  refine ⟨.ref h'.objs.size, _, I1.laid (t' := s.toks) (o := .frz { cls := .type "tuple", data := .seq its.toArray } (.tup ys)) (fun b o e => Heap.get?_push_of_some _ e) (Nat.le_refl _) ⟨Heap.get?_push_size _ rfl, hz, its, rv, PyProof.Rows.IsTup.new _ _⟩, rfl, q _ _ (I1.hok.fresh (Nat.le_refl _)) rfl⟩
/-- such a tuple -/
def Fz (H : Hp) (v : V) (xs : List V) : Prop := ∃ (a : Addr) (r : Obj), v = .ref a ∧ r.dict = none ∧ H a = some (.frz r (.tup xs))
theorem Fz.same {H H' : Hp} {v : V} {xs : List V} (f : Fz H v xs) (s : Same H H') : Fz H' v xs := by
  obtain ⟨a, r, e, d, h⟩ := f
  exact ⟨a, r, e, d, s _ _ h⟩
/-- t.m(e, ..) of such a tuple -/
def tBMF (r : V → List V → Hp → VK → Prop) (to : TE) (t : TA) : TE := fun σ H Q => to σ H fun x H1 => (∃ xs, Fz H1 x xs) ∧ t σ H1 fun vs H2 => r x vs H2 Q
theorem pbmF {X : Cx} {o e : Expr} {es : List Expr} {to : TE} {t : TA} {name : Str} {apos cpos : Pos} {id : String} {r : V → List V → Hp → VK → Prop} (slot : Slot "tuple" name id) (hty : typeOf (.builtin id) = pure (.type "method_descriptor")) (hm : MtR X id r) (ho : PE X o to) (ha : PA X (e :: es) t)
    (hbase : attributeBase o name X.env (eval o X.env) = eval o X.env := by rfl)
    (hfew : ((backTo cpos (starEach (e :: es) X.env)).all (fun x => !x.1) && (backToKw cpos (keywordEach [] X.env)).all (fun x => x.1.isSome) && decide ((e :: es).length + ([] : List Keyword).length + (if ([] : List Keyword).isEmpty then 0 else 1) < 30)) = true := by rfl)
    (hline : (apos.endLine == cpos.line) = true := by rfl) (hs : starEach (e :: es) X.env = (false, eval e X.env) :: starEach es X.env := by rfl) (hplain : (backTo cpos (starEach es X.env)).any (·.1) = false := by rfl) :
    PE X (.Call (.Attribute o name apos) (e :: es) [] cpos) (tBMF r to t) := by
  constructor
  intro pins s σ H Q I h
  refine wpAny_Call_method_late hbase hfew hline rfl (thn (ho.run pins s σ H _ I h) fun v s1 hh => ?_)
  obtain ⟨x, H1, I1, r1, ⟨xs, a, ro, rfl, hd, he⟩, q1⟩ := hh
  cases r1
  obtain ⟨g, hz, its, rv, it⟩ := I1.hok _ _ he
  refine ⟨"tuple", id, PySem.F.plainAttrs_tuple, slot, hty, it.typeIs, fun b e => ?_, ?_⟩
  · cases e
    exact ⟨ro, g, hd⟩
  have hA := ha.run cpos pins s1 σ H1 _ I1 q1
  rw [hs] at hA ⊢
  refine Calls.callWith_builtin (by show (false || (backTo cpos (starEach es X.env)).any (·.1)) = false; rw [hplain]; rfl) (Calls.evalArgs_plain ?_)
  exact thn hA fun us s2 hh => by
    obtain ⟨vs, H2, I2, r2, q2⟩ := hh
    exact hm pins s2 σ H2 (.ref a) vs _ us Q I2 (show RelV (V.ref a) (Value.ref a) from rfl) r2 q2
/-! ### data that never changes: tuples of tuples of plain values -/
mutual
inductive Im (H : Hp) : V → PyData → Prop
  | non : Im H .non .none
  | bl (b : Bool) : Im H (.bl b) (.bool b)
  | int (i : Int) : Im H (.int i) (.int i)
  | str (x : Str) : Im H (.str x) (.str x)
  | tup {a : Addr} {xs : List V} {ds : List PyData} : Tu H a xs → ImAll H xs ds → Im H (.ref a) (.tuple ds)
inductive ImAll (H : Hp) : List V → List PyData → Prop
  | nil : ImAll H [] []
  | cons {v : V} {vs : List V} {d : PyData} {ds : List PyData} : Im H v d → ImAll H vs ds → ImAll H (v :: vs) (d :: ds)
end
/-- the tuples stand -/
def TupS (H H' : Hp) : Prop := ∀ a xs, Tu H a xs → Tu H' a xs
mutual
theorem Im.mono {H H' : Hp} (k : TupS H H') : ∀ (d : PyData) (v : V), Im H v d → Im H' v d
  | .none, _, h => by cases h; exact .non
  | .bool _, _, h => by cases h; exact .bl _
  | .int _, _, h => by cases h; exact .int _
  | .str _, _, h => by cases h; exact .str _
  | .list _, _, h => by cases h
  | .dict _, _, h => by cases h
  | .tuple ds, _, h => by
    cases h with
    | tup h1 h2 => exact .tup (k _ _ h1) (ImAll.mono k ds _ h2)
theorem ImAll.mono {H H' : Hp} (k : TupS H H') : ∀ (ds : List PyData) (vs : List V), ImAll H vs ds → ImAll H' vs ds
  | [], _, h => by cases h; exact .nil
  | d :: ds, _, h => by
    cases h with
    | cons h1 h2 => exact .cons (Im.mono k d _ h1) (ImAll.mono k ds _ h2)
end
mutual
theorem Im.dp {K : PySem.W.Frag} {H : Hp} : ∀ (d : PyData) (v : V), Im H v d → Dp K H v d
  | .none, _, h => by cases h; exact .non
  | .bool _, _, h => by cases h; exact .bl _
  | .int _, _, h => by cases h; exact .int _
  | .str _, _, h => by cases h; exact .str _
  | .list _, _, h => by cases h
  | .dict _, _, h => by cases h
  | .tuple ds, _, h => by
    cases h with
    | tup h1 h2 => exact .tup h1.sq (ImAll.dp ds _ h2)
theorem ImAll.dp {K : PySem.W.Frag} {H : Hp} : ∀ (ds : List PyData) (vs : List V), ImAll H vs ds → DpAll K H vs ds
  | [], _, h => by cases h; exact .nil
  | d :: ds, _, h => by
    cases h with
    | cons h1 h2 => exact .cons (Im.dp d _ h1) (ImAll.dp ds _ h2)
end
theorem Same.tups {H H' : Hp} (s : Same H H') : TupS H H' := fun a xs e => e.same s
theorem ImAll.length {H : Hp} : ∀ {ds : List PyData} {vs : List V}, ImAll H vs ds → vs.length = ds.length
  | [], _, h => by cases h; rfl
  | d :: ds, _, h => by
    cases h with
    | cons h1 h2 => rw [List.length_cons, List.length_cons, ImAll.length h2]
theorem ImAll.get {H : Hp} : ∀ {ds : List PyData} {vs : List V} {i : Nat} {v : V}, ImAll H vs ds → vs[i]? = some v → ∃ d, ds[i]? = some d ∧ Im H v d
  | [], _, _, _, h, e => by cases h; simp at e
  | d :: ds, _, 0, _, h, e => by
    cases h with
    | cons h1 h2 =>
      rw [List.getElem?_cons_zero] at e
      cases e
      exact ⟨d, rfl, h1⟩
  | d :: ds, _, i + 1, v, h, e => by
    cases h with
    | cons h1 h2 =>
      rw [List.getElem?_cons_succ] at e
      obtain ⟨d', q1, q2⟩ := ImAll.get (i := i) (v := v) h2 e
      exact ⟨d', by rw [List.getElem?_cons_succ]; exact q1, q2⟩
theorem ImAll.snoc {H : Hp} {d : PyData} {v : V} (h : Im H v d) : ∀ {ds : List PyData} {vs : List V}, ImAll H vs ds → ImAll H (vs ++ [v]) (ds ++ [d])
  | [], _, q => by cases q; exact .cons h .nil
  | _ :: _, _, q => by
    cases q with
    | cons h1 h2 => exact .cons h1 (ImAll.snoc h h2)
theorem imInts {H : Hp} : ∀ r : List Int, ImAll H (r.map V.int) (r.map PyData.int)
  | [] => .nil
  | z :: r => .cons (.int z) (imInts r)
theorem imStrs {H : Hp} : ∀ r : List Str, ImAll H (r.map V.str) (r.map PyData.str)
  | [] => .nil
  | z :: r => .cons (.str z) (imStrs r)
theorem ImAll.ints {H : Hp} : ∀ {r : List Int} {vs : List V}, ImAll H vs (r.map PyData.int) → vs = r.map V.int
  | [], _, h => by cases h; rfl
  | z :: r, _, h => by
    cases h with
    | cons h1 h2 =>
      cases h1
      rw [ImAll.ints h2]; rfl
theorem ImAll.strs {H : Hp} : ∀ {r : List Str} {vs : List V}, ImAll H vs (r.map PyData.str) → vs = r.map V.str
  | [], _, h => by cases h; rfl
  | z :: r, _, h => by
    cases h with
    | cons h1 h2 =>
      cases h1
      rw [ImAll.strs h2]; rfl
theorem Im.tuple {H : Hp} {v : V} {ds : List PyData} (h : Im H v (.tuple ds)) : ∃ a xs, v = .ref a ∧ Tu H a xs ∧ ImAll H xs ds := by
  cases h with
  | tup h1 h2 => exact ⟨_, _, rfl, h1, h2⟩

/-! ### readings: two ways that meet -/
theorem tif_int {c : Prop} [Decidable c] {ta tb : TE} {σ : St} {H : Hp} {Q : VK} (C : Int → Prop) (hA : c → ∀ Q' : VK, (∀ z, C z → Q' (.int z) H) → ta σ H Q') (hB : ¬ c → ∀ Q' : VK, (∀ z, C z → Q' (.int z) H) → tb σ H Q')
    (h : ∀ z, C z → Q (.int z) H) : if c then ta σ H Q else tb σ H Q := by
  by_cases e : c
  · rw [if_pos e]; exact hA e Q h
  · rw [if_neg e]; exact hB e Q h
theorem tifS_join {c : Prop} [Decidable c] {t u : TS} {D : Ends} {σ : St} {H : Hp} (P : St → Hp → Prop) (hA : c → ∀ N : St → Hp → Prop, (∀ σ' H', P σ' H' → N σ' H') → t { D with nx := N } σ H)
    (hB : ¬ c → ∀ N : St → Hp → Prop, (∀ σ' H', P σ' H' → N σ' H') → u { D with nx := N } σ H) (h : ∀ σ' H', P σ' H' → D.nx σ' H') : if c then t D σ H else u D σ H := by
  by_cases e : c
  · rw [if_pos e]; exact hA e D.nx h
  · rw [if_neg e]; exact hB e D.nx h
theorem yes {σ : St} {H : Hp} {Q : Bool → Hp → Prop} (h : Q true H) : tYes σ H Q := h
theorem turnY {σ : St} {H : Hp} {A B : Hp → Prop} (h : A H) : tYes σ H (fun b H3 => if b = true then A H3 else B H3) := by
  show if true = true then A H else B H
  rw [if_pos rfl]; exact h
theorem same_upd {H : Hp} {a : Addr} {o : HO} (h : H a = none) : Same H (upd H a o) := fun b u e => by
  rw [upd_ne (ne_of_none e h)]; exact e

/-! ### all but one thing stands -/
def But (j : Addr) (H H' : Hp) : Prop := ∀ b o, b ≠ j → H b = some o → H' b = some o
theorem But.refl {j : Addr} {H : Hp} : But j H H := fun _ _ _ e => e
theorem But.trans {j : Addr} {H H1 H2 : Hp} (a : But j H H1) (b : But j H1 H2) : But j H H2 := fun c o n e => b c o n (a c o n e)
theorem But.of {j : Addr} {H H' : Hp} (s : Same H H') : But j H H' := fun b o _ e => s b o e
theorem But.new {j a : Addr} {H : Hp} {o : HO} (h : H a = none) : But j H (upd H a o) := .of (same_upd h)
/-- a thing of ours, made after H, is changed -/
theorem But.put {j a : Addr} {H H' : Hp} {o : HO} (b : But j H H') (h : H a = none) : But j H (upd H' a o) := fun c u n e => by
  rw [upd_ne (ne_of_none e h)]; exact b c u n e
theorem But.free {j a : Addr} {H H' : Hp} {o : HO} (b : But j H H') (hj : H' j = some o) (h : H' a = none) : H a = none := by
  cases e : H a with
  | none => rfl
  | some u =>
    have n : a ≠ j := fun z => by rw [z, hj] at h; cases h
    rw [b a u n e] at h; cases h
/-- a jug stands at j -/
def JugAt (H : Hp) (j : Addr) : Prop := ∃ a b c : Int, H j = some (.lst [.int a, .int b, .int c]) ∧ 0 ≤ a
theorem JugAt.upd {H : Hp} {j a : Addr} {o : HO} (h : JugAt H j) (n : H a = none) : JugAt (upd H a o) j := by
  obtain ⟨x, b, c, e, q⟩ := h
  exact ⟨x, b, c, by rw [upd_ne (ne_of_none e n)]; exact e, q⟩
theorem JugAt.ne {H : Hp} {j a : Addr} (h : JugAt H j) (n : H a = none) : j ≠ a := by
  obtain ⟨x, b, c, e, q⟩ := h
  exact ne_of_none e n
theorem JugAt.put {H : Hp} {j a : Addr} {o : HO} (h : JugAt H j) (n : j ≠ a) : JugAt (L2.upd H a o) j := by
  obtain ⟨x, b, c, e, q⟩ := h
  exact ⟨x, b, c, by rw [upd_ne n]; exact e, q⟩
theorem JugAt.same {H H' : Hp} {j : Addr} (h : JugAt H j) (s : Same H H') : JugAt H' j := by
  obtain ⟨x, b, c, e, q⟩ := h
  exact ⟨x, b, c, s _ _ e, q⟩
theorem But.tups {H H' : Hp} {j : Addr} (b : But j H H') (h : JugAt H j) : TupS H H' := fun a xs e => by
  obtain ⟨x, y, c, q, _⟩ := h
  exact e.keep fun o eo => b a o (e.neL q) eo
theorem But.freeJ {j a : Addr} {H H' : Hp} (b : But j H H') (hj : JugAt H' j) (h : H' a = none) : H a = none := by
  obtain ⟨x, y, c, q, _⟩ := hj
  exact b.free q h
theorem TupS.trans {H H1 H2 : Hp} (a : TupS H H1) (b : TupS H1 H2) : TupS H H2 := fun p xs e => b p xs (a p xs e)
theorem TupS.lst {H : Hp} {D : Addr} {xs : List V} {o : HO} (h : H D = some (.lst xs)) : TupS H (upd H D o) := fun a ys e => e.keep fun u eu => by
  rw [upd_ne (e.neL h)]; exact eu
theorem TupS.new {H : Hp} {D : Addr} {o : HO} (h : H D = none) : TupS H (upd H D o) := Same.tups (same_upd h)
/-- a written list of ints, at a place in it -/
theorem pick {xs : List Int} {d : Int} (h0 : 0 ≤ d) (h1 : d < xs.length) : ∃ z, z ∈ xs ∧ atI (xs.map V.int) d = some (.int z) := by
  obtain ⟨k, rfl⟩ : ∃ k : Nat, d = k := ⟨d.toNat, by omega⟩
  have hk : k < xs.length := by omega
  exact ⟨xs[k], List.getElem_mem hk, atI_nat (by rw [List.getElem?_map, List.getElem?_eq_getElem hk]; rfl)⟩
theorem pickV {xs : List V} {d : Int} (h0 : 0 ≤ d) (h1 : d < xs.length) : ∃ z, z ∈ xs ∧ atI xs d = some z := by
  obtain ⟨k, rfl⟩ : ∃ k : Nat, d = k := ⟨d.toNat, by omega⟩
  have hk : k < xs.length := by omega
  exact ⟨xs[k], List.getElem_mem hk, atI_nat (List.getElem?_eq_getElem hk)⟩

/-! ### councils as plain data -/
def dRow (r : List Int) : PyData := .tuple (r.map PyData.int)
def dWay (w : List (List Int)) : PyData := .tuple (w.map dRow)
def dWays (ws : List (List (List Int))) : PyData := .tuple (ws.map dWay)
def dMinds (ms : List Str) : PyData := .tuple (ms.map PyData.str)
def RowOk (n : Nat) (r : List Int) : Prop := r.length = n ∧ (∀ x ∈ r, 0 ≤ x ∧ x ≤ 1000000000) ∧ 0 < r.sum
def WayOk (n : Nat) (w : List (List Int)) : Prop := w.length = n ∧ ∀ r ∈ w, RowOk n r
def pool8 : List Str := ["ann", "bob", "cyd", "d2", "e", "z9999999", "abe", "x"]
/-- what the law draws: up to six minds of the pool, up to four ways -/
structure Drawn (ms : List Str) (ws : List (List (List Int))) : Prop where
  m1 : 1 ≤ ms.length
  m6 : ms.length ≤ 6
  nd : ms.Nodup
  pool : ∀ x ∈ ms, x ∈ pool8
  w1 : 1 ≤ ws.length
  w4 : ws.length ≤ 4
  way : ∀ w ∈ ws, WayOk ms.length w
  sm : ∀ w ∈ ws, ∀ r ∈ w, ∀ x ∈ r, x ≤ 7 ∨ x = 1000000000


/-! ### the sum of a tuple of ints -/
def rSumT (K : PySem.W.Frag) : List V → Hp → VK → Prop := fun vs H Q => ∃ (a : Addr) (ns : List Int), vs = [V.ref a] ∧ SqT K H a (ns.map V.int) ∧ Q (.int ns.sum) H
theorem sumT {X : Cx} (K : PySem.W.Frag) (hc : X.calm = true := by rfl) (h : X.K = K := by rfl) : CallR X (.builtin "sum") (rSumT K) := by
  subst h
  intro pins s σ H vs us Q I r h
  obtain ⟨a, ns, rfl, hs, q⟩ := h
  obtain ⟨its, rv, hl, _⟩ := I.tuple hs
  cases r with
  | cons r1 rr =>
    cases rr
    cases r1
    have hi := intsAre_of rv
    obtain ⟨xs, e⟩ := hi.allInts.items
    have hn : numsOf (intItems xs).toList = ns := by rw [← e]; exact hi.numsOf
    rw [nums_intItems] at hn
    rw [e] at hl
    refine PySem.W.ktm_sumG (I.ok.hd hc) hl fun h' tk t' hk => ?_
    rw [preSum_eq, List.take_of_length_le (by simp), hn]
    exact ⟨.int ns.sum, H, I.kept (t' := tk) hk, ⟨_, rfl⟩, q⟩

/-! ### a comprehension whose turns leave what stood: what it makes is told ahead -/
def PvS (H : Hp) (D : Addr) (fl : List V) (i : Nat) (H1 : Hp) : Prop := Same H H1 ∧ H1 D = some (.lst (fl.take i))
section
variable {H H1 H2 : Hp} {D : Addr} {fl : List V} {i : Nat} {y : V}
theorem pvs0 (hD : H D = none) : PvS H D fl 0 (upd H D (.lst [])) := ⟨same_upd hD, upd_same⟩
theorem pvs1 (hD : H D = none) (h : PvS H D fl i H1) (s : Same H1 H2) (hn : fl.length ≤ 1000) (hf : fl[i]? = some y) : ∃ acc : List V, H2 D = some (.lst acc) ∧ acc.length < sizeLine ∧
    PvS H D fl (i + 1) (upd H2 D (.lst (acc ++ [y]))) := by
  refine ⟨_, s D _ h.2, small1000 (by rw [List.length_take]; omega), fun b o e => ?_, ?_⟩
  · rw [upd_ne (ne_of_none e hD)]
    exact s b o (h.1 b o e)
  · rw [upd_same, List.take_succ, hf]
    rfl
theorem pvsE {n : Nat} (h : PvS H D fl n H1) (hn : fl.length = n) : Same H H1 ∧ H1 D = some (.lst fl) := by
  obtain ⟨a, b⟩ := h
  rw [← hn, List.take_length] at b
  exact ⟨a, b⟩
end
end U

namespace U
open PySem L2 PySem.Spec PyProof.Rows
/-! ### enumerate(t), t a tuple -/
abbrev tIt (t : Addr) : Obj := { cls := .type "tuple_iterator", data := .fields #[.ref t, .int 0 0] }
abbrev eOb (i : Addr) : Obj := { cls := .type "enumerate", data := .fields #[.none, .bool false, .ref i, rawInt 0, .none, .none] }
theorem enumT_new (t : Addr) (items : Array Value) : Meets (Builtin.«enumerate.__new__» ⟨[.type "enumerate", .ref t], []⟩) (fun _ R s => s.heap.IsTuple t items ∧
    R (.ok (.ret (.ref (s.heap.push (tIt t)).objs.size))) { s with heap := (s.heap.push (tIt t)).push (eOb s.heap.objs.size) }) :=
  Meets.of_wp fun prog w A R s h => by
    obtain ⟨hp, g, d, tk, os⟩ := s
    obtain ⟨ht, h⟩ := h
    have hsub := sub_enumerate
    have step : ∀ {A' : Around} {E Q : Value → Shared → Prop}, Q (.ref hp.objs.size) ⟨hp.push (tIt t), g, d, tk, os⟩ → wpAny (model prog w) A' (pyIter (.ref t)) Q E ⟨hp, g, d, tk, os⟩ := fun q => wpAny_pyIter_tuple ht q
    wp_walk using step
    refine wpAny_stack_any fun st => wpAny_pure ?_
    split
    · rename_i c _ _ _ _ _
      cases (c == Value.type "enumerate") <;> (wp_walk using step; exact ⟨_, rfl, h⟩)
    · wp_walk using step
      exact ⟨_, rfl, h⟩
theorem call_enumT {prog : Program} {w : World} {A : Around} {E : Value → Shared → Prop} {s : Shared} {t : Addr} {items : Array Value} {Q : Value → Shared → Prop} (ht : s.heap.IsTuple t items)
    (h : ∀ h', IsEnum h' (s.heap.objs.size + 1) s.heap.objs.size 0 .none → h'.IsTupleIter s.heap.objs.size t 0 → (∀ b o, s.heap.get? b = some o → h'.get? b = some o) → Q (.ref (s.heap.objs.size + 1)) { s with heap := h' }) :
    wpAny (model prog w) A (call (.type "enumerate") [.ref t]) Q E s := by
  refine callType_new F.called_enumerate (by decide) (F.typeCall_enumerate_1 _) (F.newCall_enumerate_1 _) (fun obj => F.args_object_init_2 obj _) F.entry_enumerate_new (enumT_new t items) ⟨ht, ?_⟩
  have hz : (s.heap.push (tIt t)).objs.size = s.heap.objs.size + 1 := Heap.size_push ..
  show _ ∧ _
  rw [hz]
  have he : IsEnum ((s.heap.push (tIt t)).push (eOb s.heap.objs.size)) (s.heap.objs.size + 1) s.heap.objs.size 0 .none := by
    have q := Heap.get?_push_size (s.heap.push (tIt t)) (o := eOb s.heap.objs.size) rfl
    rw [hz] at q
    exact q
  exact ⟨⟨_, he, rfl⟩, h _ he ⟨_, Heap.get?_push_of_some _ (Heap.get?_push_size _ rfl), rfl, rfl⟩ fun b o x => Heap.get?_push_of_some _ (Heap.get?_push_of_some _ x)⟩
/-- the tuple at a, each item in a new pair -/
def IteT (K : PySem.W.Frag) (a : Addr) : It where
  go := fun i H => ∃ (xs : List V) (x : V), SqT K H a xs ∧ xs[i]? = some x
  yld := fun i H v H' => ∃ (T : Addr) (x : V), v = .ref T ∧ H T = none ∧ H' = upd H T (.tup [.int (i : Nat), x]) ∧ ∀ xs : List V, SqT K H a xs → xs[i]? = some x
  stop := fun i H => ∃ xs : List V, SqT K H a xs ∧ xs.length = i
theorem turn_enumT {P : Program} {w : World} {K : PySem.W.Frag} {elts : List Expr} {kk : Nat} {tpos : Pos} (a e it : Addr) (hat : a ≠ it) :
    Turn P w K (.Tuple elts kk tpos) (IteT K a) [e, it] e (fun i h => (∃ old, IsEnum h e it ((i : Nat) : Int) old) ∧ h.IsTupleIter it a i ∧ e ≠ it ∧ e ≠ a) where
  mem := by simp
  obj := fun i h st b hb => by
    obtain ⟨⟨old, he⟩, ⟨o, ho, hc, hd⟩, _⟩ := st
    rcases (by simpa using hb : b = e ∨ b = it) with rfl | rfl
    · exact ⟨_, he, fun v q => nomatch q⟩
    · exact ⟨o, ho, fun v q => by rw [hd] at q; cases q⟩
  keep := fun i h h' st k => by
    obtain ⟨⟨old, he⟩, hi, h1, h2⟩ := st
    exact ⟨⟨old, k e (by simp) _ he⟩, hi.at fun o q => k it (by simp) o q, h1, h2⟩
  item := by
    intro X hP hw hK hc i pins s σ H E I hf st hg
    subst hP hw hK
    obtain ⟨⟨old, he⟩, hit, hne, hea⟩ := st
    obtain ⟨xs, x, hq, hx⟩ := hg
    obtain ⟨its, rv, p, hz⟩ := I.tuple hq
    obtain ⟨u, hu, ru⟩ := rv.get hx
    have D := Draws.tuple (prog := X.prog) (w := X.w) (A := X.A.in1) (I.ok.hd hc) it a hat its.toArray
    have hi : i < its.toArray.size := by
      have := (List.getElem?_eq_some_iff.mp hu).1
      simpa using this
    have hel : e < s.heap.objs.size := Heap.lt_size he
    have hil : it < s.heap.objs.size := by obtain ⟨_, q, _⟩ := hit; exact Heap.lt_size q
    refine wpAny_pyNext_enum_itemC D he ⟨hit, p⟩ hi hne (by simp [hne, hea]) fun y h' tk hy ho hst hT hsz hk => ?_
    have hyu : y = u := by
      have : its.toArray[i]? = some u := by simpa using hu
      rw [this] at hy
      exact (Option.some.inj hy).symm
    subst hyu
    refine ⟨_, rfl, wpAny_letOwnedTupleGo_enum (s := { s with heap := h', toks := tk + 1 }) ho fun h'' he' sb => ?_⟩
    have hT2 : h''.get? s.heap.objs.size = some { cls := .type "tuple", data := .seq #[.int i tk, y] } := (sb.2 _ (Nat.ne_of_gt hel)).trans hT
    have new : ObjOk X.prog X.w (upd H s.heap.objs.size (.tup [.int (i : Nat), x])) h'' s.heap.objs.size (.tup [.int (i : Nat), x]) :=
      ⟨by show 2 ≤ sizeLine; decide, [.int i tk, y], .cons ⟨_, rfl⟩ (.cons ru .nil), _, hT2, rfl, _, rfl⟩
    have I1 : Inv X pins σ (upd H s.heap.objs.size (.tup [.int (i : Nat), x])) { s with heap := h'', toks := tk + 1 } := by
      refine I.turnedNew (ch := [e, it]) (fun b ob hb q => ?_) hf (Nat.le_refl _) new
      have n1 : b ≠ e := fun z => hb (by simp [z])
      have n2 : b ≠ it := fun z => hb (by simp [z])
      exact (sb.2 b n1).trans (hk b ob n1 n2 q)
    refine ⟨.ref s.heap.objs.size, _, I1, rfl, ⟨_, x, rfl, I.hok.fresh (Nat.le_refl _), rfl, fun ys hy => by rw [I.tuple_inj hy hq]; exact hx⟩, ⟨⟨y, ?_⟩, hst.1.at fun o q => (sb.2 it (Ne.symm hne)).trans q, hne, hea⟩, fun b hb => ?_⟩
    · have e1 : ((i + 1 : Nat) : Int) = (i : Int) + 1 := by omega
      rw [e1]
      exact he'
    · have hb' : b < s.heap.objs.size := by
        rcases (by simpa using hb : b = e ∨ b = it) with rfl | rfl
        · exact hel
        · exact hil
      rw [upd_ne (Nat.ne_of_lt hb')]
      exact (hf b hb).1
  done := by
    intro X hP hw hK hc i pins s σ H E I hf st hg
    subst hP hw hK
    obtain ⟨⟨old, he⟩, hit, hne, hea⟩ := st
    obtain ⟨xs, hq, hx⟩ := hg
    obtain ⟨its, rv, p, hz⟩ := I.tuple hq
    have D := Draws.tuple (prog := X.prog) (w := X.w) (A := X.A.in1) (I.ok.hd hc) it a hat its.toArray
    have hl := rv.length
    obtain ⟨f0, f1, f2, f3, f4, f5⟩ := hf it (by simp)
    have en : its.toArray.size = i := by simp only [List.size_toArray]; omega
    subst en
    exact wpAny_pyNext_enum_endD D he ⟨hit, p⟩ fun h' eb => ⟨rfl, I.turned (t' := s.toks) (fun b o hb q => eb b o hb q) f0 f1 f3 f4 f5⟩
  self := fun A i s Q E st h => by
    obtain ⟨⟨_, he⟩, _⟩ := st
    exact wpAny_pyIter_enum he h
/-- a walk over enumerate(t) -/
def iEnumT (K : PySem.W.Frag) (ta : TA) : TI := fun σ H R => ta σ H fun vs H1 => ∃ (a : Addr) (xs : List V), vs = [.ref a] ∧ SqT K H1 a xs ∧ R (IteT K a) H1
theorem pi_enumT {X : Cx} (K : PySem.W.Frag) {e : Expr} {ta : TA} {p pos tpos : Pos} {elts : List Expr} {kk : Nat} (hg : Gl X "enumerate") (hm : X.mg "enumerate" = none) (ha : PA X [e] ta) (hK : X.K = K := by rfl) (hs : starEach [e] X.env = [(false, eval e X.env)] := by rfl) :
    PI X (.Tuple elts kk tpos) (.Call (.Name "enumerate" p) [e] [] pos) (iEnumT K ta) := by
  subst hK
  constructor
  intro pins s σ H R I h
  refine Call_ (ld_blt I hg hm boot_enumerate (callWith_type1 (thn (ha.run pos pins s σ H _ I h) fun us s1 ⟨vs, H1, I1, r1, a, xs, ex, hq, q⟩ => ?_) hs rfl))
  subst ex
  cases r1 with
  | cons r rr =>
    cases rr
    cases r
    obtain ⟨its, rv, p', hz⟩ := I1.tuple hq
    have hal : a < s1.heap.objs.size := p'.lt
    refine call_enumT p' fun h' he hit hk => wpAny_pyIter_enum he ?_
    have I2 : Inv X pins σ H1 { s1 with heap := h' } := I1.kept (t' := s1.toks) hk
    refine ⟨s1.heap.objs.size + 1, [s1.heap.objs.size + 1, s1.heap.objs.size], _, _, H1, rfl, I2, turn_enumT a (s1.heap.objs.size + 1) s1.heap.objs.size (Nat.ne_of_lt hal), ⟨⟨.none, he⟩, hit, Nat.succ_ne_self _, Nat.ne_of_gt (Nat.lt_succ_of_lt hal)⟩, fun b hb => ?_, q⟩
    have hle : s1.heap.objs.size ≤ b := by
      rcases (by simpa using hb : b = s1.heap.objs.size + 1 ∨ b = s1.heap.objs.size) with rfl | rfl
      · exact Nat.le_add_right _ _
      · exact Nat.le_refl _
    exact I1.fpOk hle (I1.hok.fresh hle)
theorem walk_enumT {K : PySem.W.Frag} {a : Addr} {xs : List V} : Walk (IteT K a) xs.length (fun H => SqT K H a xs) (fun i H v H' => ∃ (T : Addr) (x : V), v = .ref T ∧ H T = none ∧ H' = upd H T (.tup [.int (i : Nat), x]) ∧ xs[i]? = some x) where
  goes := fun i H hi hq => ⟨xs, xs[i], hq, by rw [List.getElem?_eq_getElem hi]⟩
  stops := fun H hq => ⟨xs, hq, rfl⟩
  yields := fun i H v H' hi hq ⟨T, x, h1, h2, h3, h4⟩ => ⟨T, x, h1, h2, h3, h4 xs hq⟩
end U

namespace U
open PySem L2 PySem.Spec PyProof.Rows
/-! ### defs that show data (repr asks that no repr is under way): a promise that holds where no guard stands -/
structure FnG (P : Program) (w : World) (K : PySem.W.Frag) (mg : Str → Option Value) (base : Heap) (CX : CXT) (k : Nat) (f : Addr) (fd : FuncData) (ps : List Str) (sp : Sp) : Prop where
  len : ∀ vs H Q E, sp vs H Q E → vs.length = ps.length
  run : ∀ (A : Around) (outer : List Env) (s : Shared) (H : Hp) (args : Args) (us : List Value) (vs : List V) (Q : VK) (E : XK), A.guards = some [] → Room k A → Env0 P w K mg base A outer s H →
    BindsTo s fd args (ps.zip us) → Vals vs us → sp vs H Q E → codeAny (model P w) A (.call (.ref f) args) (CR CX outer P w H s Q E) s
theorem FnG.of {P : Program} {w : World} {K : PySem.W.Frag} {mg : Str → Option Value} {base : Heap} {CX : CXT} {k : Nat} {f : Addr} {fd : FuncData} {ps : List Str} {sp : Sp} (F : FnOk P w K mg base CX k f fd ps sp) : FnG P w K mg base CX k f fd ps sp :=
  ⟨F.len, fun A outer s H args us vs Q E _ hr e0 hb r h => F.run A outer s H args us vs Q E hr e0 hb r h⟩
theorem fnG_of {P : Program} {w : World} {K : PySem.W.Frag} {mg : Str → Option Value} {base : Heap} {CX : CXT} {x qual : Str} {st : Stmt} {f : Addr} {fd : FuncData} {N ps : List Str} {k : Nat} {sp : Sp} (F : Fun K x qual st f fd) (S : FnScope N ps (defScope st))
    (len : ∀ vs H Q E, sp vs H Q E → vs.length = ps.length)
    (body : ∀ (cdv : Value) (A : Around) (outer : List Env) (s : Shared) (H : Hp) (vs : List V) (Q : VK) (E : XK), (A.deeper (envOfC qual (defScope st) s.heap.objs.size f cdv)).guards = some [] →
      Room k (A.deeper (envOfC qual (defScope st) s.heap.objs.size f cdv)) → sp vs H Q E →
      ∃ t, PSs (cxOf CX P w K mg base N qual (defScope st) f cdv A outer s H E) (defBody st) t ∧ t { nx := fun _ H' => Q .non H', rt := Q } (start N vs) H) : FnG P w K mg base CX (k + 1) f fd ps sp := by
  obtain ⟨oc, od, kV, doc, pm, an, cdv, ct, osl, rfl, lk, hcd⟩ := F.ex
  constructor
  · exact len
  intro A outer s H args us vs Q E hgd hr e0 hb r hsp
  have X0 : K.In s.heap := e0.mod.kin.keeps fun b o e => (e0.bs b o e).1
  have L0 : s.heap.NoLimit := e0.mod.nolimit.keeps fun b o e => (e0.bs b o e).1
  have kinds : ∀ y ∈ ps.zip us, (defScope st).names.lookup y.1 = some .local ∨ ((defScope st).names.lookup y.1 = some .cell ∧ ((cellsFrom (s.heap.objs.size + 1) (defScope st).names []).lookup y.1).isSome = true) := by
    rintro ⟨n, v⟩ hy
    rcases S.par n (List.of_mem_zip hy).1 with q | q
    · exact Or.inl q
    · exact Or.inr ⟨q, PySem.W.cellsFrom_some _ _ _ (Or.inl q)⟩
  refine codeAny_call_function hr.depth (X0 _ _ lk) rfl S.co S.gen rfl (PySem.W.codeRec_of X0 hcd) (hb _ _ _ _ ?_)
  refine wpAny_newFunctionEnv_cells S.kind kinds fun env he s1 x => ?_
  subst he
  refine ⟨L0.keeps x.toInCall.keep, codeAny_func ?_⟩
  obtain ⟨t, ht, hq⟩ := body cdv A outer s H vs Q E hgd (hr.deeper _) hsp
  have I := inv_start (CX := CX) (E := E) S hr.hd e0 (len _ _ _ _ hsp) r x
  refine wpAny_mono (ht.run [] s1 (start N vs) H _ I hq) (fun fl s' hs => ?_) fun e s' hs => hs
  cases fl with
  | ret u =>
    obtain ⟨v, σ', H', J, rv, q⟩ := hs
    exact ⟨v, H', J.os, J.bare, J.base, J.hok, rv, q⟩
  | next =>
    obtain ⟨σ', H', J, q⟩ := hs
    exact ⟨V.non, H', J.os, J.bare, J.base, J.hok, rfl, q⟩
  | brk =>
    obtain ⟨_, _, _, q⟩ := hs
    exact q.elim
  | cont =>
    obtain ⟨_, _, _, q⟩ := hs
    exact q.elim
/-- the same where nothing is raised out of it -/
theorem fnG0 {P : Program} {w : World} {K : PySem.W.Frag} {mg : Str → Option Value} {base : Heap} {x qual : Str} {st : Stmt} {f : Addr} {fd : FuncData} {N ps : List Str} {k : Nat} {sp : Sp} (F : Fun K x qual st f fd) (S : FnScope N ps (defScope st))
    (len : ∀ vs H Q E, sp vs H Q E → vs.length = ps.length)
    (body : ∀ (cdv : Value) (A : Around) (outer : List Env) (s : Shared) (H : Hp) (vs : List V) (Q : VK) (E : XK), (A.deeper (envOfC qual (defScope st) s.heap.objs.size f cdv)).guards = some [] →
      Room k (A.deeper (envOfC qual (defScope st) s.heap.objs.size f cdv)) → sp vs H Q E →
      ∃ t, PSs (cxOf CX0 P w K mg base N qual (defScope st) f cdv A outer s H E).nox (defBody st) t ∧ t { nx := fun _ H' => Q .non H', rt := Q } (start N vs) H) : FnG P w K mg base CX0 (k + 1) f fd ps sp :=
  fnG_of F S len fun cdv A outer s H vs Q E hg hr h => by
    obtain ⟨t, h1, h2⟩ := body cdv A outer s H vs Q E hg hr h
    exact ⟨t, h1.nox, h2⟩
structure DefG (P : Program) (w : World) (K : PySem.W.Frag) (mg : Str → Option Value) (base : Heap) (k : Nat) (x : Str) (ps : List Str) (sp : Sp) : Prop where
  ex : ∃ (f : Addr) (fd : FuncData), FnG P w K mg base CX0 k f fd ps sp ∧ mg x = some (.ref f) ∧ PySem.W.keepIn K (.ref f) = true ∧ Binds K fd ps []
section
variable {X : Cx}
theorem pe_fnG {k j : Nat} {x : Str} {ps : List Str} {sp : Sp} {e : Expr} {es : List Expr} {t : TA} {p pos : Pos} (D : DefG X.prog X.w X.K X.mg X.base k x ps sp) (hgd : X.A.guards = some []) (hr : Room j X.A) (hk : k ≤ j)
    (ha : PA X (e :: es) t) (hg : Gl X x := by rfl) (hdb : (x == ("__debug__" : Str)) = false := by decide) (he : starEach (e :: es) X.env = (false, eval e X.env) :: starEach es X.env := by rfl) (hpl : (backTo pos (starEach es X.env)).any (·.1) = false := by rfl) :
    PE X (.Call (.Name x p) (e :: es) [] pos) (tCall sp [] E0 t) := by
  obtain ⟨f, fd, F, hm, hkp, hb⟩ := D.ex
  constructor
  intro pins s σ H Q I h
  refine wpAny_Call_Name_kw (ld_glob I hg hm ?_ hdb)
  refine PySem.W.callWith_K (h₀ := X.base) I.ok.mod.kin hkp (thn (ha.run pos pins s σ H _ I h) fun us s1 hh => ?_) he hpl
  obtain ⟨vs, H1, I1, r, q⟩ := hh
  refine ⟨I1.kIn, ?_⟩
  rw [List.append_nil] at q
  have hl : us.length = ps.length := by rw [← r.length]; exact F.len _ _ _ _ q
  have hbd := hb s1 us I1.kIn (by rw [List.append_nil]; exact hl)
  rw [List.append_nil] at hbd
  refine wpAny_call (codeAny_mono (F.run X.A X.stack s1 H1 ⟨us, []⟩ us vs Q E0 hgd (hr.mono hk) I1.env0 hbd r q) fun rr s' hq => ?_)
  cases rr with
  | error e => exact (show False from hq).elim
  | ok fl =>
    cases fl with
    | ret u => exact I1.after hq
    | next => exact (show False from hq).elim
    | brk => exact (show False from hq).elim
    | cont => exact (show False from hq).elim
end
/-- the law's own call, by such a promise -/
theorem lawG {P : Program} {w : World} {K : PySem.W.Frag} {mg mb : Str → Option Value} {k : Nat} {fa a : Addr} {fd : FuncData} {x : Str} {sp : Sp} {s₁ : Shared} {vs : List Value} {ns : List Int}
    (KX : K.In s₁.heap) (hns : s₁.heap.Ns mainGlobals mg) (hb : s₁.heap.Ns builtinsNs mb) (hbb : ∀ x : Str, x ≠ "__name__" → mb x = bootBuiltins x) (hlim : s₁.heap.NoLimit) (hg : s₁.gens = #[])
    (ha : s₁.heap.get? a = some { cls := .type "list", data := .seq vs.toArray }) (hi : IntsAre vs ns) (hl : ns.length ≤ sizeLine) (hr : Room k callerA)
    (F : ∀ base : Heap, K.In base → base.Ns mainGlobals mg → FnG P w K mg base CX0 k fa fd [x] sp) (hbind : ∀ (s : Shared) (u : Value), BindsTo s fd ⟨[u], []⟩ [(x, u)])
    (hsp : ∀ H : Hp, SqL K H a (ns.map V.int) → sp [.ref a] H (fun v _ => v = .bl true) fun _ _ _ => False) :
    codeAny (model P w) callerA (.call (.ref fa) ⟨[.ref a], []⟩) (fun r s' => r = .ok (.ret (.bool true)) ∧ OldK s₁.heap s'.heap ∧ s'.os = s₁.os ∧ AllBare s'.gens) s₁ := by
  have rv := vals_ints hi
  have lenV := hi.length
  obtain ⟨H, hOnly, hSq, hOk, hAt, hNo⟩ : ∃ H : Hp, (∀ b, H b = none ∨ ∃ o xs, H b = some (.frz o (.lst xs))) ∧ SqL K H a (ns.map V.int) ∧ HOk P w H s₁.heap ∧ (∀ b u, H b = some u → b = a) ∧ (∀ u, H a = some u → K.lookup a = none) := by
    cases hk : K.lookup a with
    | some o =>
      have e := KX a o hk
      rw [ha] at e
      cases e
      exact ⟨fun _ => none, fun _ => Or.inl rfl, Or.inr ⟨_, vs.toArray, _, hk, rfl, rfl, rfl, by rw [List.size_toArray, lenV]; exact hl, by simpa using rv⟩, fun b u z => (nomatch z), fun b u z => (nomatch z), fun u z => (nomatch z)⟩
    | none =>
      refine ⟨upd (fun _ => none) a (.frz { cls := .type "list", data := .seq vs.toArray } (.lst (ns.map V.int))), fun b => ?_, Or.inl (Or.inr ⟨_, upd_same⟩), fun b u z => ?_, fun b u z => ?_, fun _ _ => rfl⟩
      · by_cases e : b = a
        · rw [e, upd_same]; exact Or.inr ⟨_, _, rfl⟩
        · rw [upd_ne e]; exact Or.inl rfl
      · by_cases e : b = a
        · rw [e, upd_same] at z
          cases z
          rw [e]
          exact ⟨ha, by rw [List.length_map]; exact hl, vs, _, rv, ha⟩
        · rw [upd_ne e] at z; cases z
      · by_cases e : b = a
        · exact e
        · rw [upd_ne e] at z; cases z
  have free : ∀ {b : Addr} {o : Obj}, s₁.heap.get? b = some o → (∀ n m, o.data ≠ .seq n m) → H b = none := fun {b o} e d => by
    cases q : H b with
    | none => rfl
    | some u =>
      have eb := hAt b u q
      rw [eb, ha] at e
      cases e
      exact absurd rfl (d _ _)
  have nsH : ∀ {b : Addr} {m : Str → Option Value}, s₁.heap.Ns b m → (hidT s₁.heap H).Ns b m := fun {b m} ⟨o, es, ep, e, d, r⟩ => ⟨o, es, ep, hidT_get e (free e fun n m z => by rw [d] at z; cases z), d, r⟩
  have kH : K.In (hidT s₁.heap H) := fun b o e => hidT_get (KX b o e) (by
    cases q : H b with
    | none => rfl
    | some u =>
      have eb := hAt b u q
      rw [eb] at e q
      rw [hNo u q] at e
      cases e)
  obtain ⟨mc, l1, l2⟩ := hlim
  have e0 : Env0 P w K mg (hidT s₁.heap H) callerA [] s₁ H :=
    { frames := rfl, mod := { kin := kH, glob := nsH hns, blt := ⟨mb, nsH hb, hbb⟩, nolimit := ⟨mc, nsH l1, l2⟩ }, bs := fun b o e => of_hidT e, bsz := Nat.le_of_eq (hidT_size _ _), funs := trivial, frf := fun b z => (nomatch z), hok := hOk, bare := .of_eq hg }
  refine codeAny_mono ((F _ kH (nsH hns)).run callerA [] s₁ H ⟨[.ref a], []⟩ [.ref a] [.ref a] _ _ rfl hr e0 (hbind s₁ (.ref a)) (.cons rfl .nil) (hsp H hSq)) fun r s' h => ?_
  cases r with
  | error e => exact (show False from h).elim
  | ok fl =>
    cases fl with
    | next => exact (show False from h).elim
    | brk => exact (show False from h).elim
    | cont => exact (show False from h).elim
    | ret u =>
      obtain ⟨v, H', os, bare, un, hok', r', q⟩ := h
      obtain rfl : v = .bl true := q
      obtain rfl : u = Value.bool true := r'
      refine ⟨rfl, OldK.of_keep fun b o e => ?_, os, bare⟩
      cases q : H b with
      | none => exact un.keep b o e q (fun z => nomatch z) (fun z => nomatch z)
      | some u =>
        rcases hOnly b with z | ⟨ob, xs, z⟩
        · rw [q] at z; cases z
        · have g1 := (hOk b _ z).1
          have g2 := (hok' b _ (un.frzs b ob _ z)).1
          rw [g1] at e
          cases e
          exact g2
theorem walkG {l : PySem.W.OpenLaw} {n k : Nat} {q : Program} {loose : List Str} {XP : (Str → Option Value) → Heap → Prop} {YP : World → Heap → Prop} {d : DefRec} {K : Params → PySem.W.Frag} {sp : PySem.W.Frag → Sp} {x : Str}
    (hn : l.most = some n) (hn2 : n ≤ sizeLine) (hdf : d.params.defaults = []) (hr : Room k callerA) (hY : ∀ (w : World) (h : Heap), YP w h → (K w.params).In h)
    (F : ∀ (w : World) (mg : Str → Option Value) (fa : Addr) (h : Heap), (K w.params).In h → h.Ns mainGlobals mg → mg d.name = some (.ref fa) →
      ∃ fd : FuncData, (∀ (s : Shared) (u : Value), BindsTo s fd ⟨[u], []⟩ [(x, u)]) ∧ ∀ base : Heap, (K w.params).In base → base.Ns mainGlobals mg → FnG l.prog w (K w.params) mg base CX0 k fa fd [x] (sp (K w.params)))
    (hsp : ∀ (K : PySem.W.Frag) (H : Hp) (a : Addr) (ns : List Int), ns.length ≤ n → SqL K H a (ns.map V.int) → sp K [.ref a] H (fun v _ => v = .bl true) fun _ _ _ => False) :
    PySem.W.WalkO q loose XP YP l.row.toRowW d [] (fun f vs => PySem.call f vs) := by
  refine Att.attach_call hn hdf fun w s₀ s₁ mg mb fa o pm cd doc a vs ns G Y ho hd hcd hmg hobj hints hlen hg => ?_
  obtain ⟨fd, hb, hF⟩ := F w mg fa _ (hY w _ Y) G.T.g hmg
  exact lawG (hY w _ Y) G.T.g G.T.b G.T.builtins G.T.nolimit hg hobj hints (Nat.le_trans hlen hn2) hr hF hb fun H hS => hsp _ H a ns hlen hS
end U

namespace M
open PySem L2 U
def top (i : Nat) : Stmt := PySem.Challenge.pw_alwaysagree_k63_whole_days_by_shares.main.body.getD i (.Pass ⟨0, 0, 0, 0⟩)
/-- what the built-ins' names are not: names of the module -/
structure Bt (mg : Str → Option Value) : Prop where
  len : mg "len" = none
  range : mg "range" = none
  int : mg "int" = none
  abs : mg "abs" = none
  divmod : mg "divmod" = none
  sum : mg "sum" = none
  tuple : mg "tuple" = none
  all : mg "all" = none
  max : mg "max" = none
  min : mg "min" = none
  str : mg "str" = none
  bool : mg "bool" = none
  isinstance : mg "isinstance" = none
  enumerate : mg "enumerate" = none
  repr : mg "repr" = none
  g_LETTERS : ∃ u, mg "LETTERS" = some u ∧ RelV (.str "abcdefghijklmnopqrstuvwxyz") u
  g_LETTERS_AND_DIGITS : ∃ u, mg "LETTERS_AND_DIGITS" = some u ∧ RelV (.str "abcdefghijklmnopqrstuvwxyz0123456789") u
  g_LONGEST_NAME : ∃ u, mg "LONGEST_NAME" = some u ∧ RelV (.int 8) u
  g_MOST_MINDS : ∃ u, mg "MOST_MINDS" = some u ∧ RelV (.int 6) u
  g_MOST_WAYS : ∃ u, mg "MOST_WAYS" = some u ∧ RelV (.int 6) u
  g_MOST_WEIGHT : ∃ u, mg "MOST_WEIGHT" = some u ∧ RelV (.int 1000000000) u
abbrev sInt : Stmt := top 6
abbrev nInt : List Str := ["value"]
abbrev pInt : List Str := ["value"]
theorem scInt : FnScope nInt pInt (defScope sInt) := ⟨rfl, rfl, rfl, by decide +kernel, rfl, by decide +kernel, by decide +kernel⟩
abbrev sName : Stmt := top 8
abbrev nName : List Str := ["value", "sign"]
abbrev pName : List Str := ["value"]
theorem scName : FnScope nName pName (defScope sName) := ⟨rfl, rfl, rfl, by decide +kernel, rfl, by decide +kernel, by decide +kernel⟩
abbrev sWgt : Stmt := top 22
abbrev nWgt : List Str := ["value"]
abbrev pWgt : List Str := ["value"]
theorem scWgt : FnScope nWgt pWgt (defScope sWgt) := ⟨rfl, rfl, rfl, by decide +kernel, rfl, by decide +kernel, by decide +kernel⟩
abbrev sRoww : Stmt := top 23
abbrev nRoww : List Str := ["value", "many", "weight"]
abbrev pRoww : List Str := ["value", "many"]
theorem scRoww : FnScope nRoww pRoww (defScope sRoww) := ⟨rfl, rfl, rfl, by decide +kernel, rfl, by decide +kernel, by decide +kernel⟩
abbrev sWay : Stmt := top 24
abbrev nWay : List Str := ["value", "many", "row"]
abbrev pWay : List Str := ["value", "many"]
theorem scWay : FnScope nWay pWay (defScope sWay) := ⟨rfl, rfl, rfl, by decide +kernel, rfl, by decide +kernel, by decide +kernel⟩
abbrev sCMi : Stmt := top 25
abbrev nCMi : List Str := ["minds", "at", "mind"]
abbrev pCMi : List Str := ["minds"]
theorem scCMi : FnScope nCMi pCMi (defScope sCMi) := ⟨rfl, rfl, rfl, by decide +kernel, rfl, by decide +kernel, by decide +kernel⟩
abbrev sCWa : Stmt := top 26
abbrev nCWa : List Str := ["ways", "many", "at", "way"]
abbrev pCWa : List Str := ["ways", "many"]
theorem scCWa : FnScope nCWa pCWa (defScope sCWa) := ⟨rfl, rfl, rfl, by decide +kernel, rfl, by decide +kernel, by decide +kernel⟩
def spInt (K : PySem.W.Frag) : Sp := fun vs H Q _ => ∃ (x : V) (t : Value) (b1 b2 : Bool), vs = [x] ∧ TyX K H x t ∧ PySem.W.kitOne K t (.type "int") = some b1 ∧ PySem.W.kitOne K t (.type "bool") = some b2 ∧ Q (.bl (b1 && !b2)) H
def spWgt : Sp := fun vs H Q _ => ∃ (i : Int), vs = [.int i] ∧ Q (.bl (decide (0 ≤ i) && decide (i ≤ 1000000000))) H
/-- a row of ints, some number of them asked -/
def spRoww : Sp := fun vs H Q _ => ∃ (a : Addr) (r : List Int) (n : Int), vs = [.ref a, .int n] ∧ Tu H a (r.map V.int) ∧ r.length ≤ 1000 ∧
  ∀ H', Same H H' → Q (.bl (decide ((r.length : Int) = n) && ((r.all fun i => decide (0 ≤ i) && decide (i ≤ 1000000000)) && decide (0 < r.sum)))) H'
def nameB (x : Str) : Bool := decide (1 ≤ x.length) && decide (x.length ≤ 8) && (match x.cps.toList with | [] => false | c :: _ => decide (c ∈ ("abcdefghijklmnopqrstuvwxyz" : Str).cps.toList)) && x.cps.toList.all fun c => decide (c ∈ ("abcdefghijklmnopqrstuvwxyz0123456789" : Str).cps.toList)
def spName : Sp := fun vs H Q _ => ∃ (x : Str), vs = [.str x] ∧ x.length ≤ 1000 ∧ ∀ H', Same H H' → Q (.bl (nameB x)) H'
def rowB (n : Int) (r : List Int) : Bool := decide ((r.length : Int) = n) && ((r.all fun i => decide (0 ≤ i) && decide (i ≤ 1000000000)) && decide (0 < r.sum))
def spWay : Sp := fun vs H Q _ => ∃ (v : V) (ws : List (List Int)) (n : Int), vs = [v, .int n] ∧ Im H v (dWay ws) ∧ ws.length ≤ 1000 ∧ (∀ r ∈ ws, r.length ≤ 1000) ∧
  ∀ H', Same H H' → Q (.bl (decide ((ws.length : Int) = n) && ws.all (rowB n))) H'
/-- minds as a council has them -/
structure MindsOk (ms : List Str) : Prop where
  m1 : 1 ≤ ms.length
  m6 : ms.length ≤ 6
  nd : ms.Nodup
  nm : ∀ x ∈ ms, nameB x = true ∧ x.length ≤ 8
def spCMi : Sp := fun vs H Q _ => ∃ (v : V) (ms : List Str), vs = [v] ∧ Im H v (dMinds ms) ∧ MindsOk ms ∧ ∀ H', Same H H' → Q .non H'
theorem cutN {xs : List V} {i : Nat} (h : i ≤ xs.length) : cutV xs none (some (i : Int)) = xs.take i := by
  have e : HT.sIx xs.length xs.length (some (i : Int)) = i := by rw [HT.sIx_nat]; omega
  unfold cutV
  rw [e]
  show List.take (i - 0) (List.drop 0 xs) = _
  rw [Nat.sub_zero, List.drop_zero]
/-- ways as a council with so many minds has them -/
structure WaysOk (n : Nat) (ws : List (List (List Int))) : Prop where
  w1 : 1 ≤ ws.length
  w6 : ws.length ≤ 6
  n6 : n ≤ 6
  way : ∀ w ∈ ws, WayOk n w
theorem rowB_ok {n : Nat} {r : List Int} (h : RowOk n r) : rowB (n : Int) r = true := by
  obtain ⟨h1, h2, h3⟩ := h
  unfold rowB
  rw [decide_eq_true (by omega), decide_eq_true h3, Bool.true_and, Bool.and_true]
  refine List.all_eq_true.mpr fun x hx => ?_
  have := h2 x hx
  rw [decide_eq_true this.1, decide_eq_true this.2]; rfl
theorem wayB_ok {n : Nat} {w : List (List Int)} (h : WayOk n w) : (decide ((w.length : Int) = n) && w.all (rowB n)) = true := by
  obtain ⟨h1, h2⟩ := h
  rw [decide_eq_true (by omega), Bool.true_and]
  exact List.all_eq_true.mpr fun r hr => rowB_ok (h2 r hr)
def spCWa : Sp := fun vs H Q _ => ∃ (v : V) (n : Nat) (ws : List (List (List Int))), vs = [v, .int n] ∧ Im H v (dWays ws) ∧ WaysOk n ws ∧ ∀ H', Same H H' → Q .non H'
theorem nodup_take : ∀ {l : List Str} {i : Nat} (nd : l.Nodup) (hi : i < l.length), l[i] ∈ l.take i → False
  | [], _, _, h, _ => absurd h (Nat.not_lt_zero _)
  | x :: l, 0, _, _, hm => by simp at hm
  | x :: l, i + 1, nd, h, hm => by
    have hn := List.nodup_cons.mp nd
    have h' : i < l.length := Nat.lt_of_succ_lt_succ h
    have e : (x :: l)[i + 1] = l[i] := rfl
    rw [e, List.take_succ_cons] at hm
    rcases List.mem_cons.mp hm with q | q
    · exact hn.1 (q ▸ List.getElem_mem h')
    · exact nodup_take hn.2 h' q
theorem inV_strs {x : Str} {l : List Str} (h : x ∉ l) : inV (.str x) (l.map V.str) = false := by
  unfold inV
  rw [List.any_map]
  refine List.any_eq_false.mpr fun y hy => ?_
  intro z
  have e : y = x := by
    have z' : (y == x) = true := z
    exact eq_of_beq z'
  exact h (e ▸ hy)
section
variable {P : Program} {w : World} {K : PySem.W.Frag} {mg : Str → Option Value} {base : Heap}
theorem ok_int {f : Addr} {fd : FuncData} (F : Fun K "is_integer" "is_integer" sInt f fd) (T : Bt mg) : FnOk P w K mg base CX0 1 f fd pInt (spInt K) := by
  refine F.ok scInt (fun vs H Q E h => ?_) (fun cdv A outer s H vs Q E hr h => ?_)
  · obtain ⟨x, t, b1, b2, rfl, _⟩ := h
    rfl
  · obtain ⟨x, t, b1, b2, rfl, ty, k1, k2, k⟩ := h
    refine ⟨_, (pss_one (ps_ret (pe_and (pe_callB (isiQ K) (by rfl) T.isinstance (by decide +kernel) (pa_cons (pv 0) (pa_cons (pe_bltn (v := .ty "int") (u := .type "int") (by rfl) T.int (by decide +kernel) rfl) pa_nil))) (pe_one (pe_not (pe_callB (isiQ K) (by rfl) T.isinstance (by decide +kernel) (pa_cons (pv 0) (pa_cons (pe_bltn (v := .ty "bool") (u := .type "bool") (by rfl) T.bool (by decide +kernel) rfl) pa_nil)))))))), ?_⟩
    refine ⟨_, rfl, _, _, _, _, _, rfl, .ty _, ty, k1, _, rfl, ?_⟩
    cases b1 with
    | false => exact iteF k
    | true => exact iteT ⟨_, rfl, _, _, _, _, _, rfl, .ty _, ty, k2, _, rfl, k⟩
abbrev DInt (P : Program) (w : World) (K : PySem.W.Frag) (mg : Str → Option Value) (base : Heap) : Prop := DefX P w K mg base 1 "is_integer" pInt (spInt K)
theorem ok_wgt {f : Addr} {fd : FuncData} (F : Fun K "is_weight" "is_weight" sWgt f fd) (T : Bt mg) (DI : DInt P w K mg base) : FnOk P w K mg base CX0 3 f fd pWgt spWgt := by
  refine F.ok scWgt (fun vs H Q E h => ?_) (fun cdv A outer s H vs Q E hr h => ?_)
  · obtain ⟨i, rfl, _⟩ := h
    rfl
  · obtain ⟨i, rfl, k⟩ := h
    refine ⟨_, (pss_one (ps_ret (pe_and (pe_fn DI hr (by decide) (pa_cons (pv 0) pa_nil)) (pe_one (pe_chain op_le op_le pe_int (pv 0) (pe_globE T.g_MOST_WEIGHT)))))), ?_⟩
    refine ⟨_, rfl, _, _, true, false, rfl, .base (.int i), kit_ty (by decide +kernel), kit_ty (by decide +kernel), _, rfl, iteT ⟨_, rfl, _, _, rfl, rfl, _, rfl, ite2 (fun h => ⟨_, _, rfl, rfl, ?_⟩) (fun h => ?_)⟩⟩
    · rw [h, Bool.true_and] at k; exact k
    · rw [Bool.eq_false_iff.mpr h, Bool.false_and] at k; exact k
theorem ok_roww {f : Addr} {fd : FuncData} (F : Fun K "is_row" "is_row" sRoww f fd) (T : Bt mg) (DW : DefX P w K mg base 3 "is_weight" pWgt spWgt) : FnOk P w K mg base CX0 5 f fd pRoww spRoww := by
  refine F.ok scRoww (fun vs H Q E h => ?_) (fun cdv A outer s H vs Q E hr h => ?_)
  · obtain ⟨a, r, n, rfl, _⟩ := h
    rfl
  · obtain ⟨a, r, n, rfl, ha, hl, k⟩ := h
    refine ⟨_, (pss_cons (ps_if (PW.pt (pw_or (pt_not (pt_val (pe_callB (isiQ K) (by rfl) T.isinstance (by decide +kernel) (pa_cons (pv 0) (pa_cons (pe_bltn (v := .ty "tuple") (u := .type "tuple") (by rfl) T.tuple (by decide +kernel) rfl) pa_nil))))) (pw_or1 (pt_cmpR op_ne (pe_callB (lenQ K) (by rfl) T.len (by decide +kernel) (pa_cons (pv 0) pa_nil)) (pv 1) (nomark _)))))
        (pss_one (ps_ret pe_bl)) pss_nil)
      (pss_one (ps_ret (pe_and (pe_callB (allL K) (by rfl) T.all (by decide +kernel) (pa_cons (pe_lc (own := [("weight", 2)]) (g := gName 2) (tt := tYes) rfl scRoww.nd (piT K (pv 0)) (blkOk_by (own := [("weight", 2)]) (N := nRoww) (sc := defScope sRoww) (by decide +kernel)) (fun _ _ _ _ _ => (pg_name (i := 2) scRoww.nd rfl (Or.inl rfl))) (fun _ _ _ _ _ => pts_nil)
          (fun _ _ _ _ _ => (pe_fn DW hr (by decide) (pa_cons (pv 2) pa_nil)))) pa_nil)) (pe_one (pe_cmpR op_gt (pe_callB (sumT K) (by rfl) T.sum (by decide +kernel) (pa_cons (pv 0) pa_nil)) pe_int (nomark _))))))), ?_⟩
    refine ⟨_, rfl, _, _, _, _, true, rfl, .ty _, ha.tyx, kit_ty (by decide +kernel), _, rfl, iteF ?_⟩
    refine ⟨_, rfl, a, _, rfl, .inr (ha.sq), _, rfl, rfl, _, rfl, ?_⟩
    rw [List.length_map]
    by_cases hn : (r.length : Int) = n
    · rw [decide_eq_true hn, Bool.true_and] at k
      refine ite2 (fun z => ?_) (fun _ => ?_)
      · exfalso
        rw [hn] at z
        simp at z
      refine ⟨_, rfl, a, rfl, ⟨_, ha.sq⟩, fun D hD => ?_⟩
      refine lc_it (walk_tup (K := K) (a := a) (xs := r.map V.int)) (PvS H D ((r.map fun i => decide (0 ≤ i) && decide (i ≤ 1000000000)).map V.bl)) (pvs0 hD) (fun i H1 _ h => (ha.same h.1).sq) ?_ (fun H1 h => ?_)
      · rintro i x H1 _ hi h ⟨rfl, hx⟩
        rw [List.getElem?_map] at hx
        cases hz : r[i]? with
        | none => rw [hz] at hx; cases hx
        | some z =>
          rw [hz] at hx
          cases hx
          refine ⟨rfl, turnY ?_⟩
          exact ⟨_, rfl, z, rfl, pvs1 hD h (Same.refl _) (by rw [List.length_map, List.length_map]; exact hl) (by rw [List.getElem?_map, List.getElem?_map, hz]; rfl)⟩
      obtain ⟨s1, hl1⟩ := pvsE h (by rw [List.length_map, List.length_map, List.length_map])
      refine ⟨D, _, rfl, SqL.of hl1, _, rfl, ?_⟩
      have ea : (r.map fun i => decide (0 ≤ i) && decide (i ≤ 1000000000)).all id = r.all fun i => decide (0 ≤ i) && decide (i ≤ 1000000000) := by
        rw [List.all_map]; rfl
      rw [ea]
      have k' := k H1 s1
      generalize (r.all fun i => decide (0 ≤ i) && decide (i ≤ 1000000000)) = bb at k' ⊢
      cases bb with
      | false => exact iteF k'
      | true => exact iteT ⟨_, rfl, a, r, rfl, (ha.same s1).sq, _, _, rfl, rfl, k'⟩
    · rw [decide_eq_false hn, Bool.false_and] at k
      refine ite2 (fun _ => k H (Same.refl H)) (fun z => ?_)
      exfalso
      refine z ?_
      have e : ¬ (V.int (r.length : Int) = V.int n) := fun q => hn (by injection q)
      rw [decide_eq_false e]; rfl
theorem ok_way {f : Addr} {fd : FuncData} (F : Fun K "is_way" "is_way" sWay f fd) (T : Bt mg) (DR : DefX P w K mg base 5 "is_row" pRoww spRoww) : FnOk P w K mg base CX0 7 f fd pWay spWay := by
  refine F.ok scWay (fun vs H Q E h => ?_) (fun cdv A outer s H vs Q E hr h => ?_)
  · obtain ⟨v, ws, n, rfl, _⟩ := h
    rfl
  · obtain ⟨v, ws, n, rfl, im, hl, hr1, k⟩ := h
    obtain ⟨a, xs, rfl, ha, hall⟩ := im.tuple
    refine ⟨_, (pss_cons (ps_if (PW.pt (pw_or (pt_not (pt_val (pe_callB (isiQ K) (by rfl) T.isinstance (by decide +kernel) (pa_cons (pv 0) (pa_cons (pe_bltn (v := .ty "tuple") (u := .type "tuple") (by rfl) T.tuple (by decide +kernel) rfl) pa_nil))))) (pw_or1 (pt_cmpR op_ne (pe_callB (lenQ K) (by rfl) T.len (by decide +kernel) (pa_cons (pv 0) pa_nil)) (pv 1) (nomark _)))))
        (pss_one (ps_ret pe_bl)) pss_nil)
      (pss_one (ps_ret (pe_callB (allL K) (by rfl) T.all (by decide +kernel) (pa_cons (pe_lc (own := [("row", 2)]) (g := gName 2) (tt := tYes) rfl scWay.nd (piT K (pv 0)) (blkOk_by (own := [("row", 2)]) (N := nWay) (sc := defScope sWay) (by decide +kernel)) (fun _ _ _ _ _ => (pg_name (i := 2) scWay.nd rfl (Or.inl rfl))) (fun _ _ _ _ _ => pts_nil)
          (fun _ _ _ _ _ => (pe_fn DR hr (by decide) (pa_cons (pv 2) (pa_cons (pv 1) pa_nil))))) pa_nil))))), ?_⟩
    refine ⟨_, rfl, _, _, _, _, true, rfl, .ty _, ha.tyx, kit_ty (by decide +kernel), _, rfl, iteF ?_⟩
    refine ⟨_, rfl, a, _, rfl, .inr (ha.sq), _, rfl, rfl, _, rfl, ?_⟩
    have hxl : xs.length = ws.length := by rw [hall.length, List.length_map]
    rw [hxl]
    by_cases hn : (ws.length : Int) = n
    · rw [decide_eq_true hn, Bool.true_and] at k
      refine ite2 (fun z => ?_) (fun _ => ?_)
      · exfalso
        rw [hn] at z
        simp at z
      refine ⟨_, rfl, a, rfl, ⟨_, ha.sq⟩, fun D hD => ?_⟩
      refine lc_it (walk_tup (K := K) (a := a) (xs := xs)) (PvS H D ((ws.map (rowB n)).map V.bl)) (pvs0 hD) (fun i H1 _ h => (ha.same h.1).sq) ?_ (fun H1 h => ?_)
      · rintro i x H1 _ hi h ⟨rfl, hx⟩
        obtain ⟨d, hd, imx⟩ := hall.get hx
        rw [List.getElem?_map] at hd
        cases hz : ws[i]? with
        | none => rw [hz] at hd; cases hd
        | some r =>
          rw [hz] at hd
          cases hd
          obtain ⟨a2, ys, rfl, ha2, hall2⟩ := imx.tuple
          have hys := hall2.ints
          subst hys
          refine ⟨rfl, turnY ?_⟩
          refine ⟨_, rfl, _, rfl, a2, r, n, rfl, ha2.same h.1, hr1 r (List.mem_of_getElem? hz), fun H2 s2 => ?_⟩
          exact pvs1 hD h s2 (by rw [List.length_map, List.length_map]; exact hl) (by rw [List.getElem?_map, List.getElem?_map, hz]; rfl)
      obtain ⟨s1, hl1⟩ := pvsE h (by rw [List.length_map, List.length_map, hxl])
      refine ⟨D, _, rfl, SqL.of hl1, ?_⟩
      have ea : (ws.map (rowB n)).all id = ws.all (rowB n) := by
        rw [List.all_map]; rfl
      rw [ea]
      exact k H1 s1
    · rw [decide_eq_false hn, Bool.false_and] at k
      refine ite2 (fun _ => k H (Same.refl H)) (fun z => ?_)
      exfalso
      refine z ?_
      have e : ¬ (V.int (ws.length : Int) = V.int n) := fun q => hn (by injection q)
      rw [decide_eq_false e]; rfl
theorem ok_name {f : Addr} {fd : FuncData} (F : Fun K "is_name" "is_name" sName f fd) (T : Bt mg) : FnOk P w K mg base CX0 1 f fd pName spName := by
  refine F.ok scName (fun vs H Q E h => ?_) (fun cdv A outer s H vs Q E hr h => ?_)
  · obtain ⟨x, rfl, _⟩ := h
    rfl
  · obtain ⟨x, rfl, hl, k⟩ := h
    refine ⟨_, (pss_cons (ps_if (PW.pt (pw_or (pt_not (pt_val (pe_callB (isiQ K) (by rfl) T.isinstance (by decide +kernel) (pa_cons (pv 0) (pa_cons (pe_bltn (v := .ty "str") (u := .type "str") (by rfl) T.str (by decide +kernel) rfl) pa_nil))))) (pw_or1 (pt_not (pt_chain op_le op_le pe_int (pe_callB call_len_str (by rfl) T.len (by decide +kernel) (pa_cons (pv 0) pa_nil)) (pe_globE T.g_LONGEST_NAME))))))
        (pss_one (ps_ret pe_bl)) pss_nil)
      (pss_one (ps_ret (pe_and (pe_cmpR op_in_sign (pe_ix ix_str (pv 0) pe_int (fun _ _ => rfl)) (pe_globE T.g_LETTERS) (by rfl)) (pe_one (pe_callB (allL K) (by rfl) T.all (by decide +kernel) (pa_cons (pe_lc (own := [("sign", 1)]) (g := gName 1) (tt := tYes) rfl scName.nd (pi_str (pv 0)) (blkOk_by (own := [("sign", 1)]) (N := nName) (sc := defScope sName) (by decide +kernel)) (fun _ _ _ _ _ => (pg_name (i := 1) scName.nd rfl (Or.inl rfl))) (fun _ _ _ _ _ => pts_nil)
          (fun _ _ _ _ _ => (pe_cmpR op_in_sign (pv 1) (pe_globE T.g_LETTERS_AND_DIGITS) (by rfl)))) pa_nil))))))), ?_⟩
    refine ⟨_, rfl, _, _, _, _, true, rfl, .ty _, .base (.str x), kit_ty (by decide +kernel), _, rfl, iteF ?_⟩
    have lz : x.length ≤ sizeLine := Nat.le_trans hl (by decide)
    have k0 := k H (Same.refl H)
    refine ⟨_, rfl, x, rfl, lz, _, _, rfl, rfl, _, rfl, ite2 (fun h1 => ⟨_, _, rfl, rfl, _, rfl, ite2 (fun h2 => ?_) (fun h2 => ?_)⟩) (fun h1 => ⟨_, rfl, iteT ?_⟩)⟩
    · have h2' : ¬ x.length ≤ 8 := fun z => by
        have z' : ((x.length : Nat) : Int) ≤ 8 := by omega
        rw [decide_eq_true z'] at h2
        exact absurd h2 (by decide)
      unfold nameB at k0
      rw [decide_eq_false h2', Bool.and_false, Bool.false_and, Bool.false_and] at k0
      exact k0
    · have h1' : 1 ≤ x.length := by have := of_decide_eq_true h1; omega
      have h2' : x.length ≤ 8 := by
        apply Classical.byContradiction
        intro z
        have z' : ¬ ((x.length : Nat) : Int) ≤ 8 := by omega
        rw [decide_eq_false z'] at h2
        exact h2 rfl
      have hne : 0 < x.cps.toList.length := by
        have : x.length = x.cps.toList.length := by show x.cps.size = _; rw [Array.length_toList]
        omega
      obtain ⟨c, r, hc⟩ : ∃ c r, x.cps.toList = c :: r := by
        cases e : x.cps.toList with
        | nil => rw [e] at hne; exact absurd hne (by decide)
        | cons c r => exact ⟨c, r, rfl⟩
      have nb : nameB x = (decide (c ∈ ("abcdefghijklmnopqrstuvwxyz" : Str).cps.toList) && x.cps.toList.all fun c => decide (c ∈ ("abcdefghijklmnopqrstuvwxyz0123456789" : Str).cps.toList)) := by
        unfold nameB
        rw [decide_eq_true h1', decide_eq_true h2', hc]
        rfl
      rw [nb] at k
      refine ⟨_, rfl, x, 0, c, rfl, rfl, lz, by rw [hc]; exact atI_nat (j := 0) rfl, c, _, rfl, rfl, _, rfl, ite2 (fun hf => ?_) (fun hf => ?_)⟩
      · rw [hf, Bool.true_and] at k
        refine ⟨_, rfl, x, rfl, fun D hD => ?_⟩
        refine lc_it (walk_str (z := x)) (PvS H D ((x.cps.toList.map fun c => decide (c ∈ ("abcdefghijklmnopqrstuvwxyz0123456789" : Str).cps.toList)).map V.bl)) (pvs0 hD) (fun i H1 _ h => trivial) ?_ (fun H1 h => ?_)
        · rintro i y H1 _ hi h ⟨rfl, q, hq, rfl⟩
          refine ⟨rfl, turnY ?_⟩
          exact ⟨_, rfl, q, _, rfl, rfl, pvs1 hD h (Same.refl _) (by rw [List.length_map, List.length_map, Array.length_toList]; exact hl) (by rw [List.getElem?_map, List.getElem?_map, Array.getElem?_toList, hq]; rfl)⟩
        obtain ⟨s1, hl1⟩ := pvsE h (by rw [List.length_map, List.length_map, Array.length_toList])
        refine ⟨D, _, rfl, SqL.of hl1, ?_⟩
        rw [List.all_map]
        exact k H1 s1
      · rw [Bool.eq_false_iff.mpr hf, Bool.false_and] at k
        exact k H (Same.refl H)
    · have h1' : ¬ 1 ≤ x.length := fun z => h1 (decide_eq_true (by omega))
      unfold nameB at k0
      rw [decide_eq_false h1', Bool.false_and, Bool.false_and, Bool.false_and] at k0
      exact k0
theorem ok_cmi {f : Addr} {fd : FuncData} (F : Fun K "check_minds" "check_minds" sCMi f fd) (T : Bt mg) (DN : DefX P w K mg base 1 "is_name" pName spName) : FnOk P w K mg base CX0 3 f fd pCMi spCMi := by
  refine F.ok scCMi (fun vs H Q E h => ?_) (fun cdv A outer s H vs Q E hr h => ?_)
  · obtain ⟨v, ms, rfl, _⟩ := h
    rfl
  · obtain ⟨v, ms, rfl, im, ok, k⟩ := h
    obtain ⟨a, xs, rfl, ha, hall⟩ := im.tuple
    have hys := hall.strs
    subst hys
    refine ⟨_, (pss_cons (ps_if (PW.pt (pw_or (pt_not (pt_val (pe_callB (isiQ K) (by rfl) T.isinstance (by decide +kernel) (pa_cons (pv 0) (pa_cons (pe_bltn (v := .ty "tuple") (u := .type "tuple") (by rfl) T.tuple (by decide +kernel) rfl) pa_nil))))) (pw_or1 (pt_cmpR op_eq (pe_callB (lenQ K) (by rfl) T.len (by decide +kernel) (pa_cons (pv 0) pa_nil)) pe_int (nomark _)))))
        (pss_one ps_never) pss_nil)
      (pss_one (ps_for PassesOwn.never rfl (pi_enumT K (by rfl) T.enumerate (pa_cons (pv 0) pa_nil)) (pg_tup (by rfl) (pgs_cons (pg_name (i := 1) scCMi.nd rfl (Or.inl rfl)) (pgs_cons (pg_name (i := 2) scCMi.nd rfl (Or.inl rfl)) pgs_nil)))
        (pss_one (ps_if (PW.pt (pw_or (pt_not (pt_val (pe_fn DN hr (by decide) (pa_cons (pv 2) pa_nil)))) (pw_or (pt_cmpR (inQ K) (pv 2) (pe_slice (slA K) (pv 0) po_none (po_some (pv 1))) (by rfl)) (pw_or1 (pt_cmpR op_eq (pv 1) (pe_globE T.g_MOST_MINDS) (nomark _))))))
        (pss_one ps_never) pss_nil))))), ?_⟩
    refine ⟨_, rfl, _, _, _, _, true, rfl, .ty _, ha.tyx, kit_ty (by decide +kernel), _, rfl, iteF ?_⟩
    refine ⟨_, rfl, a, _, rfl, .inr (ha.sq), rfl, _, rfl, ite2 (fun z => ?_) (fun _ => ?_)⟩
    · exfalso
      have z' := of_decide_eq_true z
      rw [List.length_map] at z'
      have := ok.m1
      injection z' with z'
      omega
    refine ⟨_, rfl, a, _, rfl, ha.sq, ?_⟩
    refine for_it (walk_enumT (K := K) (a := a) (xs := ms.map V.str)) (fun i σ H1 => ∃ p q : Option V, σ = [some (.ref a), p, q] ∧ Same H H1) ⟨none, none, rfl, Same.refl H⟩ (fun i σ H1 _ ⟨_, _, _, s1⟩ => (ha.same s1).sq) ?_ ?_
    · rintro i v σ H1 _ hi ⟨p, q, rfl, s1⟩ ⟨T', x, rfl, hT, rfl, hx⟩
      rw [List.length_map] at hi
      rw [List.getElem?_map, List.getElem?_eq_getElem hi] at hx
      cases hx
      refine ⟨T', _, rfl, SqT.of upd_same, rfl, _, _, rfl, _, _, rfl, rfl, ?_⟩
      have hm := ok.nm _ (List.getElem_mem hi)
      have s2 := s1.trans (same_upd (o := HO.tup [V.int (i : Nat), V.str ms[i]]) hT)
      refine ⟨_, rfl, _, rfl, Nat.le_trans hm.2 (by decide), fun H2 s3 => ⟨_, rfl, ?_⟩⟩
      rw [hm.1]
      refine iteF ?_
      have s4 := s2.trans s3
      refine ⟨_, rfl, _, rfl, _, rfl, _, rfl, a, _, rfl, (ha.same s4).sq, fun hw => ?_, fun hw p np => ?_⟩
      · exfalso
        have q := hw.2
        rw [HT.sIx_nat, List.length_map] at q
        omega
      rw [cutN (by rw [List.length_map]; omega), ← List.map_take]
      refine ⟨p, _, rfl, .inr (SqT.of upd_same), rfl, by rw [List.all_map]; exact List.all_eq_true.mpr fun _ _ => rfl, _, rfl, ?_⟩
      rw [inV_strs (fun z => ?_)]
      · refine iteF ⟨_, rfl, rfl, _, rfl, ite2 (fun z => ?_) (fun _ => ?_)⟩
        · exfalso
          have z' := of_decide_eq_true z
          have := ok.m6
          injection z' with z'
          omega
        · exact ⟨_, _, rfl, s4.trans (same_upd np)⟩
      · exact nodup_take ok.nd hi z
    · rintro σ H1 ⟨p, q, rfl, s1⟩
      exact k H1 s1
theorem ok_cwa {f : Addr} {fd : FuncData} (F : Fun K "check_ways" "check_ways" sCWa f fd) (T : Bt mg) (DY : DefX P w K mg base 7 "is_way" pWay spWay) : FnOk P w K mg base CX0 9 f fd pCWa spCWa := by
  refine F.ok scCWa (fun vs H Q E h => ?_) (fun cdv A outer s H vs Q E hr h => ?_)
  · obtain ⟨v, n, ws, rfl, _⟩ := h
    rfl
  · obtain ⟨v, n, ws, rfl, im, ok, k⟩ := h
    obtain ⟨a, xs, rfl, ha, hall⟩ := im.tuple
    have hxl : xs.length = ws.length := by rw [hall.length, List.length_map]
    refine ⟨_, (pss_cons (ps_if (PW.pt (pw_or (pt_not (pt_val (pe_callB (isiQ K) (by rfl) T.isinstance (by decide +kernel) (pa_cons (pv 0) (pa_cons (pe_bltn (v := .ty "tuple") (u := .type "tuple") (by rfl) T.tuple (by decide +kernel) rfl) pa_nil))))) (pw_or1 (pt_cmpR op_eq (pe_callB (lenQ K) (by rfl) T.len (by decide +kernel) (pa_cons (pv 0) pa_nil)) pe_int (nomark _)))))
        (pss_one ps_never) pss_nil)
      (pss_one (ps_for PassesOwn.never rfl (pi_enumT K (by rfl) T.enumerate (pa_cons (pv 0) pa_nil)) (pg_tup (by rfl) (pgs_cons (pg_name (i := 2) scCWa.nd rfl (Or.inl rfl)) (pgs_cons (pg_name (i := 3) scCWa.nd rfl (Or.inl rfl)) pgs_nil)))
        (pss_one (ps_if (PW.pt (pw_or (pt_not (pt_val (pe_fn DY hr (by decide) (pa_cons (pv 3) (pa_cons (pv 1) pa_nil))))) (pw_or1 (pt_cmpR op_eq (pv 2) (pe_globE T.g_MOST_WAYS) (nomark _)))))
        (pss_one ps_never) pss_nil))))), ?_⟩
    refine ⟨_, rfl, _, _, _, _, true, rfl, .ty _, ha.tyx, kit_ty (by decide +kernel), _, rfl, iteF ?_⟩
    refine ⟨_, rfl, a, _, rfl, .inr (ha.sq), rfl, _, rfl, ite2 (fun z => ?_) (fun _ => ?_)⟩
    · exfalso
      have z' := of_decide_eq_true z
      rw [hxl] at z'
      have := ok.w1
      injection z' with z'
      omega
    refine ⟨_, rfl, a, _, rfl, ha.sq, ?_⟩
    refine for_it (walk_enumT (K := K) (a := a) (xs := xs)) (fun i σ H1 => ∃ p q : Option V, σ = [some (.ref a), some (.int n), p, q] ∧ Same H H1) ⟨none, none, rfl, Same.refl H⟩ (fun i σ H1 _ ⟨_, _, _, s1⟩ => (ha.same s1).sq) ?_ ?_
    · rintro i v σ H1 _ hi ⟨p, q, rfl, s1⟩ ⟨T', x, rfl, hT, rfl, hx⟩
      obtain ⟨d, hd, imx⟩ := hall.get hx
      rw [hxl] at hi
      rw [List.getElem?_map, List.getElem?_eq_getElem hi] at hd
      cases hd
      have hw := ok.way _ (List.getElem_mem hi)
      have n6 := ok.n6
      refine ⟨T', _, rfl, SqT.of upd_same, rfl, _, _, rfl, _, _, rfl, rfl, ?_⟩
      have s2 := s1.trans (same_upd (o := HO.tup [V.int (i : Nat), x]) hT)
      refine ⟨_, rfl, _, rfl, x, ws[i], n, rfl, Im.mono (Same.tups s2) _ _ imx, by rw [hw.1]; omega, fun r hr => by rw [(hw.2 r hr).1]; omega, fun H2 s3 => ⟨_, rfl, ?_⟩⟩
      rw [wayB_ok hw]
      refine iteF ⟨_, rfl, rfl, _, rfl, ite2 (fun z => ?_) (fun _ => ?_)⟩
      · exfalso
        have z' := of_decide_eq_true z
        have := ok.w6
        injection z' with z'
        omega
      · exact ⟨_, _, rfl, s2.trans s3⟩
    · rintro σ H1 ⟨p, q, rfl, s1⟩
      exact k H1 s1
end
end M

namespace U
open PySem L2 PySem.Spec PyProof.Rows PySem.W
/-! ### an own object asked by a built-in: len, str, truth, ==, != -/
/-- a def of the class run at some place within the frame -/
theorem run_at {X : Cx} {A : Around} {k : Nat} {f : Addr} {fd : FuncData} {ps : List Str} {sp : Sp} {pins : List (Addr × Obj)} {σ : L2.St} {H : Hp} {s : Shared} {Q : VK} {us : List Value} {vs : List V} {E : Value → Shared → Prop}
    (F : FnOk X.prog X.w X.K X.mg X.base CX0 k f fd ps sp) (hb : Binds X.K fd ps []) (hr : Room k A) (hf : A.frames = X.A.frames) (I : Inv X pins σ H s) (r : Vals vs us) (h : sp vs H Q E0) :
    wpAny (model X.prog X.w) A (call (.ref f) us) (EP X pins σ Q) E s := by
  have e0 : Env0 X.prog X.w X.K X.mg X.base A X.stack s H := by
    have e := I.env0
    exact { frames := hf.trans e.frames, mod := e.mod, bs := e.bs, bsz := e.bsz, funs := e.funs, frf := e.frf, hok := e.hok, bare := e.bare }
  have hl : us.length = ps.length := by rw [← r.length]; exact F.len _ _ _ _ h
  have hbd := hb s us I.kIn (by rw [List.append_nil]; exact hl)
  rw [List.append_nil] at hbd
  refine wpAny_call (codeAny_mono (F.run A X.stack s H ⟨us, []⟩ us vs Q E0 hr e0 hbd r h) fun rr s' hq => ?_)
  cases rr with
  | error e => exact (show False from hq).elim
  | ok fl =>
    cases fl with
    | ret u => exact I.after hq
    | next => exact (show False from hq).elim
    | brk => exact (show False from hq).elim
    | cont => exact (show False from hq).elim
/-- a special method of the class at C: the def at f with its promise -/
structure SpM (X : Cx) (C : Addr) (m : Str) (k : Nat) (sp : Sp) : Prop where
  ex : ∃ (f : Addr) (fd : FuncData) (ps : List Str), FnOk X.prog X.w X.K X.mg X.base CX0 k f fd ps sp ∧ findIn X.K (.ref C) m = some (some (.ref f)) ∧ isFn X.K (.ref f) = true ∧ Binds X.K fd ps []
theorem ref1 (a : Addr) : Vals [V.ref a] [Value.ref a] := .cons (show RelV (V.ref a) (Value.ref a) from rfl) .nil
theorem ref2 (a b : Addr) : Vals [V.ref a, V.ref b] [Value.ref a, Value.ref b] := .cons (show RelV (V.ref a) (Value.ref a) from rfl) (ref1 b)
section
variable {X : Cx} {C : Addr} {k j : Nat} {sp : Sp}
theorem inst_of {pins : List (Addr × Obj)} {σ : L2.St} {H : Hp} {s : Shared} {a dx : Addr} {fs : List (Str × V)} (I : Inv X pins σ H s) (ea : H a = some (.ins C dx fs)) : ∃ od, InstAt s.heap a (instObj C dx) C (some od) := by
  obtain ⟨mA, J, _⟩ := ins_get I.hok ea
  obtain ⟨od, J, _⟩ := J.look
  exact ⟨od, J⟩
/-- len(o) -/
def rLenI (C : Addr) (sp : Sp) : List V → Hp → VK → Prop := fun xs H Q => ∃ (a dx : Addr) (fs : List (Str × V)), xs = [.ref a] ∧ H a = some (.ins C dx fs) ∧ sp [.ref a] H (fun v H' => ∃ n : Int, v = .int n ∧ 0 ≤ n ∧ n < 9223372036854775808 ∧ Q (.int n) H') E0
theorem lenI (S : SpM X C "__len__" k sp) (hr : Room j X.A) (hk : k + 1 ≤ j) : CallR X (.builtin "len") (rLenI C sp) := by
  intro pins s σ H xs us Q I r h
  obtain ⟨a, dx, fs, rfl, ea, h⟩ := h
  obtain rfl := Vals.ref1 r
  obtain ⟨f, fd, ps, F, hs, hf, hb⟩ := S.ex
  obtain ⟨od, J⟩ := inst_of I ea
  obtain ⟨m, hF⟩ := I.fr
  refine len_K hF I.ok.mod.kin J hs hf (wpAny_mono (run_at F hb (hr.mono hk).in1 rfl I (ref1 a) h) (fun u s' hq => ?_) fun _ _ e => e)
  obtain ⟨v, H', I', rv, n, rfl, h0, h1, q⟩ := hq
  obtain ⟨t, rfl⟩ := rv
  exact ⟨⟨h0, by omega⟩, .int n, H', I'.tok _, ⟨_, rfl⟩, q⟩
/-- str(o) -/
def rStrI (C : Addr) (sp : Sp) : List V → Hp → VK → Prop := fun xs H Q => ∃ (a dx : Addr) (fs : List (Str × V)), xs = [.ref a] ∧ H a = some (.ins C dx fs) ∧ sp [.ref a] H (fun v H' => ∃ z : Str, v = .str z ∧ Q (.str z) H') E0
theorem strI (S : SpM X C "__str__" k sp) (hr : Room j X.A) (hk : k + 2 ≤ j) : CallR X (.type "str") (rStrI C sp) := by
  intro pins s σ H xs us Q I r h
  obtain ⟨a, dx, fs, rfl, ea, h⟩ := h
  obtain rfl := Vals.ref1 r
  obtain ⟨f, fd, ps, F, hs, hf, hb⟩ := S.ex
  obtain ⟨od, J⟩ := inst_of I ea
  have r2 : Room k X.A.in1.in1 := ((hr.mono hk).in1).in1
  refine kso_call r2.units0 I.kIn J hs hf (wpAny_mono (run_at F hb r2 rfl I (ref1 a) h) (fun u s' hq => ?_) fun _ _ e => e)
  obtain ⟨v, H', I', rv, z, rfl, q⟩ := hq
  obtain ⟨t, rfl⟩ := rv
  exact ⟨.str z, H', I', ⟨t, rfl⟩, q⟩
/-- a == b, a an own object, b such a one too (its == says so) -/
def rEqI (C : Addr) (sp : Sp) : R2 := fun x y H Q => ∃ (a b dx dy : Addr) (fs gs : List (Str × V)), x = .ref a ∧ y = .ref b ∧ H a = some (.ins C dx fs) ∧ H b = some (.ins C dy gs) ∧ sp [.ref a, .ref b] H (fun v H' => ∃ c : Bool, v = .bl c ∧ Q (.bl c) H') E0
theorem eqI (S : SpM X C "__eq__" k sp) (hr : Room j X.A) (hk : k ≤ j) : OpR X (compareOp .Eq) (rEqI C sp) := by
  intro pins s σ H x y v u Q I rx ry h
  obtain ⟨a, b, dx, dy, fs, gs, rfl, rfl, ea, eb, h⟩ := h
  cases rx
  cases ry
  obtain ⟨f, fd, ps, F, hs, hf, hb⟩ := S.ex
  obtain ⟨od, J⟩ := inst_of I ea
  obtain ⟨od', J'⟩ := inst_of I eb
  obtain ⟨m, hF⟩ := I.fr
  have r2 : Room k X.A := hr.mono hk
  show wpAny (model X.prog X.w) X.A (richCompare .Eq (.ref a) (.ref b)) (EP X pins σ Q) X.xe s
  refine cmp_K (op := .Eq) (tb := .ref C) r2.units0 hF I.ok.mod.kin J J'.type (by simp [notFirst]) hs hf (wpAny_mono (run_at F hb r2 rfl I (ref2 a b) h) (fun w s' hq => ?_) fun _ _ e => e)
  obtain ⟨z, H', I', rz, c, rfl, q⟩ := hq
  cases rz
  exact ⟨.bl c, H', I', rfl, q⟩
end
/-! truth by an own __len__ -/
section
variable {prog : Program} {w : World} {A : Around} {E : Value → Shared → Prop} {s : Shared} {K : Frag} {x C f : Addr} {ox : Obj} {od : Option Obj}
theorem lenBody {Q : Value → Shared → Prop} (X : K.In s.heap) (I : InstAt s.heap x ox C od) (hs : findIn K (.ref C) "__len__" = some (some (.ref f))) (hf : isFn K (.ref f) = true)
    (h : wpAny (model prog w) A (call (.ref f) [.ref x]) (PySem.W.LenBack Q) E s) : wpAny (model prog w) A (Builtin.«len» ⟨[.ref x], []⟩) (fun fin s' => ∃ r, fin = .done (.ret r) ∧ Q r s') E s := by
  unfold Builtin.«len»
  refine wpAny_bind (m := oneArg "len" _) (wpAny_pure ?_)
  refine wpAny_bind (m := callSpecial? (.ref x) (Str.ofString "__len__")) (special_fn X I hs (beq_iff_eq.mp hf) (wpAny_mono h (fun r s' hr => ?_) fun _ _ y => y))
  cases r <;> first | exact hr.elim | skip
  rename_i n u
  obtain ⟨⟨h0, h1⟩, hq⟩ := hr
  refine wpAny_bind (wpAny_holding (wpAny_pure ?_))
  refine wpAny_bind (wpAny_letGo ?_)
  show wpAny _ _ (if n < 0 then _ else _) _ _ _
  rw [if_neg (by omega)]
  show wpAny _ _ (if n ≥ 2 ^ 63 then _ else _) _ _ _
  rw [if_neg (by omega)]
  exact wpAny_bind (wpAny_mkInt (wpAny_pure ⟨_, rfl, hq⟩))
def TruBack (Q : Bool → Shared → Prop) (v : Value) (s' : Shared) : Prop := ∃ (n : Int) (t : Tok), v = .int n t ∧ 0 ≤ n ∧ n < 9223372036854775808 ∧ Q (n != 0) { s' with toks := s'.toks + 1 }
theorem truthLen {Q : Bool → Shared → Prop} (X : K.In s.heap) (I : InstAt s.heap x ox C od) (hb : findIn K (.ref C) "__bool__" = some none) (hs : findIn K (.ref C) "__len__" = some (some (.ref f))) (hf : isFn K (.ref f) = true)
    (h : wpAny (model prog w) A.in1 (call (.ref f) [.ref x]) (TruBack Q) E s) : wpAny (model prog w) A (truthy (.ref x)) Q E s := by
  have key : wpAny (model prog w) A (runValue (.builtin "len" ⟨[.ref x], []⟩)) (fun r s' => ∃ (n : Int) (t : Tok), r = .int n t ∧ Q (n != 0) s') E s := by
    refine wpAny_runValue (codeAny_builtin entry_len ?_)
    rw [Around.under_plainId plain_len _]
    refine wpAny_mono (lenBody (Q := fun r s' => ∃ (n : Int) (t : Tok), r = .int n t ∧ Q (n != 0) s') X I hs hf (wpAny_mono h (fun v s' hv => ?_) fun _ _ e => e)) (fun fin s' h' => ?_) fun _ _ e => e
    · obtain ⟨n, t, rfl, h0, h1, q⟩ := hv
      exact ⟨⟨h0, by omega⟩, n, _, rfl, q⟩
    · obtain ⟨r, rfl, q⟩ := h'
      exact q
  unfold truthy
  refine wpAny_bind (m := callSpecial? (.ref x) (Str.ofString "__bool__")) (wpAny_bind (wpAny_bind (I.type.here ((looks_findIn X hb).here (wpAny_pure ?_)))))
  refine wpAny_bind (wpAny_bind (I.type.here ((looks_findIn X hs).here ?_)))
  show wpAny _ _ (if (some (Value.ref f)).isNone = true then _ else _) _ _ _
  rw [if_neg (by simp)]
  refine wpAny_bind (wpAny_mono key (fun r s' h' => ?_) fun _ _ e => e)
  obtain ⟨n, t, rfl, q⟩ := h'
  exact wpAny_pure q
theorem boolOf {Q : Value → Shared → Prop} (h : wpAny (model prog w) A.in1.in1 (truthy (.ref x)) (fun b s' => Q (.bool b) s') E s) : wpAny (model prog w) A (call (.type "bool") [.ref x]) Q E s := by
  refine callType_codes (T := "bool") (Bi := Builtin.«object.__init__») (Q₁ := fun r s₁ => ∃ b : Bool, r = .bool b ∧ Q r s₁) PySem.F.called_bool (PySem.F.typeCall_bool_1 _) PySem.F.entry_object_init ?_ ?_
  · refine codeAny_of_tree ?_
    show wpAny _ A.in1.in1 (do checkBuiltinCall "bool.__new__" ⟨[.type "bool", .ref x], []⟩; again (.builtin "bool.__new__" ⟨[.type "bool", .ref x], []⟩)) _ _ s
    refine wpAny_bind (wpAny_of_eq (PySem.F.newCall_bool_1 _) (wpAny_pure ⟨plainId_quiet (by decide +kernel) _, codeAny_builtin PySem.F.entry_bool_new ?_⟩))
    rw [Around.under_plainId (by decide +kernel) _]
    have f1 := F.conv_sub_bool
    obtain ⟨hp, g, d, tk, os⟩ := s
    unfold Builtin.«bool.__new__»
    repeat (first | (with_reducible refine wpAny_mono h (fun b s' hq => ?_) (fun e s' he => ?_)) | wp_step)
    · exact ⟨b, rfl, hq⟩
    · exact he
  · rintro obj s₁ ⟨b, rfl, hq⟩
    exact ⟨PySem.typeIs_bool _ _, PySem.F.args_object_init_2 _ _, object_init_meets PySem.F.called_bool.init.lookup PySem.F.called_bool.made F.newNe_bool prog w A.in1 _ s₁ ⟨PySem.typeIs_bool _ _, rfl, hq⟩⟩
/-! != by an own == -/
theorem ifB {M : Model} {name : Str} {id : String} {args : List Value} {Q : Option Value → Shared → Prop} (X : K.In s.heap) (I : InstAt s.heap x ox C od) (hs : findIn K (.ref C) name = some (some (.builtin id)))
    (hb : ∀ self, bindSpecial (.builtin id) self = pure (.builtin id, [self])) (h : wpAny M A (call (.builtin id) (.ref x :: args)) (fun v => Q (some v)) E s) : wpAny M A (callSpecialIfBound? (.ref x) name args) Q E s := by
  simp only [callSpecialIfBound?, bindSpecialIfBound?]
  have fin : wpAny M A (call (.builtin id) ([.ref x] ++ args) >>= fun v => pure (some v)) Q E s := wpAny_bind (wpAny_mono h (fun _ _ q => wpAny_pure q) fun _ _ q => q)
  refine wpAny_holding (wpAny_bind (wpAny_bind (wpAny_bind (I.type.here ((looks_findIn X hs).here ?_)))))
  refine wpAny_bind (wpAny_askSetting (wpAny_ite ?_))
  split
  · exact wpAny_bind ((Looks.of_pure (hb _)).here (wpAny_pure (by exact fin)))
  · exact wpAny_tryCatch (wpAny_bind ((Looks.of_pure (hb _)).here (wpAny_pure (by exact fin))))
theorem neBody {b : Value} {Q : Fin → Shared → Prop} (hu : A.units < cLine) (X : K.In s.heap) (I : InstAt s.heap x ox C od) (hs : findIn K (.ref C) "__eq__" = some (some (.ref f))) (hf : isFn K (.ref f) = true)
    (h : wpAny (model prog w) A (call (.ref f) [.ref x, b]) (fun v s' => ∃ c : Bool, v = .bool c ∧ Q (.done (.ret (.bool (!c)))) s') E s) : wpAny (model prog w) A (Builtin.«object.__ne__» ⟨[.ref x, b], []⟩) Q E s := by
  unfold Builtin.«object.__ne__»
  repeat (first
    | with_reducible refine wpAny_cRoomFor hu ?_
    | (refine wpAny_bind (m := callSpecialIfBound? (.ref x) (Str.ofString "__eq__") [b]) (ifBound_K X I hs hf (wpAny_mono h (fun r s' hr => ?_) fun _ _ e => e)))
    | wp_step)
  obtain ⟨c, rfl, hq⟩ := hr
  repeat (first | exact hq | exact wpAny_pure hq | exact wpAny_truthy_bool hq | (refine wpAny_bind (m := truthy (.bool _)) (wpAny_truthy_bool ?_)) | wp_step)
theorem neK {b tb : Value} {Q : Value → Shared → Prop} (hu : A.units + 1 < cLine) (X : K.In s.heap) (I : InstAt s.heap x ox C od) (hb : Looks (model prog w) s.heap (typeOf b) tb) (hn : notFirst K C tb = true)
    (hne : findIn K (.ref C) "__ne__" = some (some (.builtin "object.__ne__"))) (hm : mroIn K C (.type "object") = some true) (hs : findIn K (.ref C) "__eq__" = some (some (.ref f))) (hf : isFn K (.ref f) = true)
    (h : wpAny (model prog w) A.in1 (call (.ref f) [.ref x, b]) (fun v s' => ∃ c : Bool, v = .bool c ∧ Q (.bool (!c)) s') E s) : wpAny (model prog w) A (richCompare .NotEq (.ref x) b) Q E s := by
  have one : wpAny (model prog w) A (tryCompare (.ref x) (cmpInfo .NotEq).2.1 b) (fun r s' => ∃ v, r = some v ∧ Q v s') E s := by
    unfold tryCompare
    refine wpAny_bind (ifB X I hne PySem.F.slot_tuple_iterator_ne.bind (wpAny_call (codeAny_call_builtin PySem.F.slot_tuple_iterator_ne.plain PySem.F.cmpEntry_ne
      (check_slot PySem.F.cmpKind_ne PySem.F.cmpSplit_ne (I.type.andThen (looks_mroIn X hm)) (PySem.F.cmpArgs_ne _ _) (neBody (A := A.in1) (by show A.units + 1 < cLine; exact hu) X I hs hf (wpAny_mono h (fun v s' hv => ?_) fun _ _ e => e))))))
    obtain ⟨c, rfl, hq⟩ := hv
    exact ⟨c, rfl, wpAny_pure ⟨_, rfl, hq⟩⟩
  unfold richCompare
  simp only [oneThing_ref]
  refine wpAny_holding (wpAny_bind (wpAny_cRoomFor (Nat.lt_of_succ_lt hu) ?_))
  refine wpAny_bind (I.type.here (wpAny_bind (hb.here ?_)))
  split
  · rename_i q
    have e : subIn K tb (.ref C) = some false := by
      rcases Bool.or_eq_true_iff.mp hn with e | e
      · rw [beq_iff_eq.mp e] at q; simp at q
      · exact beq_iff_eq.mp e
    refine wpAny_bind ((looks_subIn X e).here ?_)
    simp only [Bool.false_eq_true, if_false]
    refine wpAny_bind (wpAny_mono one (fun r s' z => ?_) fun _ _ e => e)
    obtain ⟨v, rfl, z⟩ := z
    exact wpAny_pure z
  · refine wpAny_bind (wpAny_pure ?_)
    simp only [Bool.false_eq_true, if_false]
    refine wpAny_bind (wpAny_mono one (fun r s' z => ?_) fun _ _ e => e)
    obtain ⟨v, rfl, z⟩ := z
    exact wpAny_pure z
end
section
variable {X : Cx} {C : Addr} {k j : Nat} {sp : Sp}
/-- a != b -/
def rNeI (C : Addr) (sp : Sp) : R2 := fun x y H Q => ∃ (a b dx dy : Addr) (fs gs : List (Str × V)), x = .ref a ∧ y = .ref b ∧ H a = some (.ins C dx fs) ∧ H b = some (.ins C dy gs) ∧ sp [.ref a, .ref b] H (fun v H' => ∃ c : Bool, v = .bl c ∧ Q (.bl (!c)) H') E0
theorem neI (S : SpM X C "__eq__" k sp) (hne : findIn X.K (.ref C) "__ne__" = some (some (.builtin "object.__ne__"))) (hm : mroIn X.K C (.type "object") = some true) (hr : Room j X.A) (hk : k + 1 ≤ j) : OpR X (compareOp .NotEq) (rNeI C sp) := by
  intro pins s σ H x y v u Q I rx ry h
  obtain ⟨a, b, dx, dy, fs, gs, rfl, rfl, ea, eb, h⟩ := h
  cases rx
  cases ry
  obtain ⟨f, fd, ps, F, hs, hf, hb⟩ := S.ex
  obtain ⟨od, J⟩ := inst_of I ea
  obtain ⟨od', J'⟩ := inst_of I eb
  have r2 : Room k X.A.in1 := (hr.mono hk).in1
  show wpAny (model X.prog X.w) X.A (richCompare .NotEq (.ref a) (.ref b)) (EP X pins σ Q) X.xe s
  refine neK (tb := .ref C) r2.units0 I.kIn J J'.type (by simp [notFirst]) hne hm hs hf (wpAny_mono (run_at F hb r2 rfl I (ref2 a b) h) (fun w s' hq => ?_) fun _ _ e => e)
  obtain ⟨z, H', I', rz, c, rfl, q⟩ := hq
  cases rz
  exact ⟨c, rfl, .bl (!c), H', I', rfl, q⟩
/-- bool(o) by an own __len__ -/
def rBoolI (C : Addr) (sp : Sp) : List V → Hp → VK → Prop := fun xs H Q => ∃ (a dx : Addr) (fs : List (Str × V)), xs = [.ref a] ∧ H a = some (.ins C dx fs) ∧ sp [.ref a] H (fun v H' => ∃ n : Int, v = .int n ∧ 0 ≤ n ∧ n < 9223372036854775808 ∧ Q (.bl (n != 0)) H') E0
theorem boolI (S : SpM X C "__len__" k sp) (hnb : findIn X.K (.ref C) "__bool__" = some none) (hr : Room j X.A) (hk : k + 3 ≤ j) : CallR X (.type "bool") (rBoolI C sp) := by
  intro pins s σ H xs us Q I r h
  obtain ⟨a, dx, fs, rfl, ea, h⟩ := h
  obtain rfl := Vals.ref1 r
  obtain ⟨f, fd, ps, F, hs, hf, hb⟩ := S.ex
  obtain ⟨od, J⟩ := inst_of I ea
  have r2 : Room k X.A.in1.in1.in1 := (((hr.mono hk).in1).in1).in1
  refine boolOf (truthLen I.kIn J hnb hs hf (wpAny_mono (run_at F hb r2 rfl I (ref1 a) h) (fun u s' hq => ?_) fun _ _ e => e))
  obtain ⟨v, H', I', rv, n, rfl, h0, h1, q⟩ := hq
  obtain ⟨t, rfl⟩ := rv
  exact ⟨n, t, rfl, h0, h1, .bl (n != 0), H', I'.tok _, rfl, q⟩
end

/-! ### a class held by a local name, called; a classmethod called by keyword -/
section
variable {X : Cx} {C f : Addr} {fd : FuncData} {ps : List Str} {sp : Sp} {k j : Nat}
/-- x(e, ..), the class at C in slot i -/
def tMakeL (C : Addr) (i : Nat) (sp : Sp) (t : TA) : TE := fun σ H Q => σ[i]? = some (some (.ref C)) ∧ t σ H fun vs H1 => ∀ (x dx : Addr), H1 x = none → H1 dx = none → dx ≠ x →
  sp (.ref x :: (vs ++ [])) (upd (upd H1 dx (.own x)) x (.ins C dx [])) (fun v H2 => v = .non ∧ Q (.ref x) H2) E0
theorem pe_makeL {i : Nat} {x : Str} {e : Expr} {es : List Expr} {t : TA} {p pos : Pos} (M : Mk X.K C f) (F : FnOk X.prog X.w X.K X.mg X.base CX0 k f fd ps sp) (hr : Room j X.A) (hk : k + 1 ≤ j) (hb : Binds X.K fd ps [])
    (ha : PA X (e :: es) t) (hN : X.N[i]? = some x := by rfl) (hv : Vis X.env.scope x := by first | exact Or.inl rfl | exact Or.inr (Or.inl rfl) | exact Or.inr (Or.inr rfl)) (hd : (x == ("__debug__" : Str)) = false := by decide) (hcd : (x == ("__classdict__" : Str)) = false := by decide)
    (he : starEach (e :: es) X.env = (false, eval e X.env) :: starEach es X.env := by rfl) (hpl : (backTo pos (starEach es X.env)).any (·.1) = false := by rfl) :
    PE X (.Call (.Name x p) (e :: es) [] pos) (tMakeL C i sp t) := by
  constructor
  intro pins s σ H Q I h
  obtain ⟨hs, h⟩ := h
  refine wpAny_Call_Name_kw (thn ((pe_var (pos := p) hN hv hd hcd).run pins s σ H (fun v H' => v = .ref C ∧ H' = H) I ⟨_, hs, rfl, rfl⟩) fun u s0 hu => ?_)
  obtain ⟨v, H0, I0, rv, rfl, rfl⟩ := hu
  obtain rfl : u = Value.ref C := rv
  refine PySem.W.callWith_K (h₀ := X.base) I0.ok.mod.kin M.kp (thn (ha.run pos pins s0 σ _ _ I0 h) fun us s1 hh => ?_) he hpl
  obtain ⟨vs, H1, I1, r, q⟩ := hh
  exact ⟨I1.kIn, run_make M F (hr.mono hk) hb .nil pass0 I1 r q⟩
/-- C.m(k = e, ..), a classmethod -/
def tCMethK (C : Addr) (n : Nat) (sp : Sp) (gV : List V → List V → List V) (ta : TE) (tk : TA) : TE := fun σ H Q => ta σ H fun x H1 => x = .ref C ∧ tk σ H1 fun zs H2 => zs.length = n ∧ sp (gV [.ref C] zs) H2 Q E0
theorem pe_cmethK {p g : Addr} {mc : Value} {ks : List Str} {gL : List Value → List Value → List Value} {gV : List V → List V → List V} {o : Expr} {m : Str} {kws : List Keyword} {pos apos : Pos} {ta : TE} {tk : TA} {pl : Sem Bool} (he : PE X o ta) (r : ClX.CRead X.K C mc) (c : ClX.CMet X.K C mc m p g)
    (F : FnOk X.prog X.w X.K X.mg X.base CX0 k g fd ps sp) (hr : Room j X.A) (hk : k ≤ j) (hb : KBn X.K fd ps 1 ks gL gV) (hkw : PK X kws tk)
    (hall : (backToKw pos (keywordEach kws X.env)).all (·.1.isSome) = true := by rfl) (hks : (backToKw pos (keywordEach kws X.env)).filterMap (·.1) = ks := by rfl)
    (hpl : ((backTo pos (starEach [] X.env)).any (·.1) || (backToKw pos (keywordEach kws X.env)).any (·.1.isNone)) = false := by rfl)
    (ht : eval (.Call (.Attribute o m apos) [] kws pos) X.env = (eval o X.env >>= fun ov => standAt apos.atName >>= fun _ => holding [ov] (getMethod ov m pl) >>= fun fx => callWith pos fx.1 fx.2 (backTo pos (starEach [] X.env)) (backToKw pos (keywordEach kws X.env))) := by rfl) :
    PE X (.Call (.Attribute o m apos) [] kws pos) (tCMethK C ks.length sp gV ta tk) := by
  constructor
  intro pins s σ H Q I h
  refine PySem.W.methodCall_KW (pl := pl) (thn (he.run pins s σ H _ I h) fun u s1 hh => ?_) ht
  obtain ⟨x, H1, I1, rx, rfl, q⟩ := hh
  obtain rfl : u = Value.ref C := rx
  refine ClX.getmethcm_ok I1 r c fun s2 I2 => ?_
  have fin : wpAny (model X.prog X.w) X.A (evalAll ((backToKw pos (keywordEach kws X.env)).map (·.2))) (fun ws s3 => PySem.W.MethP X.K s1.heap.objs.size g (.ref C) s3.heap ∧
      wpAny (model X.prog X.w) X.A (call (.ref s1.heap.objs.size) ([] ++ []) (((backToKw pos (keywordEach kws X.env)).filterMap (·.1)).zip ws)) (EP X pins σ Q) X.xe s3) X.xe s2 := by
    refine thn (hkw.run pos _ s2 σ H1 _ I2 q) fun ws s3 hh => ?_
    obtain ⟨zs, H2, I3, rz, hl, q2⟩ := hh
    refine ⟨⟨ClX.pin_at I3, I3.kIn⟩, ?_⟩
    rw [hks]
    have r1 : Vals [V.ref C] [Value.ref C] := ref1 C
    have e2 : ws.length = ks.length := rz.length.symm.trans hl
    have hz : wpAny (model X.prog X.w) X.A (call (.ref s1.heap.objs.size) [] (ks.zip ws)) (EP X ((s1.heap.objs.size, PySem.W.methodObj (.ref g) (.ref C)) :: pins) σ Q) X.xe s3 := by
      refine wpAny_call (PySem.W.method_call (ClX.pin_at I3) (codeAny_mono (F.run X.A X.stack s3 H2 ⟨[.ref C], ks.zip ws⟩ (gL [.ref C] ws) (gV [.ref C] zs) Q E0 (hr.mono hk) I3.env0 (hb.to _ [.ref C] ws I3.kIn rfl e2) (hb.rel r1 rz) q2) fun rr s' hq => ?_))
      cases rr with
      | error e => exact (show False from hq).elim
      | ok fl =>
        cases fl with
        | ret u => exact I3.after hq
        | next => exact (show False from hq).elim
        | brk => exact (show False from hq).elim
        | cont => exact (show False from hq).elim
    exact thn hz fun _ _ y => ClX.unpinE y
  exact PySem.W.callWith_of hpl (PySem.W.keeps_M c.fi) (PyProof.Rows.evalArgs_kw2_nil hall fin)
end
end U

namespace U
open PySem L2
/-! ### what plain data shows -/
structure Sh (d : PyData) (b n : Nat) : Prop where
  lay : d.canLay0 = true
  shw : d.showable = true
  lv : d.leavesShort 13 = true
  bk : d.bulk ≤ b
  dp : d.depth ≤ n
structure ShA (ds : List PyData) (b n : Nat) : Prop where
  lay : PyData.canLayAll0 ds = true
  shw : PyData.showableAll ds = true
  lv : PyData.leavesShortAll 13 ds = true
  bk : PyData.bulkAll ds ≤ b
  dp : PyData.depthAll ds ≤ n
theorem Sh.mono {d : PyData} {b n c m : Nat} (h : Sh d b n) (hb : b ≤ c) (hn : n ≤ m) : Sh d c m := ⟨h.lay, h.shw, h.lv, Nat.le_trans h.bk hb, Nat.le_trans h.dp hn⟩
theorem ShA.mono {ds : List PyData} {b n c m : Nat} (h : ShA ds b n) (hb : b ≤ c) (hn : n ≤ m) : ShA ds c m := ⟨h.lay, h.shw, h.lv, Nat.le_trans h.bk hb, Nat.le_trans h.dp hn⟩
theorem Sh.none : Sh .none 0 0 := ⟨by simp only [PyData.canLay0], by simp only [PyData.showable], by simp only [PyData.leavesShort], by simp only [PyData.bulk]; exact Nat.le_refl 0, by simp only [PyData.depth]; exact Nat.le_refl 0⟩
theorem Sh.bool (b : Bool) : Sh (.bool b) 0 0 := ⟨by simp only [PyData.canLay0], by simp only [PyData.showable], by simp only [PyData.leavesShort], by simp only [PyData.bulk]; exact Nat.le_refl 0, by simp only [PyData.depth]; exact Nat.le_refl 0⟩
theorem log_lt {i : Int} (h : i.natAbs < 10 ^ 12) : i.natAbs.log2 < 1920 := by
  by_cases z : i.natAbs = 0
  · rw [z]; decide
  · refine (Nat.log2_lt z).mpr (Nat.lt_of_lt_of_le h ?_)
    exact Nat.le_trans (by decide : 10 ^ 12 ≤ 2 ^ 40) (Nat.pow_le_pow_right (by decide) (by decide))
theorem Sh.int {i : Int} (h : i.natAbs < 10 ^ 12) : Sh (.int i) 0 0 := ⟨by simp only [PyData.canLay0], by simp only [PyData.showable]; exact decide_eq_true (log_lt h), by simp only [PyData.leavesShort]; exact decide_eq_true (PyData.shown_int_le h), by simp only [PyData.bulk]; exact Nat.le_refl 0, by simp only [PyData.depth]; exact Nat.le_refl 0⟩
theorem Sh.str {x : Str} {b : Nat} (h : ∀ c ∈ x.cps.toList, c < 128) (hb : x.length ≤ b) : Sh (.str x) b 0 := by
  refine ⟨?_, by simp only [PyData.showable], ?_, by simp only [PyData.bulk]; exact hb, by simp only [PyData.depth]; exact Nat.le_refl 0⟩
  · simp only [PyData.canLay0]
    show x.cps.all (· < 0x110000) = true
    rw [← Array.all_toList]
    exact List.all_eq_true.mpr fun c hc => decide_eq_true (by have := h c hc; omega)
  · simp only [PyData.leavesShort]
    refine List.all_eq_true.mpr fun c hc => decide_eq_true ?_
    have := h c hc
    have e : (16 : Nat) ^ 8 = 4294967296 := by decide
    omega
theorem ShA.nil : ShA [] 0 0 := ⟨by simp only [PyData.canLayAll0], by simp only [PyData.showableAll], by simp only [PyData.leavesShortAll], by simp only [PyData.bulkAll]; exact Nat.le_refl 0, by simp only [PyData.depthAll]; exact Nat.le_refl 0⟩
theorem ShA.cons {d : PyData} {ds : List PyData} {b c n m : Nat} (h : Sh d b n) (g : ShA ds c m) : ShA (d :: ds) (b + 1 + c) (max n m) := by
  refine ⟨?_, ?_, ?_, ?_, ?_⟩
  · simp only [PyData.canLayAll0]; rw [h.lay, g.lay]; rfl
  · simp only [PyData.showableAll]; rw [h.shw, g.shw]; rfl
  · simp only [PyData.leavesShortAll]; rw [h.lv, g.lv]; rfl
  · simp only [PyData.bulkAll]
    have := h.bk
    have := g.bk
    omega
  · simp only [PyData.depthAll]
    have := h.dp
    have := g.dp
    omega
theorem ShA.map {α : Type} {f : α → PyData} {c n : Nat} : ∀ {l : List α}, (∀ x ∈ l, Sh (f x) c n) → ShA (l.map f) (l.length * (c + 1)) n
  | [], _ => ShA.nil.mono (Nat.zero_le _) (Nat.zero_le _)
  | x :: l, h => by
    have g := ShA.cons (h x List.mem_cons_self) (ShA.map fun y hy => h y (List.mem_cons_of_mem _ hy))
    exact g.mono (by rw [List.length_cons, Nat.succ_mul]; omega) (by omega)
theorem Sh.tup {ds : List PyData} {b n : Nat} (h : ShA ds b n) : Sh (.tuple ds) b (n + 1) := by
  refine ⟨?_, ?_, ?_, ?_, ?_⟩
  · simp only [PyData.canLay0]; exact h.lay
  · simp only [PyData.showable]; exact h.shw
  · simp only [PyData.leavesShort]; exact h.lv
  · simp only [PyData.bulk]; exact h.bk
  · simp only [PyData.depth]
    have := h.dp
    omega
theorem Sh.lst {ds : List PyData} {b n : Nat} (h : ShA ds b n) : Sh (.list ds) b (n + 1) := by
  refine ⟨?_, ?_, ?_, ?_, ?_⟩
  · simp only [PyData.canLay0]; exact h.lay
  · simp only [PyData.showable]; exact h.shw
  · simp only [PyData.leavesShort]; exact h.lv
  · simp only [PyData.bulk]; exact h.bk
  · simp only [PyData.depth]
    have := h.dp
    omega
/-- repr(x), x plain data -/
def rRepr (K : PySem.W.Frag) : List V → Hp → VK → Prop := fun xs H Q => ∃ (v : V) (d : PyData) (b n : Nat), xs = [v] ∧ Dp K H v d ∧ Sh d b n ∧ b ≤ 1048576 ∧ n ≤ 60 ∧ Q (.str d.shown) H
theorem reprD {X : Cx} (K : PySem.W.Frag) (hg : X.A.guards = some []) (hu : X.A.units + 64 < cLine) (h : X.K = K := by rfl) : CallR X (.builtin "repr") (rRepr K) := by
  subst h
  intro pins s σ H xs us Q I r h
  obtain ⟨v, d, b, n, rfl, hd, sh, hb, hn, q⟩ := h
  cases r with
  | cons ru rr =>
    cases rr
    have fits : d.shown.length ≤ sizeLine := PyData.shown_fits_bulk (B := 13) (by decide) (by decide) sh.lv (Nat.le_trans sh.bk (Nat.le_trans hb (by decide)))
    cases hd with
    | non => cases ru; exact P.repr_of_none ⟨.str _, H, I.tok _, ⟨_, rfl⟩, by simpa only [PyData.shown] using q⟩
    | bl c => cases ru; exact P.repr_of_bool ⟨.str _, H, I.tok _, ⟨_, rfl⟩, by simpa only [PyData.shown] using q⟩
    | int i =>
      obtain ⟨t, rfl⟩ := ru
      have g := sh.shw
      simp only [PyData.showable] at g
      exact P.repr_of_int (of_decide_eq_true g) ⟨.str _, H, I.tok _, ⟨_, rfl⟩, by simpa only [PyData.shown] using q⟩
    | str x =>
      obtain ⟨t, rfl⟩ := ru
      exact P.repr_of_str ⟨.str _, H, I.tok _, ⟨_, rfl⟩, by simpa only [PyData.shown] using q⟩ (by simpa only [PyData.shown] using fits)
    | lst hs ha =>
      cases ru
      obtain ⟨as, rd⟩ := Dp.reads I _ _ _ (.lst hs ha) (show RelV (V.ref _) (Value.ref _) from rfl)
      exact repr_of_reads' rd sh.shw (PyData.noDict_hsm (PyData.hasDict_of_canLay _ sh.lay)) hg (by have := sh.dp; omega) (fun b o e => e) (fun h' u tk k => ⟨.str _, H, I.kept (t' := tk) k, ⟨_, rfl⟩, q⟩) fits
    | tup hs ha =>
      cases ru
      obtain ⟨as, rd⟩ := Dp.reads I _ _ _ (.tup hs ha) (show RelV (V.ref _) (Value.ref _) from rfl)
      exact repr_of_reads' rd sh.shw (PyData.noDict_hsm (PyData.hasDict_of_canLay _ sh.lay)) hg (by have := sh.dp; omega) (fun b o e => e) (fun h' u tk k => ⟨.str _, H, I.kept (t' := tk) k, ⟨_, rfl⟩, q⟩) fits
/-! ### own classes, in bundles -/
/-- a special method of the class at C -/
structure SpN (P : Program) (w : World) (K : PySem.W.Frag) (mg : Str → Option Value) (base : Heap) (C : Addr) (m : Str) (k : Nat) (sp : Sp) : Prop where
  ex : ∃ (f : Addr) (fd : FuncData) (ps : List Str), FnOk P w K mg base CX0 k f fd ps sp ∧ PySem.W.findIn K (.ref C) m = some (some (.ref f)) ∧ PySem.W.isFn K (.ref f) = true ∧ Binds K fd ps []
/-- a property -/
structure GetN (P : Program) (w : World) (K : PySem.W.Frag) (mg : Str → Option Value) (base : Heap) (C : Addr) (m : Str) (k : Nat) (sp : Sp) : Prop where
  ex : ∃ (p g : Addr) (fd : FuncData) (ps : List Str), PropOf K C m p g ∧ FnOk P w K mg base CX0 k g fd ps sp ∧ Binds K fd ps []
/-- the class made, by position and by keyword -/
structure MkN (P : Program) (w : World) (K : PySem.W.Frag) (mg : Str → Option Value) (base : Heap) (x : Str) (C : Addr) (k : Nat) (ps : List Str) (sp : Sp) (ks : List Str) (gL : List Value → List Value → List Value) (gV : List V → List V → List V) : Prop where
  ex : ∃ (f : Addr) (fd : FuncData), Mk K C f ∧ FnOk P w K mg base CX0 k f fd ps sp ∧ Binds K fd ps [] ∧ KBn K fd ps 1 ks gL gV
  gC : mg x = some (.ref C)
/-- a classmethod, by position and by keyword -/
structure CmN (P : Program) (w : World) (K : PySem.W.Frag) (mg : Str → Option Value) (base : Heap) (C : Addr) (m : Str) (k : Nat) (ps : List Str) (sp : Sp) (ks : List Str) (gL : List Value → List Value → List Value) (gV : List V → List V → List V) : Prop where
  ex : ∃ (p g : Addr) (fd : FuncData) (mc : Value), ClX.CRead K C mc ∧ ClX.CMet K C mc m p g ∧ FnOk P w K mg base CX0 k g fd ps sp ∧ Binds K fd ps [] ∧ KBn K fd ps 1 ks gL gV
theorem fun_kb {K : PySem.W.Frag} {x qual : Str} {st : Stmt} {f : Addr} {fd : FuncData} {ps ks : List Str} {n : Nat} {gL : List Value → List Value → List Value} {gV : List V → List V → List V} (F : Fun K x qual st f fd)
    (h : ∀ (kV doc pm : Value) (an : Option Addr) (cdv ct : Value) (us ws : List Value), us.length = n → ws.length = ks.length → bindArgs (PySem.W.fnOf x qual (defArgs st) (defBody st) (defScope st) .none kV doc pm an cdv ct) ⟨us, ks.zip ws⟩ = pure (ps.zip (gL us ws)))
    (hrel : ∀ {vs : List V} {us : List Value} {zs : List V} {ws : List Value}, Vals vs us → Vals zs ws → Vals (gV vs zs) (gL us ws)) : KBn K fd ps n ks gL gV := by
  obtain ⟨oc, od, kV, doc, pm, an, cdv, ct, osl, rfl, lk, hcd⟩ := F.ex
  exact ⟨fun s us ws _ h1 h2 => .of_eq (h kV doc pm an cdv ct us ws h1 h2), hrel⟩
section
variable {X : Cx} {C : Addr} {k j : Nat} {sp : Sp} {m x : Str} {ps ks : List Str} {gL : List Value → List Value → List Value} {gV : List V → List V → List V} {e o : Expr} {es : List Expr} {kws : List Keyword} {p pos apos : Pos} {t : TA} {ta : TE} {tk : TA} {pl : Sem Bool}
theorem SpN.at (S : SpN X.prog X.w X.K X.mg X.base C m k sp) : SpM X C m k sp := ⟨S.ex⟩
theorem pe_prp (G : GetN X.prog X.w X.K X.mg X.base C m k sp) (c : Cls X.K C) (hr : Room j X.A) (hk : k + 1 ≤ j) (he : PE X e ta) (hab : attributeBase e m X.env (eval e X.env) = eval e X.env := by rfl) : PE X (.Attribute e m pos) (tProp C sp [] E0 ta) := by
  obtain ⟨p, g, fd, ps, hp, F, hb⟩ := G.ex
  exact pe_prop he c hp F (hr.mono hk) hb .nil pass0 hab
theorem pe_mk (M : MkN X.prog X.w X.K X.mg X.base x C k ps sp ks gL gV) (hr : Room j X.A) (hk : k + 1 ≤ j) (ha : PA X (e :: es) t) (hg : Gl X x := by rfl) (hdb : (x == ("__debug__" : Str)) = false := by decide)
    (he : starEach (e :: es) X.env = (false, eval e X.env) :: starEach es X.env := by rfl) (hpl : (backTo pos (starEach es X.env)).any (·.1) = false := by rfl) : PE X (.Call (.Name x p) (e :: es) [] pos) (tMake C sp [] E0 t) := by
  obtain ⟨⟨f, fd, m, F, hb, _⟩, gC⟩ := M
  exact pe_make m F (hr.mono hk) hg gC hb .nil pass0 ha hdb he hpl
theorem pe_mkK (M : MkN X.prog X.w X.K X.mg X.base x C k ps sp ks gL gV) (hr : Room j X.A) (hk : k + 1 ≤ j) (hkw : PK X kws tk) (hg : Gl X x := by rfl)
    (hall : (backToKw pos (keywordEach kws X.env)).all (·.1.isSome) = true := by rfl) (hks : (backToKw pos (keywordEach kws X.env)).filterMap (·.1) = ks := by rfl) (hdb : (x == ("__debug__" : Str)) = false := by decide)
    (hpl : ((backTo pos (starEach [] X.env)).any (·.1) || (backToKw pos (keywordEach kws X.env)).any (·.1.isNone)) = false := by rfl) : PE X (.Call (.Name x p) [] kws pos) (tMakeK C 0 ks.length sp gV E0 tNil tk) := by
  obtain ⟨⟨f, fd, m, F, _, hb⟩, gC⟩ := M
  exact pe_makeK0 m F (hr.mono hk) hg gC hb pass0 hkw hall hks hdb hpl
theorem pe_cm (M : CmN X.prog X.w X.K X.mg X.base C m k ps sp ks gL gV) (hr : Room j X.A) (hk : k ≤ j) (he : PE X o ta) (ha : PA X (e :: es) t)
    (hst : starEach (e :: es) X.env = (false, eval e X.env) :: starEach es X.env := by rfl) (hpl : (backTo pos (starEach es X.env)).any (·.1) = false := by rfl)
    (ht : eval (.Call (.Attribute o m apos) (e :: es) [] pos) X.env = (eval o X.env >>= fun ov => standAt apos.atName >>= fun _ => holding [ov] (getMethod ov m pl) >>= fun fx => callWith pos fx.1 fx.2 (backTo pos (starEach (e :: es) X.env)) (backToKw pos (keywordEach [] X.env))) := by rfl) :
    PE X (.Call (.Attribute o m apos) (e :: es) [] pos) (ClX.tCMeth C (fun vs H Q E => sp (vs ++ []) H Q E) E0 ta t) := by
  obtain ⟨p, g, fd, mc, r, c, F, hb, _⟩ := M.ex
  exact ClX.pe_cmeth (pl := pl) he r c (F.raw hb .nil) (hr.mono hk) pass0 ha hst hpl ht
theorem pe_cmK (M : CmN X.prog X.w X.K X.mg X.base C m k ps sp ks gL gV) (hr : Room j X.A) (hk : k ≤ j) (he : PE X o ta) (hkw : PK X kws tk)
    (hall : (backToKw pos (keywordEach kws X.env)).all (·.1.isSome) = true := by rfl) (hks : (backToKw pos (keywordEach kws X.env)).filterMap (·.1) = ks := by rfl)
    (hpl : ((backTo pos (starEach [] X.env)).any (·.1) || (backToKw pos (keywordEach kws X.env)).any (·.1.isNone)) = false := by rfl)
    (ht : eval (.Call (.Attribute o m apos) [] kws pos) X.env = (eval o X.env >>= fun ov => standAt apos.atName >>= fun _ => holding [ov] (getMethod ov m pl) >>= fun fx => callWith pos fx.1 fx.2 (backTo pos (starEach [] X.env)) (backToKw pos (keywordEach kws X.env))) := by rfl) :
    PE X (.Call (.Attribute o m apos) [] kws pos) (tCMethK C ks.length sp gV ta tk) := by
  obtain ⟨p, g, fd, mc, r, c, F, _, hb⟩ := M.ex
  exact pe_cmethK (pl := pl) he r c F hr hk hb hkw hall hks hpl ht
end
end U

namespace U
open PySem L2 PySem.Spec PyProof.Rows PySem.W
/-! ### t[::-1] of a tuple -/
section
variable {prog : Program} {w : World} {A : Around} {E : Value → Shared → Prop} {s : Shared}
theorem places_rev (n : Nat) : Builtin.Slice.slicePlaces ((n : Int) - 1) (-1) (-1) = n := by
  unfold Builtin.Slice.slicePlaces
  rw [if_neg (by decide)]
  by_cases h : (n : Int) - 1 > -1
  · rw [if_pos h]
    have e : ((n : Int) - 1 - -1 - 1) / (- -1) + 1 = (n : Int) := by
      rw [show (- -1 : Int) = 1 by decide, Int.ediv_one]; omega
    rw [e]; rfl
  · rw [if_neg h]
    have : n = 0 := by omega
    rw [this]; rfl
theorem applied_rev {sl : Addr} {vl vu vs : Value} {n : Nat} {Q : Int × Int × Nat → Shared → Prop} (hs : s.heap.IsSliceOf sl vl vu vs) (pl : IsPart vl none) (pu : IsPart vu none) (ps : IsPart vs (some (-1)))
    (h : Q ((n : Int) - 1, -1, n) s) : wpAny (model prog w) A (Builtin.Slice.sliceApplied (.ref sl) (pure (n : Int))) Q E s := by
  obtain ⟨os, g1, g2, g3⟩ := id hs
  unfold Builtin.Slice.sliceApplied Builtin.Slice.sliceFields
  refine wpAny_bind (wpAny_bind (wpAny_field g1 g3 (x := vl) rfl (wpAny_bind (wpAny_field g1 g3 (x := vu) rfl (wpAny_bind (wpAny_field g1 g3 (x := vs) rfl (wpAny_pure ?_)))))))
  refine wpAny_bind (HT.slicePart_ ps ?_)
  show wpAny _ _ (if ((-1 : Int) == 0) = true then _ else _) _ _ s
  rw [if_neg (by decide)]
  refine wpAny_bind (HT.slicePart_ pl (wpAny_bind (HT.slicePart_ pu (wpAny_bind (wpAny_pure ?_)))))
  have e : Builtin.Slice.sliceAdjust none none (-1) (n : Int) = ((n : Int) - 1, -1) := rfl
  show wpAny _ _ (pure (((n : Int) - 1), (-1 : Int), Builtin.Slice.slicePlaces ((n : Int) - 1) (-1) (-1))) _ _ s
  rw [places_rev]
  exact wpAny_pure h
theorem fm_congr {α β : Type} {f g : α → Option β} : ∀ {l : List α}, (∀ x ∈ l, f x = g x) → l.filterMap f = l.filterMap g
  | [], _ => rfl
  | x :: l, h => by
    rw [List.filterMap_cons, List.filterMap_cons, h x List.mem_cons_self, fm_congr fun y hy => h y (List.mem_cons_of_mem _ hy)]
theorem pick_rev (xs : Array Value) : ((List.range xs.size).filterMap fun (m : Nat) => xs[((xs.size : Int) - 1 + (m : Int) * -1).toNat]?).toArray = xs.toList.reverse.toArray := by
  have e : ((List.range xs.size).filterMap fun (m : Nat) => xs[((xs.size : Int) - 1 + (m : Int) * -1).toNat]?) = ((List.range xs.size).map fun k => xs.size - 1 - k).filterMap (xs[·]?) := by
    rw [List.filterMap_map]
    refine fm_congr fun m hm => ?_
    have := List.mem_range.mp hm
    have e : ((xs.size : Int) - 1 + (m : Int) * -1).toNat = xs.size - 1 - m := by omega
    rw [e]; rfl
  rw [e, krv_range, List.filterMap_reverse, krv_all]
theorem getItem_rev {t sl : Addr} {items : Array Value} {vl vu vs : Value} {Q : Value → Shared → Prop} (ht : IsTup s.heap t items) (hs : s.heap.IsSliceOf sl vl vu vs) (pl : IsPart vl none) (pu : IsPart vu none) (ps : IsPart vs (some (-1)))
    (h : Q (.ref s.heap.objs.size) { s with heap := s.heap.push { cls := .type "tuple", data := .seq items.toList.reverse.toArray } }) (hsz : items.size ≤ sizeLine) : wpAny (model prog w) A (getItem (.ref t) (.ref sl)) Q E s := by
  have room : sizeOk (.seq items.toList.reverse.toArray) := by
    show items.toList.reverse.toArray.size ≤ sizeLine
    rw [List.size_toArray, List.length_reverse, Array.length_toList]; exact hsz
  obtain ⟨os, g1, g2, g3⟩ := id hs
  have tys : s.TypeIs (.ref sl) "slice" := ⟨os, g1, g2⟩
  unfold getItem
  try with_reducible refine wpAny_holding ?_
  first | refine wpAny_bind (wpAny_pure ?_) | skip
  refine wpAny_bind (wpAny_sequenceKey ht.typeIs (by decide) ?_)
  refine wpAny_bind (wpAny_callSpecial?_slot (name := Str.ofString "__getitem__") ht.typeIs PyProof.Rows.slot_tuple_getitem (wpAny_call_entry PyProof.Rows.slot_tuple_getitem ht.typeIs entry_tuple_getitem ?_ (args_tuple_getitem _ _)))
  show wpAny _ _ (Builtin.Tuple.tupleItemsOf (.ref t) >>= _) _ _ s
  refine wpAny_bind (tupleItemsOf_ ht (wpAny_bind (wpAny_typeOf tys ?_)))
  rw [if_pos (by decide)]
  refine wpAny_bind (applied_rev hs pl pu ps ?_)
  have no : ¬ ((((items.size : Int) - 1 == 0) && ((-1 : Int) == 1) && (items.size == items.size)) = true) := fun q => by
    rw [show ((-1 : Int) == 1) = false from rfl, Bool.and_false, Bool.false_and] at q
    cases q
  show wpAny _ _ (if (((items.size : Int) - 1 == 0) && ((-1 : Int) == 1) && (items.size == items.size)) = true then _ else _) _ _ s
  rw [if_neg no, pick_rev]
  first
    | exact wpAny_bind (m := Builtin.Tuple.tupleExact _) (wpAny_newObj_type (wpAny_pure ⟨_, rfl, wpAny_pure h⟩) room)
    | exact wpAny_bind (m := Builtin.Tuple.tupleExact _) (wpAny_newObj_type (wpAny_bind (wpAny_pure (wpAny_pure ⟨_, rfl, wpAny_pure h⟩))) room)
    | exact wpAny_bind (wpAny_bind (m := Builtin.Tuple.tupleExact _) (wpAny_newObj_type (wpAny_pure ⟨_, rfl, wpAny_pure h⟩) room))
    | exact wpAny_bind (wpAny_bind (m := Builtin.Tuple.tupleExact _) (wpAny_newObj_type (wpAny_pure (wpAny_pure ⟨_, rfl, wpAny_pure h⟩)) room))
end
section
variable {X : Cx}
def tRevT (K : PySem.W.Frag) (te : TE) : TE := fun σ H Q => te σ H fun x H1 => ∃ a xs, x = .ref a ∧ SqT K H1 a xs ∧ ∀ p, H1 p = none → Q (.ref p) (upd H1 p (.tup xs.reverse))
theorem pe_revT (K : PySem.W.Frag) {e : Expr} {te : TE} {k : Nat} {p1 p2 p3 pos : Pos} (he : PE X e te) (hK : X.K = K := by rfl) : PE X (.Subscript e (.Slice none none (some (.UnaryOp .USub (.Constant (.int 1) k p1) p2)) p3) pos) (tRevT K te) := by
  subst hK
  constructor
  intro pins s σ H Q I h
  refine Subscript_ (thn (he.run pins s σ H _ I h) fun v s1 hh => ?_)
  obtain ⟨x, H1, I1, r1, a, xs, rfl, hx, q⟩ := hh
  cases r1
  have st : PO X (some (.UnaryOp .USub (.Constant (.int 1) k p1) p2)) (tPart (tUn (rU fun i => .int (-i)) (tC (.int 1)))) := po_some (pe_un un_neg pe_int)
  refine wpAny_Slice (thn (po_none.run pins s1 σ H1 (fun o H2 => o = none ∧ H2 = H1) I1 ⟨rfl, rfl⟩) fun vl s2 hl => ?_)
  obtain ⟨l, H2, I2, pl, rfl, rfl⟩ := hl
  refine thn (po_none.run pins s2 σ H2 (fun o H3 => o = none ∧ H3 = H2) I2 ⟨rfl, rfl⟩) fun vu s3 hl => ?_
  obtain ⟨u, H3, I3, pu, rfl, rfl⟩ := hl
  refine thn (st.run pins s3 σ H3 (fun o H4 => o = some (-1) ∧ H4 = H3) I3 ⟨1, rfl, -1, rfl, rfl, rfl⟩) fun vs s4 hl => ?_
  obtain ⟨o, H4, I4, ps, rfl, rfl⟩ := hl
  have I5 : Inv X pins σ H4 { s4 with heap := s4.heap.push { cls := .type "slice", data := .fields #[vl, vu, vs] } } := I4.kept (t' := s4.toks) fun b ob q => Heap.get?_push_of_some _ q
  obtain ⟨its, r, ht, hz⟩ := I5.tuple hx
  show wpAny (model X.prog X.w) X.A (subscriptTail e (.Slice none none (some (.UnaryOp .USub (.Constant (.int 1) k p1) p2)) p3) (.ref a) (.ref s4.heap.objs.size)) (EP X pins σ Q) X.xe { s4 with heap := s4.heap.push { cls := .type "slice", data := .fields #[vl, vu, vs] } }
  refine tail_any (ops := [.ref a, .ref s4.heap.objs.size]) ht.typeIs PyProof.Rows.slot_tuple_getitem.lookup ?_ (by with_unfolding_all rfl)
  refine getItem_rev ht (Heap.IsSliceOf.new _ vl vu vs) pl pu ps ?_ (by rw [List.size_toArray, ← r.length]; exact hz)
  refine ⟨.ref _, _, I5.laid (t' := s4.toks) (o := .tup xs.reverse) (fun b ob q => Heap.get?_push_of_some _ q) (Nat.le_refl _) ?_, rfl, q _ (I5.hok.fresh (Nat.le_refl _))⟩
  exact ⟨by rw [List.length_reverse]; exact hz, _, r.reverse, IsTup.new _ _⟩
end
end U

namespace U
open PySem L2 PySem.Spec PyProof.Rows PySem.W
/-! ### an own object held against a value of a built-in class -/
section
variable {prog : Program} {w : World} {A : Around} {E : Value → Shared → Prop} {s : Shared} {K : Frag} {x C : Addr} {ox dx : Addr} {od : Option Obj}
theorem int_own_eq (b : Int) (u : Tok) (l C dx : Addr) : Meets (Builtin.«int.__eq__» ⟨[.int b u, .ref l], []⟩) (fun _ R s => s.heap.get? l = some (instObj C dx) ∧ R (.ok (.ret .notImplemented)) s) :=
  .of_wp fun prog w A R s h => by obtain ⟨hp, g, d, tk, os⟩ := s; obtain ⟨hl, h⟩ := h; wp_walk using wpAny_loadPart' hl, wpAny_load hl; exact ⟨_, rfl, h⟩
theorem int_own_ne (b : Int) (u : Tok) (l C dx : Addr) : Meets (Builtin.«int.__ne__» ⟨[.int b u, .ref l], []⟩) (fun _ R s => s.heap.get? l = some (instObj C dx) ∧ R (.ok (.ret .notImplemented)) s) :=
  .of_wp fun prog w A R s h => by obtain ⟨hp, g, d, tk, os⟩ := s; obtain ⟨hl, h⟩ := h; wp_walk using wpAny_loadPart' hl, wpAny_load hl; exact ⟨_, rfl, h⟩
theorem bool_own_eq (b : Bool) (l C dx : Addr) : Meets (Builtin.«int.__eq__» ⟨[.bool b, .ref l], []⟩) (fun _ R s => s.heap.get? l = some (instObj C dx) ∧ R (.ok (.ret .notImplemented)) s) :=
  .of_wp fun prog w A R s h => by obtain ⟨hp, g, d, tk, os⟩ := s; obtain ⟨hl, h⟩ := h; wp_walk using wpAny_loadPart' hl, wpAny_load hl; exact ⟨_, rfl, h⟩
theorem bool_own_ne (b : Bool) (l C dx : Addr) : Meets (Builtin.«int.__ne__» ⟨[.bool b, .ref l], []⟩) (fun _ R s => s.heap.get? l = some (instObj C dx) ∧ R (.ok (.ret .notImplemented)) s) :=
  .of_wp fun prog w A R s h => by obtain ⟨hp, g, d, tk, os⟩ := s; obtain ⟨hl, h⟩ := h; wp_walk using wpAny_loadPart' hl, wpAny_load hl; exact ⟨_, rfl, h⟩
theorem str_own_eq (b : Str) (u : Tok) (l C dx : Addr) : Meets (Builtin.«str.__eq__» ⟨[.str b u, .ref l], []⟩) (fun _ R s => s.heap.get? l = some (instObj C dx) ∧ R (.ok (.ret .notImplemented)) s) :=
  .of_wp fun prog w A R s h => by obtain ⟨hp, g, d, tk, os⟩ := s; obtain ⟨hl, h⟩ := h; wp_walk using wpAny_loadPart' hl, wpAny_load hl; exact ⟨_, rfl, h⟩
theorem str_own_ne (b : Str) (u : Tok) (l C dx : Addr) : Meets (Builtin.«str.__ne__» ⟨[.str b u, .ref l], []⟩) (fun _ R s => s.heap.get? l = some (instObj C dx) ∧ R (.ok (.ret .notImplemented)) s) :=
  .of_wp fun prog w A R s h => by obtain ⟨hp, g, d, tk, os⟩ := s; obtain ⟨hl, h⟩ := h; wp_walk using wpAny_loadPart' hl, wpAny_load hl; exact ⟨_, rfl, h⟩
/-- what a list, a tuple, a dict says of a value of another class -/
theorem other_cls {T : String} {Q : Bool → Shared → Prop} (X : K.In s.heap) (J : PySem.W.InstAt s.heap x (instObj C dx) C od) (e : subIn K (.ref C) (.type T) = some false) (h : Q false s) : wpAny (model prog w) A (isInstance (.ref x) (.type T)) Q E s := by
  unfold isInstance
  exact wpAny_bind (J.type.here ((looks_subIn X e).here h))
theorem tup_body {B : Builtin} {a : Addr} {Q : Value → Shared → Prop} (hB : B = Builtin.«tuple.__eq__» ∨ B = Builtin.«tuple.__ne__») (X : K.In s.heap) (J : PySem.W.InstAt s.heap x (instObj C dx) C od) (e : subIn K (.ref C) (.type "tuple") = some false)
    (h : Q .notImplemented s) : wpAny (model prog w) A (B ⟨[.ref a, .ref x], []⟩) (fun fin s' => ∃ v, fin = .done (.ret v) ∧ Q v s') E s := by
  rcases hB with rfl | rfl
  all_goals
    show wpAny _ _ (isInstance (.ref x) (.type "tuple") >>= _) _ _ s
    refine wpAny_bind (other_cls X J e ?_)
    show wpAny _ _ (if (!false) = true then _ else _) _ _ s
    rw [if_pos (by rfl : (!false) = true)]
    exact wpAny_pure ⟨_, rfl, h⟩
theorem lst_body {B : Builtin} {a : Addr} {Q : Value → Shared → Prop} (hB : B = Builtin.«list.__eq__» ∨ B = Builtin.«list.__ne__») (X : K.In s.heap) (J : PySem.W.InstAt s.heap x (instObj C dx) C od) (e : subIn K (.ref C) (.type "list") = some false)
    (h : Q .notImplemented s) : wpAny (model prog w) A (B ⟨[.ref a, .ref x], []⟩) (fun fin s' => ∃ v, fin = .done (.ret v) ∧ Q v s') E s := by
  rcases hB with rfl | rfl
  all_goals
    show wpAny _ _ (isInstance (.ref x) (.type "list") >>= _) _ _ s
    refine wpAny_bind (other_cls X J e ?_)
    show wpAny _ _ (if (!false) = true then _ else _) _ _ s
    rw [if_pos (by rfl : (!false) = true)]
    exact wpAny_pure ⟨_, rfl, h⟩
theorem dic_body {B : Builtin} {a : Addr} {Q : Value → Shared → Prop} (hB : B = Builtin.«dict.__eq__» ∨ B = Builtin.«dict.__ne__») (X : K.In s.heap) (J : PySem.W.InstAt s.heap x (instObj C dx) C od) (e : subIn K (.ref C) (.type "dict") = some false)
    (h : Q .notImplemented s) : wpAny (model prog w) A (B ⟨[.ref a, .ref x], []⟩) (fun fin s' => ∃ v, fin = .done (.ret v) ∧ Q v s') E s := by
  rcases hB with rfl | rfl
  all_goals
    show wpAny _ _ (isInstance (.ref x) (.type "dict") >>= _) _ _ s
    refine wpAny_bind (other_cls X J e ?_)
    show wpAny _ _ (if (!false) = true then _ else _) _ _ s
    rw [if_pos (by rfl : (!false) = true)]
    exact wpAny_bind (wpAny_rule (wpAny_pure ⟨_, rfl, h⟩))
/-- a value of a built-in class -/
inductive Fv (s : Shared) : Value → String → Prop
  | non : Fv s .none "NoneType"
  | bl (b : Bool) : Fv s (.bool b) "bool"
  | int (i : Int) (t : Tok) : Fv s (.int i t) "int"
  | str (y : Str) (t : Tok) : Fv s (.str y t) "str"
  | lst {a : Addr} (h : s.TypeIs (.ref a) "list") : Fv s (.ref a) "list"
  | tup {a : Addr} (h : s.TypeIs (.ref a) "tuple") : Fv s (.ref a) "tuple"
  | dic {a : Addr} (h : s.TypeIs (.ref a) "dict") : Fv s (.ref a) "dict"
theorem Fv.ty {v : Value} {T : String} (f : Fv s v T) : s.TypeIs v T := by
  cases f with
  | non => rfl
  | bl b => rfl
  | int i t => exact typeIs_int s i t
  | str y t => exact typeIs_str s y t
  | lst h => exact h
  | tup h => exact h
  | dic h => exact h
theorem Fv.decl {op : CmpOp} {v : Value} {T : String} (ho : op = .Eq ∨ op = .NotEq) (f : Fv s v T) (X : K.In s.heap) (g : s.heap.get? x = some (instObj C dx)) (J : PySem.W.InstAt s.heap x (instObj C dx) C od) (e : subIn K (.ref C) (.type T) = some false) :
    ∃ id, Slot T (cmpInfo op).2.1 id ∧ ∀ (A : Around) (E : Value → Shared → Prop) (Q : Value → Shared → Prop), Q .notImplemented s → wpAny (model prog w) A (call (.builtin id) [v, .ref x]) Q E s := by
  rcases ho with rfl | rfl
  · cases f with
    | non => exact ⟨_, PySem.F.slot_NoneType_eq, fun A E Q h => call_gives PySem.F.slot_NoneType_eq rfl PySem.F.entry_NoneType_eq (PySem.F.args_NoneType_eq_2 _ _) (SeqAt.NoneType___eq___none_ref_0 x) h⟩
    | bl b => exact ⟨_, PySem.F.slot_bool_eq, fun A E Q h => call_meets PySem.F.slot_bool_eq rfl PySem.F.entry_int_eq (PySem.F.args_int_eq_2 _ _) (bool_own_eq b x C dx) ⟨g, h⟩⟩
    | int i t => exact ⟨_, PySem.F.slot_int_eq, fun A E Q h => call_meets PySem.F.slot_int_eq (typeIs_int s i t) PySem.F.entry_int_eq (PySem.F.args_int_eq_2 _ _) (int_own_eq i t x C dx) ⟨g, h⟩⟩
    | str y t => exact ⟨_, PySem.F.slot_str_eq, fun A E Q h => call_meets PySem.F.slot_str_eq (typeIs_str s y t) PySem.F.entry_str_eq (PySem.F.args_str_eq_2 _ _) (str_own_eq y t x C dx) ⟨g, h⟩⟩
    | lst h => exact ⟨_, PySem.F.slot_list_eq, fun A E Q hq => wpAny_call_entry PySem.F.slot_list_eq h PySem.F.entry_list_eq (lst_body (.inl rfl) X J e hq) (PySem.F.args_list_eq_2 _ _)⟩
    | tup h => exact ⟨_, PySem.F.slot_tuple_eq, fun A E Q hq => wpAny_call_entry PySem.F.slot_tuple_eq h PySem.F.entry_tuple_eq (tup_body (.inl rfl) X J e hq) (PySem.F.args_tuple_eq_2 _ _)⟩
    | dic h => exact ⟨_, PySem.F.slot_dict_eq, fun A E Q hq => wpAny_call_entry PySem.F.slot_dict_eq h PySem.F.entry_dict_eq (dic_body (.inl rfl) X J e hq) (PySem.F.args_dict_eq_2 _ _)⟩
  · cases f with
    | non => exact ⟨_, PySem.F.slot_NoneType_ne, fun A E Q h => call_gives PySem.F.slot_NoneType_ne rfl PySem.F.entry_NoneType_ne (PySem.F.args_NoneType_ne_2 _ _) (SeqAt.NoneType___ne___none_ref_0 x) h⟩
    | bl b => exact ⟨_, PySem.F.slot_bool_ne, fun A E Q h => call_meets PySem.F.slot_bool_ne rfl PySem.F.entry_int_ne (PySem.F.args_int_ne_2 _ _) (bool_own_ne b x C dx) ⟨g, h⟩⟩
    | int i t => exact ⟨_, PySem.F.slot_int_ne, fun A E Q h => call_meets PySem.F.slot_int_ne (typeIs_int s i t) PySem.F.entry_int_ne (PySem.F.args_int_ne_2 _ _) (int_own_ne i t x C dx) ⟨g, h⟩⟩
    | str y t => exact ⟨_, PySem.F.slot_str_ne, fun A E Q h => call_meets PySem.F.slot_str_ne (typeIs_str s y t) PySem.F.entry_str_ne (PySem.F.args_str_ne_2 _ _) (str_own_ne y t x C dx) ⟨g, h⟩⟩
    | lst h => exact ⟨_, PySem.F.slot_list_ne, fun A E Q hq => wpAny_call_entry PySem.F.slot_list_ne h PySem.F.entry_list_ne (lst_body (.inr rfl) X J e hq) (PySem.F.args_list_ne_2 _ _)⟩
    | tup h => exact ⟨_, PySem.F.slot_tuple_ne, fun A E Q hq => wpAny_call_entry PySem.F.slot_tuple_ne h PySem.F.entry_tuple_ne (tup_body (.inr rfl) X J e hq) (PySem.F.args_tuple_ne_2 _ _)⟩
    | dic h => exact ⟨_, PySem.F.slot_dict_ne, fun A E Q hq => wpAny_call_entry PySem.F.slot_dict_ne h PySem.F.entry_dict_ne (dic_body (.inr rfl) X J e hq) (PySem.F.args_dict_ne_2 _ _)⟩
theorem Fv.looks {M : Model} {v : Value} {T : String} (f : Fv s v T) : PySem.W.Looks M s.heap (typeOf v) (.type T) := by
  intro A' Q' E' s' kk q
  refine wpAny_typeOf ?_ q
  cases f with
  | non => rfl
  | bl b => rfl
  | int i t => exact typeIs_int s' i t
  | str y t => exact typeIs_str s' y t
  | lst h => obtain ⟨o, e, c⟩ := h; exact ⟨o, kk _ _ e, c⟩
  | tup h => obtain ⟨o, e, c⟩ := h; exact ⟨o, kk _ _ e, c⟩
  | dic h => obtain ⟨o, e, c⟩ := h; exact ⟨o, kk _ _ e, c⟩
/-- v == x, v != x: the built-in declines, the own object is asked -/
theorem rev_cmp {op : CmpOp} {v : Value} {T : String} {Q : Value → Shared → Prop} (ho : op = .Eq ∨ op = .NotEq) (hu : A.units < cLine) (f : Fv s v T) (X : K.In s.heap) (g : s.heap.get? x = some (instObj C dx)) (J : PySem.W.InstAt s.heap x (instObj C dx) C od) (e : subIn K (.ref C) (.type T) = some false)
    (back : wpAny (model prog w) A (tryCompare (.ref x) (cmpInfo op).2.2 v) (fun r s' => ∃ u, r = some u ∧ Q u s') E s) : wpAny (model prog w) A (richCompare op v (.ref x)) Q E s := by
  obtain ⟨id, sl, d⟩ := f.decl (prog := prog) (w := w) ho X g J e
  have fin : wpAny (model prog w) A (tryCompare v (cmpInfo op).2.1 (.ref x)) (fun r s' => r = none ∧ s' = s) E s := wpAny_tryCompare_declines f.ty sl (d _ _ _ ⟨rfl, rfl, rfl⟩)
  have nt : (Value.type T != Value.ref C) = true := rfl
  unfold richCompare
  simp only [f.ty.oneThing_none]
  refine wpAny_holding (wpAny_bind (wpAny_cRoomFor hu ?_))
  refine wpAny_bind (wpAny_typeOf f.ty (wpAny_bind (J.type.here ?_)))
  rw [if_pos nt]
  refine wpAny_bind ((looks_subIn X e).here ?_)
  simp only [Bool.false_eq_true, if_false]
  refine wpAny_bind (wpAny_mono fin (fun r s' z => ?_) fun _ _ e => e)
  obtain ⟨rfl, rfl⟩ := z
  simp only [Bool.not_false, if_true]
  refine wpAny_bind (wpAny_mono back (fun r s' z => ?_) fun _ _ e => e)
  obtain ⟨u, rfl, z⟩ := z
  exact wpAny_pure z
theorem try_eq {fa : Addr} {b : Value} {Q : Value → Shared → Prop} (X : K.In s.heap) (J : PySem.W.InstAt s.heap x (instObj C dx) C od) (hs : findIn K (.ref C) "__eq__" = some (some (.ref fa))) (hf : isFn K (.ref fa) = true)
    (h : wpAny (model prog w) A (call (.ref fa) [.ref x, b]) (PySem.W.CmpBack Q) E s) : wpAny (model prog w) A (tryCompare (.ref x) "__eq__" b) (fun r s' => ∃ v, r = some v ∧ Q v s') E s := by
  unfold tryCompare
  refine wpAny_bind (ifBound_K X J hs hf (wpAny_mono h (fun v s' hv => ?_) fun _ _ e => e))
  cases v <;> first | exact hv.elim | exact wpAny_pure ⟨_, rfl, hv⟩
theorem try_ne {fa : Addr} {b : Value} {Q : Value → Shared → Prop} (hu : A.units + 1 < cLine) (X : K.In s.heap) (J : PySem.W.InstAt s.heap x (instObj C dx) C od) (hne : findIn K (.ref C) "__ne__" = some (some (.builtin "object.__ne__"))) (hm : mroIn K C (.type "object") = some true)
    (hs : findIn K (.ref C) "__eq__" = some (some (.ref fa))) (hf : isFn K (.ref fa) = true)
    (h : wpAny (model prog w) A.in1 (call (.ref fa) [.ref x, b]) (fun v s' => ∃ c : Bool, v = .bool c ∧ Q (.bool (!c)) s') E s) : wpAny (model prog w) A (tryCompare (.ref x) "__ne__" b) (fun r s' => ∃ v, r = some v ∧ Q v s') E s := by
  unfold tryCompare
  refine wpAny_bind (ifB X J hne PySem.F.slot_tuple_iterator_ne.bind (wpAny_call (codeAny_call_builtin PySem.F.slot_tuple_iterator_ne.plain PySem.F.cmpEntry_ne
    (check_slot PySem.F.cmpKind_ne PySem.F.cmpSplit_ne (J.type.andThen (looks_mroIn X hm)) (PySem.F.cmpArgs_ne _ _) (neBody (A := A.in1) (by show A.units + 1 < cLine; exact hu) X J hs hf (wpAny_mono h (fun v s' hv => ?_) fun _ _ e => e))))))
  obtain ⟨c, rfl, hq⟩ := hv
  exact ⟨c, rfl, wpAny_pure ⟨_, rfl, hq⟩⟩
end
/-! ### the rules -/
/-- a value of a built-in class, as the proof sees it -/
inductive Fo (H : Hp) : V → String → Prop
  | non : Fo H .non "NoneType"
  | bl (b : Bool) : Fo H (.bl b) "bool"
  | int (i : Int) : Fo H (.int i) "int"
  | str (y : Str) : Fo H (.str y) "str"
  | lst {a : Addr} {xs : List V} (h : H a = some (.lst xs)) : Fo H (.ref a) "list"
  | tup {a : Addr} {xs : List V} (h : Tu H a xs) : Fo H (.ref a) "tuple"
  | dic {a : Addr} {kvs : List (Key × V)} (h : H a = some (.dK kvs)) : Fo H (.ref a) "dict"
theorem Fo.same {H H' : Hp} {v : V} {T : String} (f : Fo H v T) (s : Same H H') : Fo H' v T := by
  cases f with
  | non => exact .non
  | bl b => exact .bl b
  | int i => exact .int i
  | str y => exact .str y
  | lst h => exact .lst (s _ _ h)
  | tup h => exact .tup (h.same s)
  | dic h => exact .dic (s _ _ h)
theorem Fo.tyx {K : Frag} {H : Hp} {v : V} {T : String} (f : Fo H v T) : TyX K H v (.type T) := by
  cases f with
  | non => exact .base .non
  | bl b => exact .base (.bl b)
  | int i => exact .base (.int i)
  | str y => exact .base (.str y)
  | lst h => exact .base (.lst h)
  | tup h => exact h.tyx
  | dic h => exact .base (.dK h)
section
variable {X : Cx} {C : Addr} {k j : Nat} {sp : Sp} {pins : List (Addr × Obj)} {σ : L2.St} {H : Hp} {s : Shared}
theorem Fo.fv {v : V} {u : Value} {T : String} (I : Inv X pins σ H s) (f : Fo H v T) (r : RelV v u) : Fv s u T := by
  cases f with
  | non => cases r; exact .non
  | bl b => cases r; exact .bl b
  | int i => obtain ⟨t, rfl⟩ := r; exact .int i t
  | str y => obtain ⟨t, rfl⟩ := r; exact .str y t
  | lst h =>
    cases r
    obtain ⟨_, _, _, _, e⟩ := I.hok _ _ h
    exact .lst ⟨_, e, rfl⟩
  | tup h =>
    cases r
    obtain ⟨o, e, rfl | ⟨ro, _, rfl⟩⟩ := h
    · obtain ⟨_, _, _, p⟩ := I.hok _ _ e
      exact .tup p.typeIs
    · obtain ⟨_, _, _, _, p⟩ := I.hok _ _ e
      exact .tup p.typeIs
  | dic h =>
    cases r
    obtain ⟨_, _, _, _, o, _, _, e, ⟨c, _⟩, _⟩ := I.hok _ _ h
    exact .dic ⟨_, e, c⟩
/-- what the text's part says of the class and the built-in ones -/
structure Apart (K : Frag) (C : Addr) (T : String) : Prop where
  up : subIn K (.ref C) (.type T) = some false
  dn : subIn K (.type T) (.ref C) = some false
/-- x == y, x != y, one of them of the class at C, the other one too or of a built-in class -/
def rCmp (C : Addr) (sp : Sp) (ng : Bool → Bool) : R2 := fun x y H Q =>
  (∃ (a dx : Addr) (fs : List (Str × V)), x = .ref a ∧ H a = some (.ins C dx fs) ∧ ((∃ (b dy : Addr) (gs : List (Str × V)), y = .ref b ∧ H b = some (.ins C dy gs)) ∨ ∃ T, Fo H y T) ∧ sp [x, y] H (fun v H' => ∃ c : Bool, v = .bl c ∧ Q (.bl (ng c)) H') E0) ∨
  (∃ (b dy : Addr) (gs : List (Str × V)) (T : String), y = .ref b ∧ H b = some (.ins C dy gs) ∧ Fo H x T ∧ sp [y, x] H (fun v H' => ∃ c : Bool, v = .bl c ∧ Q (.bl (ng c)) H') E0)
theorem ins_obj {a dx : Addr} {fs : List (Str × V)} (I : Inv X pins σ H s) (ea : H a = some (.ins C dx fs)) : s.heap.get? a = some (instObj C dx) := by
  obtain ⟨_, _, _, e, _⟩ := I.hok _ _ ea
  exact e
theorem cmpEq (S : SpM X C "__eq__" k sp) (ap : ∀ {H : Hp} {v : V} {T : String}, Fo H v T → Apart X.K C T) (hr : Room j X.A) (hk : k ≤ j) : OpR X (compareOp .Eq) (rCmp C sp id) := by
  intro pins s σ H x y v u Q I rx ry h
  obtain ⟨f, fd, ps, F, hs, hf, hb⟩ := S.ex
  obtain ⟨m, hF⟩ := I.fr
  have r2 : Room k X.A := hr.mono hk
  show wpAny (model X.prog X.w) X.A (richCompare .Eq v u) (EP X pins σ Q) X.xe s
  rcases h with ⟨a, dx, fs, rfl, ea, hy, h⟩ | ⟨b, dy, gs, T, rfl, eb, fo, h⟩
  · cases rx
    obtain ⟨od, J⟩ := inst_of I ea
    have rr : Vals [V.ref a, y] [Value.ref a, u] := .cons (show RelV (V.ref a) (Value.ref a) from rfl) (.cons ry .nil)
    have call : wpAny (model X.prog X.w) X.A (call (.ref f) [.ref a, u]) (PySem.W.CmpBack (EP X pins σ Q)) X.xe s := wpAny_mono (run_at F hb r2 rfl I rr h) (fun w s' hq => by
      obtain ⟨z, H', I', rz, c, rfl, q⟩ := hq
      cases rz
      exact ⟨.bl c, H', I', rfl, q⟩) fun _ _ e => e
    rcases hy with ⟨b, dy, gs, rfl, eb⟩ | ⟨T, fo⟩
    · cases ry
      obtain ⟨od', J'⟩ := inst_of I eb
      exact cmp_K (op := .Eq) (tb := .ref C) r2.units0 hF I.ok.mod.kin J J'.type (by simp [notFirst]) hs hf call
    · have fv := fo.fv I ry
      refine cmp_K (op := .Eq) (tb := .type T) r2.units0 hF I.ok.mod.kin J fv.looks (by unfold notFirst; rw [(ap fo).dn]; simp) hs hf call
  · cases ry
    obtain ⟨od, J⟩ := inst_of I eb
    have rr : Vals [V.ref b, x] [Value.ref b, v] := .cons (show RelV (V.ref b) (Value.ref b) from rfl) (.cons rx .nil)
    refine rev_cmp (.inl rfl) r2.units0 (fo.fv I rx) I.kIn (ins_obj I eb) J (ap fo).up (try_eq I.kIn J hs hf (wpAny_mono (run_at F hb r2 rfl I rr h) (fun w s' hq => ?_) fun _ _ e => e))
    obtain ⟨z, H', I', rz, c, rfl, q⟩ := hq
    cases rz
    exact ⟨.bl c, H', I', rfl, q⟩
theorem cmpNe (S : SpM X C "__eq__" k sp) (ap : ∀ {H : Hp} {v : V} {T : String}, Fo H v T → Apart X.K C T) (hne : findIn X.K (.ref C) "__ne__" = some (some (.builtin "object.__ne__"))) (hm : mroIn X.K C (.type "object") = some true) (hr : Room j X.A) (hk : k + 1 ≤ j) :
    OpR X (compareOp .NotEq) (rCmp C sp Bool.not) := by
  intro pins s σ H x y v u Q I rx ry h
  obtain ⟨f, fd, ps, F, hs, hf, hb⟩ := S.ex
  have r2 : Room k X.A.in1 := (hr.mono hk).in1
  show wpAny (model X.prog X.w) X.A (richCompare .NotEq v u) (EP X pins σ Q) X.xe s
  rcases h with ⟨a, dx, fs, rfl, ea, hy, h⟩ | ⟨b, dy, gs, T, rfl, eb, fo, h⟩
  · cases rx
    obtain ⟨od, J⟩ := inst_of I ea
    have rr : Vals [V.ref a, y] [Value.ref a, u] := .cons (show RelV (V.ref a) (Value.ref a) from rfl) (.cons ry .nil)
    have call : wpAny (model X.prog X.w) X.A.in1 (call (.ref f) [.ref a, u]) (fun v s' => ∃ c : Bool, v = .bool c ∧ EP X pins σ Q (.bool (!c)) s') X.xe s := wpAny_mono (run_at F hb r2 rfl I rr h) (fun w s' hq => by
      obtain ⟨z, H', I', rz, c, rfl, q⟩ := hq
      cases rz
      exact ⟨c, rfl, .bl (!c), H', I', rfl, q⟩) fun _ _ e => e
    rcases hy with ⟨b, dy, gs, rfl, eb⟩ | ⟨T, fo⟩
    · cases ry
      obtain ⟨od', J'⟩ := inst_of I eb
      exact neK (tb := .ref C) r2.units0 I.kIn J J'.type (by simp [notFirst]) hne hm hs hf call
    · exact neK (tb := .type T) r2.units0 I.kIn J (fo.fv I ry).looks (by unfold notFirst; rw [(ap fo).dn]; simp) hne hm hs hf call
  · cases ry
    obtain ⟨od, J⟩ := inst_of I eb
    have rr : Vals [V.ref b, x] [Value.ref b, v] := .cons (show RelV (V.ref b) (Value.ref b) from rfl) (.cons rx .nil)
    refine rev_cmp (.inr rfl) (Nat.lt_of_succ_lt r2.units0) (fo.fv I rx) I.kIn (ins_obj I eb) J (ap fo).up (try_ne r2.units0 I.kIn J hne hm hs hf (wpAny_mono (run_at F hb r2 rfl I rr h) (fun w s' hq => ?_) fun _ _ e => e))
    obtain ⟨z, H', I', rz, c, rfl, q⟩ := hq
    cases rz
    exact ⟨c, rfl, .bl (!c), H', I', rfl, q⟩
end
end U

namespace U
open PySem L2 PySem.Spec PyProof.Rows
/-! ### except (A, B, C) as n: the exception is one of the three -/
def wAs3 (K : PySem.W.Frag) (c1 c2 c3 : Value) (i : Nat) (ts : Addr → Value → Option Addr → TS) (D : Ends) : WX := fun cls d σ H => PySem.W.exmAny K cls [c1, c2, c3] = some true ∧ ∀ a, H a = none →
  ts a cls d { nx := fun τ G => D.nx (τ.set i none) G, rt := D.rt, bk := fun τ G => D.bk (τ.set i none) G, ct := fun τ G => D.ct (τ.set i none) G } (σ.set i (some (.ref a))) H
theorem flying_on {B : Heap} {l : List Env} {a : Addr} {Z : Obj → Prop} {h h' : Heap} (k : ∀ b o, h.get? b = some o → h'.get? b = some o) (f : HandSPX.FlyingZ B l a Z h) : HandSPX.FlyingZ B l a Z h' := by
  obtain ⟨g1, g2, g3, oe, vs, T, oT, ts, e1, z, d, v1, bT, nT, eT, dT, v3⟩ := f
  exact ⟨fun b o e => k b o (g1 b o e), g2, g3.of_keeps fun b o e _ => ⟨o, k b o e, rfl⟩, oe, vs, T, oT, ts, k _ _ e1, z, d, v1, bT, nT, k _ _ eT, dT, v3⟩
section
variable {X : Cx} {x1 x2 x3 n : Str} {c1 c2 c3 : Value} {i kk : Nat} {body suite : List Stmt} {b₀ : Stmt} {p1 p2 p3 pt pos pos' : Pos} {tb : WX → TS} {ts : Addr → Value → Option Addr → TS}
theorem ps_try_as3 (hs : X.stack = X.env :: X.outer) (hf : X.env.frame = some X.env.locals) (hN : X.N.Nodup) (hi : X.N[i]? = some n) (hln : X.env.kindOf n = some .local) (q1 : Names X x1 c1) (q2 : Names X x2 c2) (q3 : Names X x3 c3)
    (hb : ∀ (W : WX) (pn : List (Addr × Obj)) (xe : Value → Shared → Prop), Takes (X.tr pn xe) W → PassesOwn (model X.prog X.w) X.A X.env xe → PSs (X.tr pn xe) body (tb W))
    (hsu : ∀ (a : Addr) (oe : Obj) (cls : Value) (d : Option Addr) (pn : List (Addr × Obj)), Zc cls d oe → (∃ vs, oe.data = .fields vs) → PSs (X.suite a ((a, oe) :: pn)) (b₀ :: suite) (ts a cls d)) :
    PS X (.Try body [.ExceptHandler (some (.Tuple [.Name x1 p1, .Name x2 p2, .Name x3 p3] kk pt)) (some n) (b₀ :: suite) pos'] [] [] pos) (fun D σ H => tb (wAs3 X.K c1 c2 c3 i ts D) D σ H) := by
  constructor
  intro pins s σ H D I h
  have ok := I.ok
  have frm : X.A.frames = some (X.env :: X.outer) := by rw [ok.frames, hs]
  refine wpAny_Try_except ?_
  refine wpAny_mono ((hb (wAs3 X.K c1 c2 c3 i ts D) (X.pn ++ pins) (fun e s₁ => wpAny (model X.prog X.w) X.A (noteFrame e X.env) (fun _ s₂ => wpAny (model X.prog X.w) X.A (setFlight e none) (fun _ s₃ =>
    wpAny (model X.prog X.w) X.A (handleBy e X.env [.ExceptHandler (some (.Tuple [.Name x1 p1, .Name x2 p2, .Name x3 p3] kk pt)) (some n) (b₀ :: suite) pos']) (SP X pins D) X.xe s₃) X.xe s₂) X.xe s₁) (fun u s' xx => ?_) PassesOwn.looking).run [] s σ H D (I.toTry _) h) (fun f s1 hsp => ?_) (fun e s1 he => he)
  · obtain ⟨a, B, sI, pins', τ, G, cls, d, rfl, J0, nb, up, sky, na, os, ag, any, suit⟩ := xx
    have J : Inv X pins τ G sI := J0.ofTry ok
    rw [show (X.tr (X.pn ++ pins) _).stack = X.env :: X.outer from hs] at sky
    show wpAny _ _ (noteFrame (.ref a) X.env) _ _ _
    refine Sky.land Zc.steady frm hf sky fun h3 fl3 up3 => ?_
    have J3 : Inv X pins τ G { s' with heap := h3 } := J.landed nb fl3.1 (up.trans up3) os ag
    obtain ⟨oe, vs, _, _, _, he, hz, hd, _⟩ := id fl3.2.2.2
    have apart : ∀ {g : Heap} {o : Obj} {ws : Array Value}, g.FunFrames B (X.env :: X.outer) → g.get? a = some o → o.data = .fields ws → a ∉ frs (X.env :: X.outer) := fun {g o ws} ff e dd m => by
      obtain ⟨_, o', e', no⟩ := ff.mem m
      rw [e] at e'
      cases e'
      exact no _ dd
    have out := apart fl3.2.2.1 he hd
    have nL : a ≠ X.env.locals := fun z => out (List.mem_filterMap.mpr ⟨X.env, List.mem_cons_self, by rw [hf, z]⟩)
    have nF : a ∉ X.fs := fun m => by
      obtain ⟨e, he', q⟩ := List.mem_filterMap.mp m
      exact out (List.mem_filterMap.mpr ⟨e, List.mem_cons_of_mem _ he', q⟩)
    have S3 := J3.suite he hd na nL nF
    have one : ∀ {x : Str} {c : Value} {p : Pos} {Q : Value → Shared → Prop} {E : Value → Shared → Prop}, Names X x c → Q c { s' with heap := h3 } → wpAny (model X.prog X.w) (X.A.mark (some (.ref a))) (eval (.Name x p) X.env) Q E { s' with heap := h3 } := fun {x c p Q E} nm q => by
      obtain ⟨hg, hdbg, hm | ⟨hm, hv, hnn⟩⟩ := nm
      · exact ld_glob (X := X.suite a ((a, oe) :: (X.pn ++ pins))) S3 hg hm q hdbg
      · exact ld_blt (X := X.suite a ((a, oe) :: (X.pn ++ pins))) S3 hg hm hv q hnn hdbg
    refine wpAny_handleBy_cons (codeAny_handlers_test ?_) (by intro q; cases q)
    refine wpAny_Tuple_spliced (args_cons (one q1 (args_cons (one q2 (args_cons (one q3 (args_nil ⟨by show 3 ≤ sizeLine; decide, ?_⟩)) (by rfl))) (by rfl))) (by rfl))
    have kp : ∀ b o, h3.get? b = some o → (h3.push { cls := .type "tuple", data := .seq [c1, c2, c3].toArray }).get? b = some o := fun b o e => Heap.get?_push_of_some _ e
    have LT : PySem.W.Looks (model X.prog X.w) (h3.push { cls := .type "tuple", data := .seq [c1, c2, c3].toArray }) (typeOf (.ref a)) cls := fun A Q E s k q => wpAny_typeOf_ref (k _ _ (kp _ _ he)) (by rw [hz.1]; exact q)
    have KI : X.K.In (h3.push { cls := .type "tuple", data := .seq [c1, c2, c3].toArray }) := J3.kIn.keeps kp
    refine (PySem.W.exm_tup3 KI LT (Heap.get?_push_size h3 rfl) any).here ?_
    have fl5 := flying_on kp fl3
    refine codeAny_handlers_suite_as ?_
    refine HandSPX.lands_againZ fl5 fun h4 fl4 up4 => ?_
    have J4 : Inv X pins τ G { s' with heap := h4 } := J.landed nb fl4.1 (((up.trans up3).trans (.of_keeps kp)).trans up4) os ag
    obtain ⟨oe4, vs4, _, _, _, he4, hz4, hd4, _⟩ := id fl4.2.2.2
    have S4 := J4.suite he4 hd4 na nL nF
    refine store_ok (X := X.suite a ((a, oe4) :: (X.pn ++ pins))) (v := .ref a) S4 hN hi (.inl hln) rfl (fun s5 S5 => ?_) (.inr hln)
    refine wpAny_mono ((hsu a oe4 cls d (X.pn ++ pins) hz4 ⟨_, hd4⟩).run [] s5 _ G _ S5 (suit a na)) (fun f s6 hsp => ?_) (fun _ _ z => False.elim z)
    have done : ∀ {τ6 : L2.St} {G6 : Hp} {Q : Shared → Prop}, Inv (X.suite a ((a, oe4) :: (X.pn ++ pins))) [] τ6 G6 s6 → (∀ s7, Inv X pins (τ6.set i none) G6 s7 → Q s7) →
        wpAny (model X.prog X.w) X.A (do bindName X.env n .none; unbindBehindTheSuite X.env n pos') (fun _ s7 => Q s7) X.xe s6 := fun {τ6 G6 Q} S6 hq => gone_ok (S6.unsuite ok) hN hi hln hq
    cases f with
    | next => obtain ⟨τ6, G6, S6, q6⟩ := hsp; exact done S6 fun s7 J7 => ⟨_, _, J7, q6⟩
    | brk => obtain ⟨τ6, G6, S6, q6⟩ := hsp; exact done S6 fun s7 J7 => ⟨_, _, J7, q6⟩
    | cont => obtain ⟨τ6, G6, S6, q6⟩ := hsp; exact done S6 fun s7 J7 => ⟨_, _, J7, q6⟩
    | ret u => obtain ⟨v6, τ6, G6, S6, r6, q6⟩ := hsp; exact done S6 fun s7 J7 => ⟨_, _, _, J7, r6, q6⟩
  · cases f with
    | next => obtain ⟨τ, G, J, q⟩ := hsp; exact wpAny_execs_nil ⟨τ, G, J.ofTry ok, q⟩
    | brk => obtain ⟨τ, G, J, q⟩ := hsp; exact ⟨τ, G, J.ofTry ok, q⟩
    | cont => obtain ⟨τ, G, J, q⟩ := hsp; exact ⟨τ, G, J.ofTry ok, q⟩
    | ret u => obtain ⟨v, τ, G, J, r, q⟩ := hsp; exact ⟨v, τ, G, J.ofTry ok, r, q⟩
end
end U

namespace U
open PySem L2 PySem.Spec PyProof.Rows PySem.W PySem.HandSPX PySem.Calls
/-! ### an own exception made, by position or by keyword: any base -/
section
variable {prog : Program} {w : World} {A : Around} {E : Value → Shared → Prop} {R : Result → Shared → Prop} {h : Heap} {g : Array GenState} {d : PySem.Drawn} {t : Nat} {os : OsState}
variable {nm q : Str} {C N : Addr} {bs bm bmB : List Value} {hdct : Bool} {sn : List Str} {sub : List Value} {ab : Bool} {col : Option Bool} {dd : Option Addr} {k0 k1 k2 k3 k5 : Option Value} {B newId initId : String}
theorem checkNewK (F : ExcBaseFacts B newId initId bmB) (hT : ∀ X : String, bm.contains (.type X) = bmB.contains (.type X)) {us : List Value} {kw : List (Str × Value)} {Q : Unit → Shared → Prop}
    (hC : h.get? C = some (excClassObj nm q C N bs bm hdct sn sub ab col dd k0 k1 k2 k3 k5 newId)) (hq : Q () ⟨h, g, d, t, os⟩) : wpAny (model prog w) A (checkBuiltinCall newId ⟨.ref C :: us, kw⟩) Q E ⟨h, g, d, t, os⟩ := by
  have c1 : (Value.ref C :: bm).contains (.type B) = true := by rw [List.contains_cons, hT, F.hasB, Bool.or_true]
  have c2 := F.noStar
  simp only [checkBuiltinCall, F.newKind, F.newSplit, F.newRow]
  repeat (first | with_reducible refine wpAny_loadPart_at hC ?_ | (with_reducible refine wpAny_isSubtype_exc hC ?_; rw [c1]) | with_reducible refine wpAny_staticBase_exc hC ?_ | with_reducible refine wpAny_madeBy_exc hC ?_ | simp only [bne_self_eq_false, Bool.false_eq_true, if_false] | wp_step)
  exact hq
theorem newK (F : ExcBaseFacts B newId initId bmB) (hT : ∀ X : String, bm.contains (.type X) = bmB.contains (.type X)) {us : List Value} {kw : List (Str × Value)}
    (hC : h.get? C = some (excClassObj nm q C N bs bm hdct sn sub ab col dd k0 k1 k2 k3 k5 newId))
    (hq : R (.ok (.ret (.ref (h.objs.size + 1)))) ⟨(h.push (kdv_tup us)).push (excO C h.objs.size), g, d, t, os⟩) (hz : us.length ≤ sizeLine) :
    codeAny (model prog w) A (.builtin newId ⟨.ref C :: us, kw⟩) R ⟨h, g, d, t, os⟩ := by
  have e0 := F.ends
  have c1 : (Value.ref C :: bm).contains (.type B) = true := by rw [List.contains_cons, hT, F.hasB, Bool.or_true]
  have c2 : (Value.ref C :: bm).contains (.type "AttributeError") = false := by rw [List.contains_cons, hT, F.noAttr]; rfl
  have c3 : (Value.ref C :: bm).contains (.type "NameError") = false := by rw [List.contains_cons, hT, F.noName]; rfl
  refine codeAny_builtinAt F.entry ?_
  unfold Builtin.«BaseException.__new__»
  refine PySem.wpAt_bind ?_
  show PySem.wpAt _ _ _ (stack >>= _) _ _ _
  refine PySem.wpAt_bind (PySem.wpAt_stack fun p below => PySem.wpAt_of_wpAny ?_)
  wp_walk
  refine PySem.wpAt_of_wpAny ?_
  rw [F.owner]
  repeat (first | with_reducible refine wpAny_madeHere_exc F.canon hC ?_ | with_reducible refine wpAny_loadPart_at hC ?_ | (with_reducible refine wpAny_isSubtype_exc hC ?_; first | rw [c1] | rw [c2] | rw [c3]) | wp_step)
  show R _ _
  rw [Heap.size_push]
  exact hq
theorem tcallK (F : ExcBaseFacts B newId initId bmB) (hT : ∀ X : String, bm.contains (.type X) = bmB.contains (.type X)) {us : List Value} {kw : List (Str × Value)} {fI : Addr} {Q : Fin → Shared → Prop}
    (hC : h.get? C = some (excClassObj nm q C N bs bm hdct sn sub ab col dd k0 k1 k2 k3 k5 newId))
    (hi : Looks (model prog w) h (typeLookup (.ref C) "__init__") (some (.ref fI))) (hb : ∀ self, Looks (model prog w) h (bindSpecial (.ref fI) self) (.ref fI, [self])) (hz : us.length ≤ sizeLine)
    (hq : codeAny (model prog w) A (.call (.ref fI) ⟨.ref (h.objs.size + 1) :: us, kw⟩)
      (fun r s' => match r with | .ok (.ret v) => v = .none ∧ Q (.done (.ret (.ref (h.objs.size + 1)))) s' | .ok _ => False | .error e => E e s')
      ⟨(h.push (kdv_tup us)).push (excO C h.objs.size), g, d, t, os⟩) :
    wpAny (model prog w) A (Builtin.«type.__call__» ⟨.ref C :: us, kw⟩) Q E ⟨h, g, d, t, os⟩ := by
  repeat (first | with_reducible refine wpAny_loadPart_at hC ?_ | with_reducible refine wpAny_madeBy_exc hC ?_ | wp_step)
  refine codeAny_call_builtin_code (Code.quiet_builtin _ F.quiet) (checkNewK F hT hC ?_)
  refine newK F hT hC ?_ hz
  show wpAny _ _ _ _ _ _
  have kp : ∀ b o, h.get? b = some o → ((h.push (kdv_tup us)).push (excO C h.objs.size)).get? b = some o := fun b o e => Heap.get?_push_of_some _ (Heap.get?_push_of_some _ e)
  have at1 := kp _ _ hC
  have at2 : ((h.push (kdv_tup us)).push (excO C h.objs.size)).get? (h.objs.size + 1) = some (excO C h.objs.size) := by heap_get
  have own : (Value.ref C :: bm).contains (.ref C) = true := by simp
  have i1 := hi.keeps kp
  have b1 := (hb (.ref (h.objs.size + 1))).keeps kp
  unfold isInstance
  repeat (first | with_reducible refine wpAny_loadPart_at at2 ?_ | (with_reducible refine wpAny_isSubtype_exc at1 ?_; rw [own]) | wp_step)
  show wpAny _ _ (typeLookup (.ref C) _) _ _ _
  refine i1.at ?_
  refine wpAny_holding (wpAny_bind (b1.at ?_))
  refine wpAny_bind (wpAny_call (codeAny_mono hq fun r s' z => ?_))
  rcases r with e | (v | _ | _ | _) <;> first | exact z | exact z.elim | skip
  obtain ⟨rfl, z⟩ := z
  first
    | exact wpAny_pure (wpAny_pure z)
    | (wp_walk; exact z)
theorem checkTcK {us : List Value} {kw : List (Str × Value)} {Q : Unit → Shared → Prop} (hC : h.get? C = some (excClassObj nm q C N bs bm hdct sn sub ab col dd k0 k1 k2 k3 k5 newId)) (hq : Q () ⟨h, g, d, t, os⟩) :
    wpAny (model prog w) A (checkBuiltinCall "type.__call__" ⟨.ref C :: us, kw⟩) Q E ⟨h, g, d, t, os⟩ := by
  have f3 := tc_sub
  have ty : (⟨h, g, d, t, os⟩ : Shared).TypeIs (.ref C) "type" := ⟨_, hC, rfl⟩
  simp only [checkBuiltinCall, tc_kind, tc_split]
  repeat (any_goals (first | assumption | with_reducible refine wpAny_loadPart_at hC ?_ | with_reducible refine wpAny_onRaise ?_ | with_reducible refine wpAny_map ?_ | wp_step))
theorem callOwnK (F : ExcBaseFacts B newId initId bmB) (hT : ∀ X : String, bm.contains (.type X) = bmB.contains (.type X)) {us : List Value} {kw : List (Str × Value)} {fI : Addr}
    (hC : h.get? C = some (excClassObj nm q C N bs bm hdct sn sub ab col dd k0 k1 k2 k3 k5 newId))
    (hi : Looks (model prog w) h (typeLookup (.ref C) "__init__") (some (.ref fI))) (hb : ∀ self, Looks (model prog w) h (bindSpecial (.ref fI) self) (.ref fI, [self])) (hz : us.length ≤ sizeLine)
    (hq : codeAny (model prog w) (A.under (.builtin "type.__call__" ⟨.ref C :: us, kw⟩)) (.call (.ref fI) ⟨.ref (h.objs.size + 1) :: us, kw⟩) (InitBack (h.objs.size + 1) R)
      ⟨(h.push (kdv_tup us)).push (excO C h.objs.size), g, d, t, os⟩) :
    codeAny (model prog w) A (.call (.ref C) ⟨us, kw⟩) R ⟨h, g, d, t, os⟩ := by
  have f1 := tc_lookup
  have f2 := tc_bind (.ref C)
  have ty : (⟨h, g, d, t, os⟩ : Shared).TypeIs (.ref C) "type" := ⟨_, hC, rfl⟩
  refine codeAny_of_tree ?_
  show wpAny _ _ (callAny (.ref C) _) _ _ _
  repeat (any_goals (first | assumption | with_reducible refine wpAny_loadPart_at hC ?_ | wp_step))
  refine ⟨rfl, ?_⟩
  refine codeAny_call_builtin_at (Code.quiet_builtin _ (by decide +kernel)) entry_typeCall ?_
  refine checkTcK hC ?_
  refine tcallK F hT hC hi hb hz ?_
  refine codeAny_mono hq fun r s' z => ?_
  rcases r with e | (v | _ | _ | _) <;> exact z
end
end U

namespace U
open PySem L2 PySem.Spec PyProof.Rows
/-! ### own exceptions kept as values: what the written part says of the class -/
/-- the class at C over some built-in base, its exceptions with a dict; f is no attribute of the class -/
structure XB (K : PySem.W.Frag) (C : Addr) : Prop where
  ex : ∃ (B newId initId : String) (bmB : List Value) (nm q : Str) (N : Addr) (bs bm : List Value) (sn : List Str) (sub : List Value) (ab : Bool) (col : Option Bool) (dd : Option Addr) (k0 k1 k2 k3 k5 : Option Value),
    ExcBaseFacts B newId initId bmB ∧ StoreFacts B bmB "object.__setattr__" "object" ∧ K.lookup C = some (excClassObj nm q C N bs bm true sn sub ab col dd k0 k1 k2 k3 k5 newId) ∧ PySem.W.excTail bmB bm = true
  sa : PySem.W.findIn K (.ref C) "__setattr__" = some (some (.builtin "object.__setattr__"))
  ga : PySem.W.findIn K (.ref C) "__getattribute__" = some (some (.builtin "BaseException.__getattribute__"))
  gg : PySem.W.findIn K (.ref C) "__getattr__" = some none
  ca : PySem.W.findIn K (.ref C) "__class__" = some (some (.builtin "object.__class__"))
  kC : PySem.W.keepIn K (.ref C) = true
section
variable {K : PySem.W.Frag} {C : Addr}
theorem XB.cls (T : XB K C) : ∃ (bm bmB : List Value) (cd : ClassData), PySem.W.clsIn K C = some cd ∧ cd.hasDict = true ∧ cd.mro = .ref C :: bm ∧ PySem.W.excTail bmB bm = true ∧ bmB.contains (.type "BaseException") = true ∧ bmB.contains (.type "object") = true := by
  obtain ⟨B, newId, initId, bmB, nm, q, N, bs, bm, sn, sub, ab, col, dd, k0, k1, k2, k3, k5, F, S, lk, tl⟩ := T.ex
  refine ⟨bm, bmB, { name := nm, bases := bs, mro := .ref C :: bm, ns := N, qualname := q, hasDict := true, slotNames := sn, subclasses := sub, abstract := ab, collection := col, hasDel := false }, ?_, rfl, rfl, tl, F.hasBase, S.hasOwner⟩
  unfold PySem.W.clsIn
  rw [lk] <;> rfl
theorem XB.over (T : XB K C) {bmB : List Value} {nm q : Str} {N : Addr} {bs bm : List Value} {sn : List Str} {sub : List Value} {ab : Bool} {col : Option Bool} {dd : Option Addr} {k0 k1 k2 k3 k5 : Option Value} {newId : String}
    (lk : K.lookup C = some (excClassObj nm q C N bs bm true sn sub ab col dd k0 k1 k2 k3 k5 newId)) (tl : PySem.W.excTail bmB bm = true) : PySem.W.excOver K C bmB = true := by
  unfold PySem.W.excOver PySem.W.clsIn
  rw [lk]
  show (C == C && PySem.W.excTail bmB bm) = true
  rw [tl, Bool.and_true]
  exact beq_self_eq_true C
theorem XB.mro (T : XB K C) {b : Value} : PySem.W.mroIn K C b = some true ∨ PySem.W.mroIn K C b = some false := by
  obtain ⟨bm, bmB, cd, h1, h2, h3, _⟩ := T.cls
  unfold PySem.W.mroIn
  rw [h1, Option.bind_some, if_neg (by rw [h3]; simp)]
  cases cd.mro.contains b
  · exact .inr rfl
  · exact .inl rfl
theorem XB.isBase (T : XB K C) : PySem.W.subIn K (.ref C) (.type "BaseException") = some true := by
  obtain ⟨bm, bmB, cd, h1, h2, h3, h4, h5, h6⟩ := T.cls
  show PySem.W.mroIn K C (.type "BaseException") = some true
  unfold PySem.W.mroIn
  rw [h1, Option.bind_some, if_neg (by rw [h3]; simp), h3, List.contains_cons, PySem.W.excTail_contains "BaseException" _ h4, h5, Bool.or_true]
theorem XB.isObj (T : XB K C) : PySem.W.mroIn K C (.type "object") = some true := by
  obtain ⟨bm, bmB, cd, h1, h2, h3, h4, h5, h6⟩ := T.cls
  unfold PySem.W.mroIn
  rw [h1, Option.bind_some, if_neg (by rw [h3]; simp), h3, List.contains_cons, PySem.W.excTail_contains "object" _ h4, h6, Bool.or_true]
theorem XB.hasD (T : XB K C) : PySem.W.hasDictIn K C = true := by
  obtain ⟨bm, bmB, cd, h1, h2, h3, _⟩ := T.cls
  unfold PySem.W.hasDictIn
  rw [h1]
  exact h2
theorem XB.ty (T : XB K C) : PySem.W.typeIn K (.ref C) = some (.type "type") := by
  obtain ⟨B, newId, initId, bmB, nm, q, N, bs, bm, sn, sub, ab, col, dd, k0, k1, k2, k3, k5, F, S, lk, tl⟩ := T.ex
  show (K.lookup C).map (·.cls) = _
  rw [lk]
  rfl
end
/-! ### the first attribute of a new exception -/
section
open PySem.W PySem.HandSPX PySem.Calls Builtin Builtin.ObjectAttr
variable {prog : Program} {w : World} {A : Around} {R : Result → Shared → Prop} {hp : Heap} {g : Array GenState} {d : PySem.Drawn} {t : Nat} {os : OsState} {K : Frag} {x C : Addr} {B : String} {bmB : List Value} {name : Str} {tk : Tok} {v : Value} {fv : Array Value}
theorem osaNew {cd : ClassData} (SF : StoreFacts B bmB "object.__setattr__" "object") (X : K.In hp) (hx : hp.get? x = some { cls := .ref C, data := .fields fv }) (over : excOver K C bmB = true) (no : findIn K (.ref C) name = some none) (hc : clsIn K C = some cd) (hd : cd.hasDict = true)
    (hq : ∀ h' tk' dx, (∀ b o, b ≠ x → hp.get? b = some o → h'.get? b = some o) → hp.objs.size ≤ dx → dx ≠ x → h'.get? x = some { cls := .ref C, dict := some dx, data := .fields fv } → h'.Ns1 dx (fun y => if y = name then some v else none) → R (.ok (.ret .none)) ⟨h', g, d, tk', os⟩) :
    codeAny (model prog w) A (.call (.builtin "object.__setattr__") ⟨[.ref x, .str name tk, v], []⟩) R ⟨hp, g, d, t, os⟩ := by
  have J : InstAt hp x { cls := .ref C, data := .fields fv } C none := ⟨hx, rfl, rfl, trivial⟩
  have tkr : takerIn K C name = some none := by
    unfold takerIn
    rw [no]
    rfl
  have apart : x ≠ hp.objs.size := Nat.ne_of_lt (Heap.lt_size hx)
  have look : Looks (model prog w) hp (classData C) cd := looks_clsIn X hc
  refine osa_openX (s := ⟨hp, g, d, t, os⟩) SF X J over tkr fun b => ?_
  show wpAny _ _ (storeInOwnDict (.ref x) (.ref C) (.str name tk) name v b) _ _ _
  obtain ⟨nm, bs, mro, ns, qn, hd', sn, sb, ab, col, del⟩ := cd
  dsimp only at hd
  subst hd
  unfold storeInOwnDict ownDictForStores
  cases b
  all_goals
    repeat (first | with_reducible refine store_in_new ?_ ?_ | with_reducible refine wpAny_loadPart_at hx ?_ | with_reducible refine look.at ?_ | wp_step)
    · exact ⟨_, #[], _, (Heap.get?_update_ne _ _ _ _ apart.symm).trans (Heap.get?_push_at rfl rfl), rfl, fun e he => absurd he (by simp), fun _ => rfl⟩
    · intro h' tk' hn' hs
      have keep : (hp.push { cls := .type "dict", data := .dict #[] }).get? x = some { cls := .ref C, data := .fields fv } := Heap.get?_push_of_some _ hx
      refine hq h' tk' hp.objs.size (fun b o hb ho => ?_) (Nat.le_refl _) apart.symm ?_ hn'
      · exact (hs.2 b (Nat.ne_of_lt (Heap.lt_size ho))).trans ((Heap.get?_update_ne _ _ _ _ hb).trans (Heap.get?_push_of_some _ ho))
      · exact (hs.2 x apart).trans (Heap.get?_update_self _ keep rfl)
end
section
variable {X : Cx} {pins : List (Addr × Obj)} {σ : L2.St} {H : Hp} {s : Shared} {a C : Addr} {f : Str} {y : V} {u : Value} {Q : Unit → Shared → Prop} {E : Value → Shared → Prop} {A : Around}
theorem storeNew (T : XB X.K C) (no : PySem.W.findIn X.K (.ref C) f = some none) (I : Inv X pins σ H s) (e : H a = some (exo a C none)) (ry : RelV y u)
    (h : ∀ dx s', H dx = none → dx ≠ a → Inv X pins σ (upd (upd H dx (exd dx [(f, y)])) a (exo a C (some dx))) s' → Q () s') : wpAny (model X.prog X.w) A (setAttr (.ref a) f u) Q E s := by
  obtain ⟨B, newId, initId, bmB, nm, q, N, bs, bm, sn, sub, ab, col, dd, k0, k1, k2, k3, k5, F, SF, lk, tl⟩ := T.ex
  have hc : PySem.W.clsIn X.K C = some { name := nm, bases := bs, mro := .ref C :: bm, ns := N, qualname := q, hasDict := true, slotNames := sn, subclasses := sub, abstract := ab, collection := col, hasDel := false } := by unfold PySem.W.clsIn; rw [lk] <;> rfl
  obtain ⟨t1, ho⟩ := exo_at I.hok e
  obtain ⟨hp, g, d, t, os⟩ := s
  refine PySem.W.set_plain I.kIn (ox := { cls := .ref C, dict := none, data := .fields #[.ref t1, .none, .none, .none, .bool false, .none] }) (od := none) ⟨ho, rfl, rfl, trivial⟩ T.sa ?_
  refine osaNew SF I.kIn ho (T.over lk tl) no hc rfl (fun h' tk' dx k dn dne hx hn => ?_)
  have nx : H dx = none := I.hok.fresh dn
  have low : ∀ {b : Addr} {o : Obj}, hp.get? b = some o → b ≠ dx := fun {b o} z => Nat.ne_of_lt (Nat.lt_of_lt_of_le (Heap.lt_size z) dn)
  have off : ∀ {b : Addr}, H b = none → b ≠ a := fun {b} n z => by
    rw [z, e] at n
    cases n
  have un : Un X.fs [] H (upd (upd H dx (exd dx [(f, y)])) a (exo a C (some dx))) hp h' :=
    { keep := fun b o z n _ _ => k b o (off n) z, slot := fun b o z n _ _ => ⟨o.slots, k b o (off n) z⟩
      free := fun b o z n _ => (upd_ne (off n)).trans ((upd_ne (low z)).trans n)
      there := fun b o z _ => by
        by_cases hb : b = a
        · exact ⟨_, by rw [hb]; exact hx⟩
        · exact ⟨o, k b o hb z⟩
      tups := fun b xs z => (upd_ne (at_ne e z exo_tup)).trans ((upd_ne (ne_of_none z nx)).trans z)
      frzs := fun b o v z => (upd_ne (at_ne e z exo_frz)).trans ((upd_ne (ne_of_none z nx)).trans z)
      tbls := fun b ps z => ⟨#[], by rw [upd_ne (at_ne e z exo_tbl), upd_ne (ne_of_none z nx), z]; simp⟩ }
  refine h dx _ nx dne (I.un (t' := tk') un fun b o z => ?_)
  by_cases hb : b = a
  · subst hb
    rw [upd_same] at z
    cases z
    exact exo_ok hx
  · rw [upd_ne hb] at z
    by_cases hd : b = dx
    · subst hd
      rw [upd_same] at z
      cases z
      exact exd_ok hn (relO_put (fs := []) ry fun g => True.intro)
    · rw [upd_ne hd] at z
      refine (I.hok b o z).stay (fun c v hc' z' => k c v ?_ z') (fun c hc' => (upd_ne (at_ne e hc' exo_own)).trans ((upd_ne (ne_of_none hc' nx)).trans hc')) fun c xs hc' => (upd_ne (at_ne e hc' exo_tup)).trans ((upd_ne (ne_of_none hc' nx)).trans hc')
      rcases hc' with q1 | q1
      · rw [q1]; exact hb
      · exact at_ne e q1 exo_own
end
/-- self.f = e, in an __init__ -/
def tStN (K : PySem.W.Frag) (f : Str) (to te : TE) : TS := fun D σ H => te σ H fun y H1 => to σ H1 fun x H2 => ∃ a C : Addr, x = .ref a ∧ XB K C ∧ PySem.W.findIn K (.ref C) f = some none ∧ H2 a = some (exo a C none) ∧
  ∀ dx, H2 dx = none → dx ≠ a → D.nx σ (upd (upd H2 dx (exd dx [(f, y)])) a (exo a C (some dx)))
theorem ps_stN {X : Cx} {o e : Expr} {to te : TE} {f : Str} {p' pos : Pos} (K : PySem.W.Frag) (ho : PE X o to) (he : PE X e te) (h : X.K = K := by rfl) (hs : swapsWith e (some (.Attribute o f p')) pos.line X.env = pure false := by rfl) : PS X (.Assign [.Attribute o f p'] e pos) (tStN K f to te) := by
  subst h
  constructor
  intro pins s σ H D I h
  refine plainObj_wpAny_Assign_Attribute (thn (he.run pins s σ H _ I h) fun v s1 hh => ?_) hs
  obtain ⟨y, H1, I1, r1, q1⟩ := hh
  refine thn (ho.run pins s1 σ H1 _ I1 q1) fun u s2 hh2 => ?_
  obtain ⟨x, H2, I2, r2, a, C, ex, T, no, ea, q⟩ := hh2
  subst ex
  cases r2
  exact storeNew T no I2 ea r1 fun dx s' n ne J => ⟨σ, _, J, q dx n ne⟩
/-- what such an __init__ promises -/
def spXI (K : PySem.W.Frag) (f : Str) : Sp := fun vs H Q _ => ∃ (a C : Addr) (y : V), vs = [.ref a, y] ∧ XB K C ∧ PySem.W.findIn K (.ref C) f = some none ∧ H a = some (exo a C none) ∧
  ∀ dx, H dx = none → dx ≠ a → Q .non (upd (upd H dx (exd dx [(f, y)])) a (exo a C (some dx)))
end U

namespace U
open PySem L2 PySem.Spec PyProof.Rows
/-! ### C(e), C(f=e) as a value -/
/-- the class at C, under the name x, with an own __init__ of one parameter f that it keeps -/
structure XN (P : Program) (w : World) (K : PySem.W.Frag) (mg : Str → Option Value) (base : Heap) (x : Str) (C : Addr) (f : Str) : Prop where
  b : XB K C
  no : PySem.W.findIn K (.ref C) f = some none
  g : mg x = some (.ref C)
  ex : ∃ (fI : Addr) (fd : FuncData), PySem.W.findIn K (.ref C) "__init__" = some (some (.ref fI)) ∧ PySem.W.typeIn K (.ref fI) = some (.type "function") ∧ FnOk P w K mg base CX0 1 fI fd ["self", f] (spXI K f) ∧ Binds K fd ["self", f] [] ∧
    ∀ (s : Shared) (u v : Value), K.In s.heap → BindsTo s fd ⟨[u], [(f, v)]⟩ [("self", u), (f, v)]
/-- a new exception of the class at C whose f is y -/
def NewX (C : Addr) (f : Str) (y : V) (H : Hp) (Q : VK) : Prop := ∀ a d, H a = none → H d = none → d ≠ a → Q (.ref a) (upd (upd H d (exd d [(f, y)])) a (exo a C (some d)))
section
variable {X : Cx} {pins : List (Addr × Obj)} {σ : L2.St} {H : Hp} {s : Shared} {C : Addr} {f x : Str} {y : V} {u : Value} {Q : VK} {k : Nat}
theorem run_new (T : XN X.prog X.w X.K X.mg X.base x C f) (hr : Room 2 X.A) (I : Inv X pins σ H s) (ry : RelV y u) (kw : Bool) (h : NewX C f y H Q) :
    wpAny (model X.prog X.w) X.A (call (.ref C) (if kw then [] else [u]) (if kw then [(f, u)] else [])) (EP X pins σ Q) X.xe s := by
  obtain ⟨fI, fd, hi, ht, F1, hb, hkb⟩ := T.ex
  obtain ⟨B, newId, initId, bmB, nm, q, N, bs, bm, sn, sub, ab, col, dd, k0, k1, k2, k3, k5, F, SF, lk, tl⟩ := T.b.ex
  obtain ⟨hp, g, dr, tk, os⟩ := s
  generalize hus : (if kw then [] else [u]) = us
  generalize hkw : (if kw then [(f, u)] else []) = kws
  have lus : us.length ≤ sizeLine := by
    subst hus
    cases kw
    · show 1 ≤ sizeLine
      decide
    · show 0 ≤ sizeLine
      decide
  have grow : ∀ b o, hp.get? b = some o → ((hp.push (PySem.W.kdv_tup us)).push (PySem.HandSPX.excO C hp.objs.size)).get? b = some o := fun b o e => Heap.get?_push_of_some _ (Heap.get?_push_of_some _ e)
  have new : ((hp.push (PySem.W.kdv_tup us)).push (PySem.HandSPX.excO C hp.objs.size)).get? (hp.objs.size + 1) = some (PySem.HandSPX.excO C hp.objs.size) := by heap_get
  have fr : H (hp.objs.size + 1) = none := I.hok.fresh (Nat.le_succ _)
  have I2 : Inv X pins σ (upd H (hp.objs.size + 1) (exo (hp.objs.size + 1) C none)) ⟨(hp.push (PySem.W.kdv_tup us)).push (PySem.HandSPX.excO C hp.objs.size), g, dr, tk, os⟩ :=
    I.laid (t' := tk) (a := hp.objs.size + 1) (o := exo (hp.objs.size + 1) C none) (h' := (hp.push (PySem.W.kdv_tup us)).push (PySem.HandSPX.excO C hp.objs.size)) grow (Nat.le_succ _) (exo_ok new)
  have prom : spXI X.K f [.ref (hp.objs.size + 1), y] (upd H (hp.objs.size + 1) (exo (hp.objs.size + 1) C none)) (fun v H2 => v = .non ∧ Q (.ref (hp.objs.size + 1)) H2) E0 := by
    refine ⟨_, C, y, rfl, T.b, T.no, upd_same, fun dx n ne => ⟨rfl, ?_⟩⟩
    have nd : H dx = none := by
      rw [upd_ne ne] at n
      exact n
    have q := h (hp.objs.size + 1) dx fr nd ne
    have e : upd (upd (upd H (hp.objs.size + 1) (exo (hp.objs.size + 1) C none)) dx (exd dx [(f, y)])) (hp.objs.size + 1) (exo (hp.objs.size + 1) C (some dx)) = upd (upd H dx (exd dx [(f, y)])) (hp.objs.size + 1) (exo (hp.objs.size + 1) C (some dx)) := by
      funext b
      by_cases hb : b = hp.objs.size + 1
      · subst hb
        rw [upd_same, upd_same]
      · rw [upd_ne hb, upd_ne hb]
        by_cases hd : b = dx
        · subst hd
          rw [upd_same, upd_same]
        · rw [upd_ne hd, upd_ne hd, upd_ne hb]
    rw [e]
    exact q
  have r2 : Vals [V.ref (hp.objs.size + 1), y] [Value.ref (hp.objs.size + 1), u] := .cons (show RelV (V.ref _) (Value.ref _) from rfl) (.cons ry .nil)
  have bd : BindsTo ⟨(hp.push (PySem.W.kdv_tup us)).push (PySem.HandSPX.excO C hp.objs.size), g, dr, tk, os⟩ fd ⟨.ref (hp.objs.size + 1) :: us, kws⟩ ((["self", f] : List Str).zip [Value.ref (hp.objs.size + 1), u]) := by
    subst hus hkw
    cases kw
    · exact hb _ [Value.ref (hp.objs.size + 1), u] I2.kIn rfl
    · exact hkb _ _ _ I2.kIn
  refine wpAny_call (callOwnK F (fun Y => PySem.W.excTail_contains Y bm tl) (I.kIn _ _ lk) (PySem.W.looks_findIn I.kIn hi) (fun self => PySem.W.bind_fn I.kIn self ht) lus
    (codeAny_mono (F1.run _ X.stack _ _ ⟨.ref (hp.objs.size + 1) :: us, kws⟩ [Value.ref (hp.objs.size + 1), u] _ _ E0 (hr.make C us kws) (I2.env0.make C us kws) bd r2 prom) fun r s' hq => ?_))
  cases r with
  | error e => exact (show False from hq).elim
  | ok fl =>
    cases fl with
    | ret v =>
      obtain ⟨v', H', I', rv, ev, q⟩ := I2.after hq
      subst ev
      cases rv
      exact ⟨rfl, .ref (hp.objs.size + 1), H', I', rfl, q⟩
    | next => exact (show False from hq).elim
    | brk => exact (show False from hq).elim
    | cont => exact (show False from hq).elim
variable {e : Expr} {ta : TE} {p pos : Pos}
def tNew (C : Addr) (f : Str) (te : TE) : TE := fun σ H Q => te σ H fun y H1 => NewX C f y H1 Q
theorem pe_new {j : Nat} (T : XN X.prog X.w X.K X.mg X.base x C f) (hr : Room j X.A) (hk : 2 ≤ j) (he : PE X e ta) (hg : Gl X x := by rfl) (hs : starEach [e] X.env = (false, eval e X.env) :: starEach [] X.env := by rfl) (hdb : (x == ("__debug__" : Str)) = false := by decide) :
    PE X (.Call (.Name x p) [e] [] pos) (tNew C f ta) := by
  constructor
  intro pins s σ H Q I h
  refine wpAny_Call_Name_kw (ld_glob I hg T.g ?_ hdb)
  refine PySem.W.callWith_K (h₀ := X.base) I.ok.mod.kin T.b.kC ?_ hs (by rfl)
  rw [hs]
  show wpAny _ _ (spliced ((false, eval e X.env) :: backTo pos (starEach [] X.env))) _ _ s
  refine Calls.spliced_cons (thn (he.run pins s σ H _ I h) fun u s1 hh => ?_)
  obtain ⟨y, H1, I1, r1, q1⟩ := hh
  exact Calls.spliced_nil ⟨I1.kIn, run_new T (hr.mono hk) I1 r1 false q1⟩
theorem pe_newK {j : Nat} (T : XN X.prog X.w X.K X.mg X.base x C f) (hr : Room j X.A) (hk : 2 ≤ j) {kws : List Keyword} {tk : TA} (hkw : PK X kws tk) (hg : Gl X x := by rfl)
    (hall : (backToKw pos (keywordEach kws X.env)).all (·.1.isSome) = true := by rfl) (hks : (backToKw pos (keywordEach kws X.env)).filterMap (·.1) = [f] := by rfl) (hdb : (x == ("__debug__" : Str)) = false := by decide)
    (hpl : ((backTo pos (starEach [] X.env)).any (·.1) || (backToKw pos (keywordEach kws X.env)).any (·.1.isNone)) = false := by rfl) :
    PE X (.Call (.Name x p) [] kws pos) (fun σ H Q => tk σ H fun zs H1 => ∃ y, zs = [y] ∧ NewX C f y H1 Q) := by
  constructor
  intro pins s σ H Q I h
  refine wpAny_Call_Name_kw (ld_glob I hg T.g ?_ hdb)
  refine PySem.W.callWith_KW0 (h₀ := X.base) I.ok.mod.kin T.b.kC hall ?_ hpl
  refine thn (hkw.run pos pins s σ H _ I h) fun ws s2 hh => ?_
  obtain ⟨zs, H2, I2, rz, y, rfl, q2⟩ := hh
  refine ⟨I2.kIn, ?_⟩
  rw [hks]
  cases rz with
  | cons r1 rr =>
    cases rr
    exact run_new T (hr.mono hk) I2 r1 true q2
/-- C(), a class without an own __init__ -/
structure XO (K : PySem.W.Frag) (mg : Str → Option Value) (x : Str) (C : Addr) : Prop where
  b : XB K C
  g : mg x = some (.ref C)
  ex : ∃ (B newId initId : String) (bmB : List Value), ExcBaseFacts B newId initId bmB ∧ PySem.W.excIn K C bmB newId = true
def New0 (C : Addr) (H : Hp) (Q : VK) : Prop := ∀ a, H a = none → Q (.ref a) (upd H a (exo a C none))
def tNew0 (C : Addr) : TE := fun _ H Q => True ∧ New0 C H Q
theorem pe_new0 (T : XO X.K X.mg x C) (hg : Gl X x := by rfl) (hdb : (x == ("__debug__" : Str)) = false := by decide) : PE X (.Call (.Name x p) [] [] pos) (tNew0 C) := by
  constructor
  intro pins s σ H Q I h
  obtain ⟨_, h⟩ := h
  obtain ⟨B, newId, initId, bmB, F, q⟩ := T.ex
  refine wpAny_Call_Name_kw (ld_glob I hg T.g ?_ hdb)
  refine PySem.W.callWith_K0 I.kIn T.b.kC ?_
  show wpAny _ _ (call (.ref C) []) _ _ _
  obtain ⟨bm, N, nm, qn, bs, hdct, sn, sub, ab, col, dd, k0, k1, k2, k3, k5, mN, hC, hN, hni, tl⟩ := exc_obj I.kIn q
  refine wpAny_call_exc_subT F tl hC hN hni (fun h' a hm => ?_) (by show 0 ≤ sizeLine; decide)
  obtain ⟨t, ht, _, _⟩ := hm.there
  have hn : H a = none := I.hok.gone hm.new
  exact ⟨.ref a, _, I.laidN hm.keeps hm.new hn (exo_ok ht), rfl, h a hn⟩
/-! ### what is asked of them -/
/-- what isinstance asks of the class -/
structure XQ (K : PySem.W.Frag) : Prop where
  hn : PySem.W.specialIn K (.builtin "object.__class__") "__get__" = some (some (.builtin "getset_descriptor.__get__"))
  ht : PySem.W.takesIn K (.builtin "object.__class__") = some true
end
section
open PySem.W PySem.Calls
variable {prog : Program} {w : World} {A : Around} {E : Value → Shared → Prop} {s : Shared} {K : Frag} {x D : Addr} {ox : Obj} {od : Option Obj}
theorem clsFound (T : XB K D) (Z : XQ K) : findObj K D od "__class__" = some (.bind (.builtin "getset_descriptor.__get__") (.builtin "object.__class__")) := by
  have hc : (clsIn K D).isSome = true := by
    obtain ⟨bm, bmB, cd, h1, _⟩ := T.cls
    rw [h1]
    rfl
  cases od with
  | none => exact findObj_dataN hc T.ca Z.hn Z.ht
  | some o => exact findObj_data hc T.ca Z.hn Z.ht
theorem clsRead {Q : Option Value → Shared → Prop} (T : XB K D) (Z : XQ K) (X : K.In s.heap) (J : InstAt s.heap x ox D od) (h : Q (some (.ref D)) { s with toks := s.toks + 1 }) : wpAny (model prog w) A (getAttr? (.ref x) "__class__") Q E s := by
  have found := clsFound (od := od) T Z
  obtain ⟨hp, g, d, t, os⟩ := s
  have A0 := J.type (M := model prog w)
  have A1 := looks_findIn (M := model prog w) X T.ga
  have A2 := looks_findIn (M := model prog w) X T.gg
  have A3 := looks_find (M := model prog w) X J found
  have isB : Looks (model prog w) hp (isInstance (.ref x) (.type "BaseException")) true := A0.andThen (looks_subIn X T.isBase)
  have n1 : (Value.builtin "BaseException.__getattribute__" == Value.builtin "object.__getattribute__") = false := by decide +kernel
  have n2 : (onTheHeap (Value.ref D) && Value.builtin "BaseException.__getattribute__" == Value.builtin "object.__getattribute__") = false := by rw [n1]; rfl
  have n3 : (false && onTheHeap (Value.builtin "BaseException.__getattribute__")) = false := rfl
  unfold getAttr? getAttrBy? getAttrBy
  refine wpAny_bind (wpAny_mkText (wpAny_bind (wpAny_attempt (wpAny_holding (wpAny_bind (A0.at (wpAny_bind (A1.at ?_))))))))
  show wpAny _ _ (if (onTheHeap (Value.ref D) && Value.builtin "BaseException.__getattribute__" == Value.builtin "object.__getattribute__") = true then _ else _) _ _ _
  rw [n2, if_neg Bool.false_ne_true]
  unfold getAttrByItsOwn hookBefore
  refine wpAny_bind ?_
  rw [if_pos (show onTheHeap (Value.ref D) = true from rfl)]
  refine A2.at ?_
  refine wpAny_bind (wpAny_attempt (wpAny_holding ?_))
  unfold callGetattribute
  rw [n3, if_neg Bool.false_ne_true]
  unfold boundAndCalled
  rw [PySem.F.excAttr_ValueError.ga.bind (.ref x)]
  refine wpAny_bind (wpAny_pure ?_)
  show wpAny _ _ (call (.builtin "BaseException.__getattribute__") [.ref x, .str "__class__" t]) _ _ _
  refine wpAny_call (codeAny_call_builtin PySem.F.excAttr_ValueError.ga.plain PySem.F.entry_bexc_ga ?_)
  refine @check_slot (model prog w) _ _ ⟨hp, g, d, t + 1, os⟩ "BaseException.__getattribute__" "BaseException" "__getattribute__" (.ref x) [.str "__class__" t] [] _ (by decide +kernel) (by decide +kernel) isB (PySem.F.args_bexc_ga (.ref x) (.str "__class__" t)) ?_
  unfold Builtin.«object.__getattribute__»
  refine wpAny_bind (wpAny_of_eq (a := ((Value.ref x : Value), [Value.str "__class__" t])) (by first | rfl | (simp only [slotArgs]; rfl)) ?_)
  refine wpAny_bind (wpAny_pure (wpAny_bind (A0.at (wpAny_bind (A3.at ?_)))))
  show wpAny _ _ (holding [Value.builtin "object.__class__"] (call (.builtin "getset_descriptor.__get__") [.builtin "object.__class__", .ref x, .ref D]) >>= ret) _ _ _
  refine wpAny_bind (wpAny_holding (wpAny_call (class_get (s := ⟨hp, g, d, t + 1, os⟩) (ox := ox) (od := od) X J T.isObj ?_)))
  refine wpAny_pure ?_
  show wpAny _ _ (handedOut (.ref D)) _ _ _
  rw [handedOut_of (v := .ref D) rfl]
  first
    | exact wpAny_pure (wpAny_pure h)
    | exact wpAny_pure h
    | exact wpAny_pure (wpAny_bind (wpAny_pure (wpAny_pure h)))
theorem kitEx (T : XB K D) (Z : XQ K) : KitX K (.ref x) (.ref D) (fun h => InstAt h x ox D od) where
  ty := fun _ _ _ J => J.type
  it := fun _ _ X _ => by
    obtain ⟨bm, bmB, cd, hc, _⟩ := T.cls
    unfold clsIn at hc
    split at hc
    · rename_i c' d' cd' sl' ho
      intro A' Q' E' s' k q
      unfold isType loadHead
      exact wpAny_bind (wpAny_loadPart (k _ _ (X _ _ ho)) (wpAny_pure q))
    · cases hc
  ne := fun h tp dd its n sl X htp => by
    obtain ⟨bm, bmB, cd, hc, _⟩ := T.cls
    refine Bool.eq_false_iff.mpr fun q => ?_
    have e : D = tp := Value.ref.inj (beq_iff_eq.mp q)
    subst e
    unfold clsIn at hc
    split at hc
    · rename_i c' d' cd' sl' ho
      have z := (X _ _ ho).symm.trans htp
      cases z
    · cases hc
  ca := fun X J k => clsRead T Z X J k
end
/-- at a: an exception of the class at D, with these attributes -/
def XAt (H : Hp) (a D : Addr) (fs : List (Str × V)) : Prop := (fs = [] ∧ H a = some (exo a D none)) ∨ ∃ d, H a = some (exo a D (some d)) ∧ H d = some (exd d fs)
theorem XAt.same {H H' : Hp} {a D : Addr} {fs : List (Str × V)} (x : XAt H a D fs) (s : ∀ b o, H b = some o → H' b = some o) : XAt H' a D fs := by
  rcases x with ⟨e, h⟩ | ⟨d, h1, h2⟩
  · exact .inl ⟨e, s _ _ h⟩
  · exact .inr ⟨d, s _ _ h1, s _ _ h2⟩
theorem XAt.new {H : Hp} {a d C : Addr} {f : Str} {y : V} (ne : d ≠ a) : XAt (upd (upd H d (exd d [(f, y)])) a (exo a C (some d))) a C [(f, y)] := .inr ⟨d, upd_same, by rw [upd_ne ne, upd_same]⟩
theorem XAt.inst {X : Cx} {pins : List (Addr × Obj)} {σ : L2.St} {H : Hp} {s : Shared} {a D : Addr} {fs : List (Str × V)} (I : Inv X pins σ H s) (x : XAt H a D fs) :
    ∃ (ox : Obj) (od : Option Obj), PySem.W.InstAt s.heap a ox D od ∧ ∀ f v, fs.lookup f = some v → ∃ (o : Obj) (u : Value), od = some o ∧ PySem.W.lookIn f o = some (some u) ∧ RelV v u := by
  rcases x with ⟨rfl, h⟩ | ⟨d, h1, h2⟩
  · obtain ⟨t1, ho⟩ := exo_at I.hok h
    exact ⟨_, none, ⟨ho, rfl, rfl, trivial⟩, fun f v z => (nomatch z)⟩
  · obtain ⟨t1, ho⟩ := exo_at I.hok h1
    obtain ⟨mA, hns, rel⟩ := exd_at I.hok h2
    obtain ⟨od, hd, hl⟩ := lookIn_ns hns
    refine ⟨_, some od, ⟨ho, rfl, rfl, hd⟩, fun f v z => ?_⟩
    obtain ⟨u, hu, ru⟩ := RelO.some_of (v := v) (o := mA f) (by rw [← z]; exact rel f)
    exact ⟨od, u, rfl, by rw [hl, hu], ru⟩
/-- isinstance(e, c) -/
def rIsX (K : PySem.W.Frag) : List V → Hp → VK → Prop := fun xs H Q => ∃ (a D : Addr) (fs : List (Str × V)) (c : V) (cv : Value) (b : Bool), xs = [.ref a, c] ∧ XAt H a D fs ∧ XB K D ∧ XQ K ∧ (∀ u, RelV c u → u = cv) ∧ PySem.W.kitOne K (.ref D) cv = some b ∧ Q (.bl b) H
theorem isX {X : Cx} (K : PySem.W.Frag) (h : X.K = K := by rfl) : CallR X (.builtin "isinstance") (rIsX K) := by
  subst h
  intro pins s σ H xs us Q I r h
  obtain ⟨a, D, fs, c, cv, b, rfl, x, T, Z, hcv, e, q⟩ := h
  cases r with
  | cons rx rr =>
    cases rr with
    | cons rt rr =>
      cases rr
      cases rx
      have ec := hcv _ rt
      subst ec
      obtain ⟨ox, od, J, _⟩ := x.inst I
      exact PySem.W.kia_one (kitEx (ox := ox) (od := od) T Z) I.kIn J e (fun z => nomatch z) fun tk => ⟨.bl b, H, I.kept (t' := tk) fun _ _ z => z, rfl, q⟩
/-- e.f -/
def tFx (K : PySem.W.Frag) (f : Str) (te : TE) : TE := fun σ H Q => te σ H fun x H1 => ∃ (a D : Addr) (fs : List (Str × V)) (v : V), x = .ref a ∧ XAt H1 a D fs ∧ XB K D ∧ PySem.W.findIn K (.ref D) f = some none ∧ fs.lookup f = some v ∧ Q v H1
theorem pe_fx {X : Cx} (K : PySem.W.Frag) {e : Expr} {te : TE} {pos : Pos} {n : Str} (he : PE X e te) (h : X.K = K := by rfl) (hb : attributeBase e n X.env (eval e X.env) = eval e X.env := by rfl) : PE X (.Attribute e n pos) (tFx K n te) := by
  subst h
  constructor
  intro pins s σ H Q I h
  refine attr_of hb (thn (he.run pins s σ H _ I h) fun u s1 hh => ?_)
  obtain ⟨x, H1, I1, rx, a, D, fs, v, rfl, xa, T, no, l, q⟩ := hh
  cases rx
  obtain ⟨ox, od, J, look⟩ := xa.inst I1
  obtain ⟨o, u, rfl, hl, ru⟩ := look n v l
  exact PySem.HandSPX.exc_get I1.kIn J T.ga T.gg T.isBase (PySem.W.findObj_own T.hasD no rfl hl) (handed_of ru) ⟨v, H1, I1.tok _, ru, q⟩
end U

namespace U
open PySem L2
/-! ### what is shown: plain data of any depth, or a dict of texts and ints -/
structure Shw (d : PyData) : Prop where
  lay : d.canLay0 = true
  shw : d.showable = true
  dp : d.depth ≤ 60
  fit : d.shown.length ≤ sizeLine
theorem Sh.w {d : PyData} {b n : Nat} (h : Sh d b n) (hb : b ≤ 1048576) (hn : n ≤ 60) : Shw d := ⟨h.lay, h.shw, Nat.le_trans h.dp hn, PyData.shown_fits_bulk (B := 13) (by decide) (by decide) h.lv (Nat.le_trans h.bk (Nat.le_trans hb (by decide)))⟩
def dKs (ks : List (Str × Int)) : List (Key × V) := ks.map fun p => (Sum.inr p.1, V.int p.2)
def dDict (ks : List (Str × Int)) : PyData := .dict (ks.map fun p => (.str p.1, .int p.2))
/-- v shows the text z -/
def Vw (K : PySem.W.Frag) (H : Hp) (v : V) (z : Str) : Prop := (∃ d, Dp K H v d ∧ Shw d ∧ z = d.shown) ∨
  ∃ (a : Addr) (ks : List (Str × Int)), v = .ref a ∧ H a = some (.dK (dKs ks)) ∧ (dDict ks).showable = true ∧ (dDict ks).shown.length ≤ sizeLine ∧ (dDict ks).depth ≤ 60 ∧ z = (dDict ks).shown
theorem Vw.of {K : PySem.W.Frag} {H : Hp} {v : V} {d : PyData} (h : Dp K H v d) (s : Shw d) : Vw K H v d.shown := .inl ⟨d, h, s, rfl⟩
theorem keys_read {P : Program} {w : World} {h : Heap} : ∀ {ks : List (Str × Int)} {es : List DictEntry} {vs : List (Key × Value)}, KV (dKs ks) vs → PySem.Pairs (mixKind P w) es vs →
    ReadsAll h (es.map (·.key)) (ks.map fun p => PyData.str p.1) [] ∧ ReadsAll h (es.map (·.val)) (ks.map fun p => PyData.int p.2) []
  | [], _, _, r, p => by
    cases r
    cases p
    exact ⟨.nil, .nil⟩
  | k :: ks, _, _, r, p => by
    cases r with
    | cons r1 rr =>
      cases p with
      | cons p1 p2 pp =>
        obtain ⟨q1, q2⟩ := keys_read (h := h) rr pp
        obtain ⟨e1, t, e2⟩ := r1
        rw [← e1] at p1
        rw [e2] at p2
        rcases keyIs_shape (show keyIs (Sum.inr k.1) _ = true from p1) with ⟨i, t', z, _⟩ | ⟨x, t', z2, z1⟩
        · cases z
        · cases z2
          refine ⟨?_, ?_⟩
          · rw [List.map_cons, z1]
            exact .cons (as := []) (bs := []) (.str _ _) q1
          · rw [List.map_cons, p2]
            exact .cons (as := []) (bs := []) (.int _ _) q2
def rReprV (K : PySem.W.Frag) : List V → Hp → VK → Prop := fun xs H Q => ∃ (v : V) (z : Str), xs = [v] ∧ Vw K H v z ∧ Q (.str z) H
theorem reprV {X : Cx} (K : PySem.W.Frag) (hg : X.A.guards = some []) (hu : X.A.units + 64 < cLine) (h : X.K = K := by rfl) : CallR X (.builtin "repr") (rReprV K) := by
  subst h
  intro pins s σ H xs us Q I r h
  obtain ⟨v, z, rfl, hd, q⟩ := h
  cases r with
  | cons ru rr =>
    cases rr
    rcases hd with ⟨d, hd, sh, rfl⟩ | ⟨a, ks, rfl, ha, h1, h2, h3, rfl⟩
    · have fits := sh.fit
      cases hd with
      | non => cases ru; exact P.repr_of_none ⟨.str _, H, I.tok _, ⟨_, rfl⟩, by simpa only [PyData.shown] using q⟩
      | bl c => cases ru; exact P.repr_of_bool ⟨.str _, H, I.tok _, ⟨_, rfl⟩, by simpa only [PyData.shown] using q⟩
      | int i =>
        obtain ⟨t, rfl⟩ := ru
        have g := sh.shw
        simp only [PyData.showable] at g
        exact P.repr_of_int (of_decide_eq_true g) ⟨.str _, H, I.tok _, ⟨_, rfl⟩, by simpa only [PyData.shown] using q⟩
      | str x =>
        obtain ⟨t, rfl⟩ := ru
        exact P.repr_of_str ⟨.str _, H, I.tok _, ⟨_, rfl⟩, by simpa only [PyData.shown] using q⟩ (by simpa only [PyData.shown] using fits)
      | lst hs ha =>
        cases ru
        obtain ⟨as, rd⟩ := Dp.reads I _ _ _ (.lst hs ha) (show RelV (V.ref _) (Value.ref _) from rfl)
        exact repr_of_reads' rd sh.shw (PyData.noDict_hsm (PyData.hasDict_of_canLay _ sh.lay)) hg (by have := sh.dp; omega) (fun b o e => e) (fun h' u tk k => ⟨.str _, H, I.kept (t' := tk) k, ⟨_, rfl⟩, q⟩) fits
      | tup hs ha =>
        cases ru
        obtain ⟨as, rd⟩ := Dp.reads I _ _ _ (.tup hs ha) (show RelV (V.ref _) (Value.ref _) from rfl)
        exact repr_of_reads' rd sh.shw (PyData.noDict_hsm (PyData.hasDict_of_canLay _ sh.lay)) hg (by have := sh.dp; omega) (fun b o e => e) (fun h' u tk k => ⟨.str _, H, I.kept (t' := tk) k, ⟨_, rfl⟩, q⟩) fits
    · cases ru
      obtain ⟨hz, hs, vs, kv, o, es, ep, ho, ex, hd, hk, hp, hn⟩ := dk_of I.hok ha
      obtain ⟨r1, r2⟩ := keys_read (h := s.heap) kv hp
      have rd : Reads s.heap (.ref a) (dDict ks) (a :: [] ++ []) := by
        unfold dDict
        refine .dict ho ex.1 hd ?_ ?_
        · rw [List.map_map]; exact r1
        · rw [List.map_map]; exact r2
      exact repr_of_reads' rd h1 (fun _ hm => by
          rw [List.append_nil, List.mem_singleton] at hm
          rw [← hm] at hs
          simp at hs) hg (by omega) (fun b o e => e) (fun h' u tk k => ⟨.str _, H, I.kept (t' := tk) k, ⟨_, rfl⟩, q⟩) h2
end U

namespace U
open PySem L2 PySem.Spec PyProof.Rows
/-! ### which exception is of which class -/
def bkX (k : Nat) : Nat := if k < 12 then 0 else if k < 13 then 1 else 2
def tlX (b : Nat) : List Value := if b = 0 then [.type "ValueError", .type "Exception", .type "BaseException", .type "object"] else if b = 1 then [.type "LookupError", .type "Exception", .type "BaseException", .type "object"] else [.type "ArithmeticError", .type "Exception", .type "BaseException", .type "object"]
def nwX (b : Nat) : String := if b = 0 then "ValueError.__new__" else if b = 1 then "LookupError.__new__" else "ArithmeticError.__new__"
def tyX (b : Nat) : String := if b = 0 then "ValueError" else if b = 1 then "LookupError" else "ArithmeticError"
def nmX : List Str := ["InvalidText", "InvalidNumber", "InvalidName", "InvalidWish", "InvalidIndex", "NotACouncil", "InvalidMinds", "InvalidWays", "InvalidWord", "InvalidThoughts", "InvalidOffers", "InvalidDoubts", "UnknownName", "NoDays", "NoEnd", "TooMany", "NothingToUndo", "Broken"]
def nmW : List Str := ["WrongValue", "WrongName", "NoAnswer"]
/-- the class at C with the name nm, its base at W, over the built-in base b -/
structure LkX (K : PySem.W.Frag) (C W : Addr) (nm : Str) (b : Nat) : Prop where
  ex : ∃ (q : Str) (N : Addr) (bs : List Value) (sn : List Str) (sub : List Value) (ab : Bool) (col : Option Bool) (dd : Option Addr) (k0 k1 k2 k3 k5 : Option Value), K.lookup C = some (excClassObj nm q C N bs (.ref W :: tlX b) true sn sub ab col dd k0 k1 k2 k3 k5 (nwX b))
structure LkW (K : PySem.W.Frag) (W : Addr) (nm : Str) : Prop where
  ex : ∃ (q : Str) (N : Addr) (bs bm : List Value) (sn : List Str) (sub : List Value) (ab : Bool) (col : Option Bool) (dd : Option Addr) (k0 k1 k2 k3 k5 : Option Value) (nw : String), K.lookup W = some (excClassObj nm q W N bs bm true sn sub ab col dd k0 k1 k2 k3 k5 nw)
section
variable {K : PySem.W.Frag} {C D W V : Addr} {n m : Str} {b c : Nat}
theorem LkX.w (x : LkX K C W n b) : LkW K C n := by
  obtain ⟨q, N, bs, sn, sub, ab, col, dd, k0, k1, k2, k3, k5, e⟩ := x.ex
  exact ⟨q, N, bs, _, sn, sub, ab, col, dd, k0, k1, k2, k3, k5, _, e⟩
theorem LkW.ne (x : LkW K C n) (y : LkW K D m) (h : n ≠ m) : C ≠ D := fun z => by
  subst z
  obtain ⟨q, N, bs, bm, sn, sub, ab, col, dd, k0, k1, k2, k3, k5, nw, e⟩ := x.ex
  obtain ⟨q', N', bs', bm', sn', sub', ab', col', dd', k0', k1', k2', k3', k5', nw', e'⟩ := y.ex
  have z := Option.some.inj (e.symm.trans e')
  unfold excClassObj at z
  injection z with _ _ z1 _
  injection z1 with z2
  injection z2 with z3
  exact h z3
theorem LkW.isC (x : LkW K C n) : ((PySem.W.clsIn K C).isSome && PySem.W.typeIn K (.ref C) == some (.type "type")) = true := by
  obtain ⟨q, N, bs, bm, sn, sub, ab, col, dd, k0, k1, k2, k3, k5, nw, e⟩ := x.ex
  have e1 : (PySem.W.clsIn K C).isSome = true := by
    unfold PySem.W.clsIn
    rw [e] <;> rfl
  have e2 : PySem.W.typeIn K (.ref C) = some (.type "type") := by
    show (K.lookup C).map (·.cls) = _
    rw [e]
    rfl
  rw [e1, e2]
  rfl
theorem LkX.mro (x : LkX K C W n b) (v : Value) : PySem.W.mroIn K C v = some ((Value.ref C :: Value.ref W :: tlX b).contains v) := by
  obtain ⟨q, N, bs, sn, sub, ab, col, dd, k0, k1, k2, k3, k5, e⟩ := x.ex
  have h : PySem.W.clsIn K C = some { name := n, bases := bs, mro := .ref C :: .ref W :: tlX b, ns := N, qualname := q, hasDict := true, slotNames := sn, subclasses := sub, abstract := ab, collection := col, hasDel := false } := by
    unfold PySem.W.clsIn
    rw [e] <;> rfl
  unfold PySem.W.mroIn
  rw [h, Option.bind_some, if_neg (by simp)]
theorem tl_ref : ∀ (b : Nat) (a : Addr), (tlX b).contains (.ref a) = false := by
  intro b a
  unfold tlX
  split
  · rfl
  · split <;> rfl
theorem ref_beq {a b : Addr} (h : a ≠ b) : (Value.ref a == Value.ref b) = false := Bool.eq_false_iff.mpr fun q => h (Value.ref.inj (beq_iff_eq.mp q))
theorem kit_self' (K : PySem.W.Frag) (C : Addr) : PySem.W.kitOne K (.ref C) (.ref C) = some true := by
  unfold PySem.W.kitOne
  rw [if_pos (beq_iff_eq.mpr rfl)]
theorem kit_cls (x : LkX K C W n b) (y : LkW K D m) (h : n ≠ m) (hW : W = D ∨ W ≠ D) : PySem.W.kitOne K (.ref C) (.ref D) = some (decide (W = D)) := by
  have ne := x.w.ne y h
  unfold PySem.W.kitOne
  rw [if_neg (by rw [ref_beq ne]; exact Bool.false_ne_true)]
  show (if ((PySem.W.clsIn K D).isSome && PySem.W.typeIn K (.ref D) == some (.type "type")) = true then PySem.W.mroIn K C (.ref D) else none) = _
  rw [if_pos y.isC, x.mro]
  congr 1
  rw [List.contains_cons, List.contains_cons, tl_ref, Bool.or_false, ref_beq (Ne.symm ne), Bool.false_or]
  rcases hW with e | e
  · rw [e, decide_eq_true rfl]
    exact beq_self_eq_true _
  · rw [decide_eq_false e]
    exact ref_beq (Ne.symm e)
theorem kit_typ (x : LkX K C W n b) {T : String} (hm : PySem.W.kitMeta T = true) : PySem.W.kitOne K (.ref C) (.type T) = some ((tlX b).contains (.type T)) := by
  unfold PySem.W.kitOne
  rw [if_neg (by rw [show (Value.ref C == Value.type T) = false from rfl]; exact Bool.false_ne_true)]
  show (if PySem.W.kitMeta T = true then PySem.W.mroIn K C (.type T) else none) = _
  rw [if_pos hm, x.mro]
  rfl
theorem LkX.xb (x : LkX K C W n b) (sa : PySem.W.findIn K (.ref C) "__setattr__" = some (some (.builtin "object.__setattr__"))) (ga : PySem.W.findIn K (.ref C) "__getattribute__" = some (some (.builtin "BaseException.__getattribute__")))
    (gg : PySem.W.findIn K (.ref C) "__getattr__" = some none) (ca : PySem.W.findIn K (.ref C) "__class__" = some (some (.builtin "object.__class__"))) (kC : PySem.W.keepIn K (.ref C) = true) : XB K C := by
  obtain ⟨q, N, bs, sn, sub, ab, col, dd, k0, k1, k2, k3, k5, e⟩ := x.ex
  refine ⟨?_, sa, ga, gg, ca, kC⟩
  have tl : ∀ b, PySem.W.excTail (tlX b) (.ref W :: tlX b) = true := fun b => by
    show PySem.W.excTail (tlX b) (tlX b) = true
    unfold tlX
    split
    · decide +kernel
    · split <;> decide +kernel
  by_cases h0 : b = 0
  · subst h0
    exact ⟨_, _, _, _, _, _, _, _, _, _, _, _, _, _, _, _, _, _, _, F.excBase_ValueError, F.store_ValueError, e, tl 0⟩
  · by_cases h1 : b = 1
    · subst h1
      exact ⟨_, _, _, _, _, _, _, _, _, _, _, _, _, _, _, _, _, _, _, F.excBase_LookupError, F.store_LookupError, e, tl 1⟩
    · have e1 : tlX b = tlX 2 := by unfold tlX; rw [if_neg h0, if_neg h1]; rfl
      have e2 : nwX b = nwX 2 := by unfold nwX; rw [if_neg h0, if_neg h1]; rfl
      rw [e1, e2] at e
      exact ⟨_, _, _, _, _, _, _, _, _, _, _, _, _, _, _, _, _, _, _, F.excBase_ArithmeticError, F.store_ArithmeticError, e, tl 2⟩
end
theorem bk_lt (i : Nat) : bkX i < 3 := by
  unfold bkX
  split
  · decide
  · split <;> decide
theorem nm_ne : ∀ i, i < 18 → ∀ k, k < 18 → i ≠ k → nmX.getD i "" ≠ nmX.getD k "" := by decide +kernel
theorem nw_ne : ∀ i, i < 3 → ∀ k, k < 3 → i ≠ k → nmW.getD i "" ≠ nmW.getD k "" := by decide +kernel
theorem nmw_ne : ∀ i, i < 18 → ∀ b, b < 3 → nmX.getD i "" ≠ nmW.getD b "" := by decide +kernel
theorem tl_ty : ∀ a, a < 3 → ∀ b, b < 3 → (tlX a).contains (.type (tyX b)) = decide (b = a) := by decide +kernel
theorem ty_meta : ∀ b, b < 3 → PySem.W.kitMeta (tyX b) = true := by decide +kernel
section
variable {K : PySem.W.Frag} {c W : Nat → Addr} (lk : ∀ k, k < 18 → LkX K (c k) (W (bkX k)) (nmX.getD k "") (bkX k)) (lw : ∀ b, b < 3 → LkW K (W b) (nmW.getD b ""))
include lk lw
theorem kit_cc (i k : Nat) (hi : i < 18) (hk : k < 18) : PySem.W.kitOne K (.ref (c i)) (.ref (c k)) = some (decide (k = i)) := by
  by_cases e : k = i
  · subst e
    rw [kit_self', decide_eq_true rfl]
  · have ne : W (bkX i) ≠ c k := (lw _ (bk_lt i)).ne (lk k hk).w (Ne.symm (nmw_ne k hk _ (bk_lt i)))
    rw [kit_cls (lk i hi) (lk k hk).w (nm_ne i hi k hk (Ne.symm e)) (.inr ne), decide_eq_false ne, decide_eq_false e]
theorem kit_cw (i b : Nat) (hi : i < 18) (hb : b < 3) : PySem.W.kitOne K (.ref (c i)) (.ref (W b)) = some (decide (b = bkX i)) := by
  by_cases e : b = bkX i
  · subst e
    rw [kit_cls (lk i hi) (lw _ hb) (nmw_ne i hi _ hb) (.inl rfl), decide_eq_true rfl, decide_eq_true rfl]
  · have ne : W (bkX i) ≠ W b := (lw _ (bk_lt i)).ne (lw b hb) (nw_ne _ (bk_lt i) b hb (Ne.symm e))
    rw [kit_cls (lk i hi) (lw _ hb) (nmw_ne i hi _ hb) (.inr ne), decide_eq_false ne, decide_eq_false e]
omit lw in
theorem kit_ct (i b : Nat) (hi : i < 18) (hb : b < 3) : PySem.W.kitOne K (.ref (c i)) (.type (tyX b)) = some (decide (b = bkX i)) := by
  rw [kit_typ (lk i hi) (ty_meta b hb), tl_ty _ (bk_lt i) b hb]
end
end U

namespace U
open PySem L2 PySem.Spec PyProof.Rows
/-! ### a list's iterator at its end, while an exception is handled -/
theorem listEndHot {prog : Program} {w : World} {A : Around} {E : Value → Shared → Prop} {s : Shared} {it l x1 : Addr} {i : Nat} {items : Array Value} {Q : Option Value → Shared → Prop} (hot : HotX.HotAt A x1 s.heap) (hit : s.heap.IsListIter it l i) (hl : s.heap.IsList l items) (hx : items[i]? = none)
    (ne : x1 ≠ it) (hQ : ∀ h', (∀ b o, b ≠ it → s.heap.get? b = some o → h'.get? b = some o) → Q none { s with heap := h' }) : wpAny (model prog w) A (pyNext (.ref it)) Q E s := by
  obtain ⟨oi, gi, ci, di⟩ := id hit
  obtain ⟨ol, gl, _, nl, dl⟩ := hl
  obtain ⟨hh, o1, vs1, g1, d1, c1⟩ := hot
  unfold pyNext
  refine wpAny_bind (wpAny_attempt (wpAny_callSpecial?_slot (name := Str.ofString "__next__") hit.typeIs slot_listiter_next (wpAny_call_entry slot_listiter_next hit.typeIs entry_listiter_next ?_ (args_listiter_next _))))
  show wpAny _ _ (field (.ref it) 0 >>= _) _ _ s
  refine wpAny_bind (wpAny_field gi di (x := .ref l) rfl ?_)
  show wpAny _ _ (if (Value.ref l == Value.none) = true then _ else _) _ _ s
  rw [if_neg (show ¬ ((Value.ref l == Value.none) = true) from Bool.false_ne_true)]
  show wpAny _ _ (field (.ref it) 1 >>= _) _ _ s
  refine wpAny_bind (wpAny_field gi di (x := .int i 0) rfl ?_)
  show wpAny _ _ (seqItems? (.ref l) >>= _) _ _ s
  refine wpAny_bind (wpAny_seqItems gl dl ?_)
  simp only [Int.toNat_natCast, hx]
  refine wpAny_bind (wpAny_rule (wpAny_bind (wpAny_setField gi di (by simp) ?_)))
  show wpAny _ _ (newExc (.type "StopIteration") [] >>= _) _ _ _
  refine wpAny_bind ?_
  simp only [newExc, newTuple]
  refine wpAny_bind (wpAny_newObj_type ?_ (by size_fits))
  refine wpAny_bind (m := firstArgMember _ _) (wpAny_of_eq (a := Value.none) (by first | rfl | (simp only [firstArgMember]; rfl)) ?_)
  refine wpAny_newObj_type ?_ (by size_fits)
  have k0 : ∀ b o, b ≠ it → s.heap.get? b = some o → (s.heap.update it (Obj.mapFields (·.setIfInBounds 0 Value.none))).get? b = some o := fun b o hb e => (Heap.get?_update_other _ _ (Ne.symm hb)).trans e
  refine HotX.raiseNew_hot ⟨hh, o1, vs1, Heap.get?_push_of_some _ (Heap.get?_push_of_some _ (k0 _ _ ne g1)), d1, c1⟩ (Nat.ne_of_lt (Heap.lt_size (Heap.get?_push_of_some _ (k0 _ _ ne g1)))) (Heap.get?_push_size _ rfl) rfl (by first | (simp; done) | (simp; omega) | (simp only [Array.size_append]; simp; omega)) ?_
  refine wpAny_bind (wpAny_isInstance (T := "StopIteration") (b := true) ⟨_, Heap.get?_update_self _ (Heap.get?_push_size _ rfl) rfl, rfl⟩ isSubtype_stop ?_)
  refine wpAny_pure (hQ _ fun b o hb e => ?_)
  have k1 := Heap.get?_push_of_some { cls := .type "tuple", data := .seq ([] : List Value).toArray } (k0 b o hb e)
  refine (Heap.get?_update_other _ _ (Nat.ne_of_gt ?_)).trans (Heap.get?_push_of_some _ k1)
  exact Heap.lt_size k1
/-! ### where loops end: nothing is handled, or what is handled is known -/
def Sd (X : Cx) : Prop := ∀ (pins : List (Addr × Obj)) (σ : L2.St) (H : Hp) (s : Shared), Inv X pins σ H s → X.A.handled = none ∨ ∃ p : Addr × Obj, L2H.Hot1 X.A p ∧ s.heap.get? p.1 = some p.2
theorem sd_calm {X : Cx} (h : X.calm = true) : Sd X := fun _ _ _ _ I => .inl (I.ok.hd h)
theorem sd_hot {X : Cx} (c : L2H.HotC X) : Sd X := fun _ _ _ _ I => by
  obtain ⟨p, hp, hm⟩ := c
  exact .inr ⟨p, hp, (I.pin p (List.mem_append_left _ hm)).1⟩
/-- a block's start is a state of X, its iterator's objects stand apart -/
def Blk (X : Cx) (s : Shared) (H : Hp) (fp : List Addr) : Prop := ∃ (pins : List (Addr × Obj)) (σ : L2.St), Inv X pins σ H s ∧ ∀ b ∈ fp, FpOk X pins H b
theorem sd_blk {X : Cx} {s : Shared} {H : Hp} {scope : Scope} {ce : Env} {fp : List Addr} (c : L2H.HotC X) (b : Blk X s H fp) : Sd (X.blk s H scope ce fp) := fun pins σ H' s' J => by
  obtain ⟨p, hp, hm⟩ := c
  obtain ⟨pn, τ, I, hf⟩ := b
  obtain ⟨g, n, nl, nf, nc⟩ := I.pin p (List.mem_append_left _ hm)
  refine .inr ⟨p, hp, J.base.keep p.1 p.2 g n (fun hs => ?_) fun hx => ?_⟩
  · rcases List.mem_cons.mp (I.stkSub p.1 hs) with z | z
    · exact nl z
    · exact nf z
  · exact (hf p.1 hx).2.2.2.2.2 p (List.mem_append_left _ hm) rfl
structure TurnS (P : Program) (w : World) (K : PySem.W.Frag) (tg : Expr) (J : It) (fp : List Addr) (it : Addr) (tn : Nat → Heap → Prop) : Prop where
  mem : it ∈ fp
  obj : ∀ i h, tn i h → ∀ b ∈ fp, ∃ o, h.get? b = some o ∧ ∀ v, o.data ≠ .cell v
  keep : ∀ i h h', tn i h → (∀ b ∈ fp, ∀ o, h.get? b = some o → h'.get? b = some o) → tn i h'
  item : ∀ (X : Cx), X.prog = P → X.w = w → X.K = K → ∀ (i : Nat) (pins : List (Addr × Obj)) (s : Shared) (σ : L2.St) (H : Hp) (E : Value → Shared → Prop), Inv X pins σ H s → (∀ b ∈ fp, FpOk X pins H b) → tn i s.heap → J.go i H →
    wpAny (model P w) X.A (pyNext (.ref it)) (fun r s1 => ∃ u, r = some u ∧ wpAny (model P w) X.A (letOwnedTupleGo tg (.ref it) u) (fun _ s2 => ∃ x H', Inv X pins σ H' s2 ∧ RelV x u ∧ J.yld i H x H' ∧ tn (i + 1) s2.heap ∧ ∀ b ∈ fp, H' b = none) E s1) E s
  done : ∀ (X : Cx), X.prog = P → X.w = w → X.K = K → Sd X → ∀ (i : Nat) (pins : List (Addr × Obj)) (s : Shared) (σ : L2.St) (H : Hp) (E : Value → Shared → Prop), Inv X pins σ H s → (∀ b ∈ fp, FpOk X pins H b) → tn i s.heap → J.stop i H →
    wpAny (model P w) X.A (pyNext (.ref it)) (fun r s1 => r = none ∧ Inv X pins σ H s1) E s
  self : ∀ (A : Around) (i : Nat) (s : Shared) (Q : Value → Shared → Prop) (E : Value → Shared → Prop), tn i s.heap → Q (.ref it) s → wpAny (model P w) A (pyIter (.ref it)) Q E s
section
variable {P : Program} {w : World} {K : PySem.W.Frag} {tg : Expr}
theorem turnSL (a it : Addr) : TurnS P w K tg (Itl K a) [it] it (fun i h => h.IsListIter it a i) where
  mem := by simp
  obj := fun i h st b hb => by
    obtain rfl : b = it := by simpa using hb
    obtain ⟨o, e, c, d⟩ := st
    exact ⟨o, e, fun v z => by rw [d] at z; cases z⟩
  keep := fun i h h' st k => st.at fun o e => k it (by simp) o e
  self := fun _ _ _ _ _ st h => wpAny_pyIter_listiter st h
  item := by
    intro X hP hw hK i pins s σ H E I hf st hg
    subst hP hw hK
    obtain ⟨xs, x, hq, hx⟩ := hg
    obtain ⟨its, rv, p, hz⟩ := I.list hq
    obtain ⟨u, hu, ru⟩ := rv.get hx
    obtain ⟨f0, f1, f2, f3, f4, f5⟩ := hf it (by simp)
    refine wpAny_pyNext_list_item st p.isList (x := u) (by simpa using hu) fun h' st' sb => ?_
    have J : Inv X pins σ H { s with heap := h' } := I.turned (t' := s.toks) (fun b o hb e => (sb.2 b hb).trans e) f0 f1 f3 f4 f5
    obtain ⟨o, e, c, d⟩ := id st'
    refine ⟨u, rfl, go_of (s := { s with heap := h' }) e c d (by decide) ⟨x, H, J, ru, ⟨rfl, fun ys hy => ?_⟩, st', fun b hb => (hf b hb).1⟩⟩
    rw [I.list_inj hy hq]
    exact hx
  done := by
    intro X hP hw hK sd i pins s σ H E I hf st hg
    subst hP hw hK
    obtain ⟨xs, hq, hx⟩ := hg
    obtain ⟨its, rv, p, hz⟩ := I.list hq
    obtain ⟨f0, f1, f2, f3, f4, f5⟩ := hf it (by simp)
    have hl := rv.length
    have out : (its.toArray)[i]? = none := by simp; omega
    rcases sd pins σ H s I with e | ⟨q, ⟨hh, vs, hd, hc⟩, hg⟩
    · exact wpAny_pyNext_list_end e st p.isList out fun h' eb => ⟨rfl, I.turned (t' := s.toks) (fun b o hb e => eb b o hb e) f0 f1 f3 f4 f5⟩
    · have ne : q.1 ≠ it := fun z => by
        obtain ⟨o, e, c, d⟩ := st
        rw [z, e] at hg
        cases hg
        rw [d] at hd
        cases hd
        cases hc
      exact listEndHot ⟨hh, q.2, vs, hg, hd, hc⟩ st p.isList out ne fun h' eb => ⟨rfl, I.turned (t' := s.toks) eb f0 f1 f3 f4 f5⟩
theorem turnSR (it : Addr) (lo : Int) (n : Nat) : TurnS P w K tg (Itr lo n) [it] it (fun i h => IsRangeIter h it (lo + (i : Nat) * 1) ((n : Int) - (i : Nat)) 1) where
  mem := by simp
  obj := fun i h st b hb => by
    obtain rfl : b = it := by simpa using hb
    refine ⟨_, st, fun v z => ?_⟩
    have y : Data.fields _ = Data.cell v := z
    cases y
  keep := fun i h h' st k => k it (by simp) _ st
  self := fun _ _ _ _ _ st h => wpAny_pyIter_rangeiter st h
  item := by
    intro X hP hw hK i pins s σ H E I hf st hg
    subst hP hw hK
    obtain ⟨f0, f1, f2, f3, f4, f5⟩ := hf it (by simp)
    have hlt : i < n := hg
    refine wpAny_pyNext_range_item st (by omega) fun h' st' sb => ?_
    have st2 : IsRangeIter h' it (lo + ((i + 1 : Nat) : Int) * 1) ((n : Int) - ((i + 1 : Nat) : Int)) 1 := by
      rw [show lo + ((i + 1 : Nat) : Int) * 1 = lo + ((i : Nat) : Int) * 1 + 1 from by omega, show (n : Int) - ((i + 1 : Nat) : Int) = (n : Int) - ((i : Nat) : Int) - 1 from by omega]
      exact st'
    have J : Inv X pins σ H { s with heap := h', toks := s.toks + 1 } := I.turned (fun b o hb e => (sb.2 b hb).trans e) f0 f1 f3 f4 f5
    refine ⟨_, rfl, go_of (s := { s with heap := h', toks := s.toks + 1 }) (n := "range_iterator") st2 rfl rfl (by decide) ⟨.int (lo + i), H, J, ⟨s.toks, ?_⟩, ⟨rfl, rfl⟩, st2, fun b hb => (hf b hb).1⟩⟩
    rw [Int.mul_one]
  done := by
    intro X hP hw hK sd i pins s σ H E I hf st hg
    subst hP hw hK
    obtain ⟨f0, f1, f2, f3, f4, f5⟩ := hf it (by simp)
    have out : (n : Int) - (i : Nat) ≤ 0 := by have : n ≤ i := hg; omega
    rcases sd pins σ H s I with e | ⟨q, ⟨hh, vs, hd, hc⟩, hg⟩
    · exact wpAny_pyNext_range_end e st out fun h' eb => ⟨rfl, I.turned (t' := s.toks) (fun b o hb e => eb b o hb e) f0 f1 f3 f4 f5⟩
    · exact HotX.pyNext_range_end_hot ⟨hh, q.2, vs, hg, hd, hc⟩ st out fun h' eb => ⟨rfl, I.turned (t' := s.toks) (fun b o _ e => eb b o e) f0 f1 f3 f4 f5⟩
end
def PIES (X : Cx) (pins : List (Addr × Obj)) (σ : L2.St) (tg : Expr) (R : It → Hp → Prop) (itv : Value) (s2 : Shared) : Prop :=
  ∃ (it : Addr) (fp : List Addr) (tn : Nat → Heap → Prop) (J : It) (H' : Hp), itv = .ref it ∧ Inv X pins σ H' s2 ∧ TurnS X.prog X.w X.K tg J fp it tn ∧ tn 0 s2.heap ∧ (∀ b ∈ fp, FpOk X pins H' b) ∧ R J H'
structure PIS (X : Cx) (tg iter : Expr) (wi : TI) : Prop where
  run : ∀ (pins : List (Addr × Obj)) (s : Shared) (σ : L2.St) (H : Hp) (R : It → Hp → Prop), Inv X pins σ H s → wi σ H R →
    wpAny (model X.prog X.w) X.A (eval iter X.env) (fun v s1 => wpAny (model X.prog X.w) X.A (pyIter v) (PIES X pins σ tg R) X.xe s1) X.xe s
section
variable {X : Cx} {tg : Expr}
theorem pisL (K : PySem.W.Frag) {l : Expr} {tl : TE} (hl : PE X l tl) (h : X.K = K := by rfl) : PIS X tg l (iList K tl) := by
  subst h
  constructor
  intro pins s σ H R I h
  refine thn (hl.run pins s σ H _ I h) fun v s1 hh => ?_
  obtain ⟨x, H1, I1, r1, a, e, ⟨xs, hq⟩, q⟩ := hh
  subst e
  cases r1
  obtain ⟨its, rv, p, hz⟩ := I1.list hq
  refine wpAny_pyIter_list p.isList ⟨s1.heap.objs.size, [s1.heap.objs.size], _, _, H1, rfl, I1.kept (t' := s1.toks) fun b o e => Heap.get?_push_of_some _ e, turnSL a _, ⟨_, Heap.get?_push_size _ rfl, rfl, rfl⟩, fun b hb => ?_, q⟩
  obtain rfl : b = s1.heap.objs.size := by simpa using hb
  exact I1.fpOk (Nat.le_refl _) (I1.hok.fresh (Nat.le_refl _))
theorem rangeItS {pins : List (Addr × Obj)} {σ : L2.St} {H : Hp} {s : Shared} {R : It → Hp → Prop} {E : Value → Shared → Prop} {hi : Int} {t u v : Tok} {tk : Nat} (I : Inv X pins σ H s) (h3 : -(2 ^ 62) ≤ hi) (h4 : hi < 2 ^ 62) (q : R (Itr 0 hi.toNat) H) :
    wpAny (model X.prog X.w) X.A (pyIter (.ref s.heap.objs.size)) (PIES X pins σ tg R) E { s with heap := s.heap.push { cls := .type "range", data := .fields #[.int 0 t, .int hi u, .int 1 v] }, toks := tk } := by
  refine wpAny_pyIter_range (IsRange.new ..) (small_one (by decide) (by decide) h3 h4) ?_
  have J : Inv X pins σ H { s with heap := s.heap.push { cls := .type "range", data := .fields #[.int 0 t, .int hi u, .int 1 v] }, toks := tk } := I.kept fun b o e => Heap.get?_push_of_some _ e
  refine ⟨_, [(s.heap.push { cls := .type "range", data := .fields #[.int 0 t, .int hi u, .int 1 v] }).objs.size], _, _, H, rfl, J.kept (t' := tk) fun b o e => Heap.get?_push_of_some _ e, turnSR _ 0 hi.toNat, ?_, fun b hb => ?_, q⟩
  · have e2 : ((hi.toNat : Nat) : Int) - ((0 : Nat) : Int) = Builtin.Range.rangeSize 0 hi 1 := by rw [rangeSize_one]; split <;> omega
    show IsRangeIter _ _ (0 + ((0 : Nat) : Int) * 1) (((hi.toNat : Nat) : Int) - ((0 : Nat) : Int)) 1
    rw [show (0 : Int) + ((0 : Nat) : Int) * 1 = 0 from by simp, e2]
    exact Heap.get?_push_size _ rfl
  · obtain rfl : b = (s.heap.push { cls := .type "range", data := .fields #[.int 0 t, .int hi u, .int 1 v] }).objs.size := by simpa using hb
    exact J.fpOk (Nat.le_refl _) (J.hok.fresh (Nat.le_refl _))
theorem pisR {a : Expr} {ta : TA} {p pos : Pos} (hg : Gl X "range") (hm : X.mg "range" = none) (ha : PA X [a] ta) (hs : starEach [a] X.env = [(false, eval a X.env)] := by rfl) : PIS X tg (.Call (.Name "range" p) [a] [] pos) (iRng1 ta) := by
  constructor
  intro pins s σ H R I h
  refine Call_ (ld_blt I hg hm boot_range (PyProof.Rows.callWith_type1 (thn (ha.run pos pins s σ H _ I h) fun us s1 hh => ?_) hs rfl))
  obtain ⟨vs, H1, I1, r1, j, e, q1, q2, q⟩ := hh
  subst e
  cases r1 with
  | cons r rr =>
    cases rr
    obtain ⟨t, rfl⟩ := r
    exact call_range_1 (rangeItS I1 q1 q2 q)
/-- [elt for target in iter if ..], wherever loops may end -/
theorem lcSCore {pins : List (Addr × Obj)} {s : Shared} {σ : L2.St} {H : Hp} {Q : VK} {elt iter : Expr} {ifs : List Expr} {scope : Scope} {own : List (Str × Nat)} {pos pos' : Pos} {wi : TI} {g : TG} {tt : TT} {te : TE} {Qf : Value → Shared → Prop}
    (hsd : ∀ s H fp ce, Blk X s H fp → Sd (X.blk s H scope ce fp)) (hN : X.N.Nodup) (I : Inv X pins σ H s) (hi : PIS X tg iter wi) (ok : BlkOk X.N X.env.scope scope own)
    (hg : ∀ (s : Shared) (H : Hp) (C : Addr) (cl : List (Str × Addr)) (fp : List Addr), PG (X.blk s H scope (compEnvC scope cl C X.env) fp) tg g) (ht : ∀ (s : Shared) (H : Hp) (C : Addr) (cl : List (Str × Addr)) (fp : List Addr), PTs (X.blk s H scope (compEnvC scope cl C X.env) fp) ifs tt)
    (he : ∀ (s : Shared) (H : Hp) (C : Addr) (cl : List (Str × Addr)) (fp : List Addr), Blk X s H fp → PE (X.blk s H scope (compEnvC scope cl C X.env) fp) elt te) (hs : ∀ x, foldedSetIterable iter X.env x = pure x) (h : tLc wi g tt te (own.map (·.2)) σ H Q)
    (fin : ∀ D C s' m H', Inv X pins σ H' s' → Q (.ref D) H' → s'.heap.Ns C m → FpOk X pins H' C → compPost (model X.prog X.w) X.A X.xe none Qf (.ref D) C (.ok .next) s') :
    wpAny (model X.prog X.w) X.A (comprehension (.ListComp elt [⟨tg, iter, ifs, 0⟩] scope pos) scope X.env pos' (newList []) false (eval iter X.env) none) Qf X.xe s := by
  have captured : ∀ y ∈ scope.names, y.2 = .free → ∃ c, X.env.cells.lookup y.1 = some c := fun y hy e => (ok.free y hy e).elim (fun k => I.ok.has _ (.inl k)) fun k => I.ok.has _ (.inr k)
  refine wpAny_comprehension_free (use := none) rfl hs (closure_ok captured) ok.kind (fun y hy e => by rw [ok.uniq y hy, e]) (thn (hi.run pins s σ H _ I h) fun xv s1 hx => thn hx fun itv s2 h2 => ?_)
  obtain ⟨it, fp, tn, J, H2, e, I2, T, st2, f2, q⟩ := h2
  subst e
  refine wpAny_newObj_type (newEnv_comp ?_) (by show 0 ≤ sizeLine; decide)
  generalize hD : s2.heap.objs.size = D
  obtain ⟨W, ⟨m0, w0⟩, turn⟩ := q D (I2.hok.fresh (Nat.le_of_eq hD))
  generalize hs3 : ({ s2 with heap := s2.heap.push { cls := .type "list", data := .seq ([] : List Value).toArray } } : Shared) = s3
  have I3 : Inv X pins σ (upd H2 D (.lst [])) s3 := by
    rw [← hs3]
    refine I2.laid (t' := s2.toks) (fun b o e => Heap.get?_push_of_some _ e) (Nat.le_of_eq hD) ⟨Nat.zero_le _, [], 0, .nil, ?_⟩
    rw [← hD]
    exact Heap.get?_push_size _ rfl
  have h3 : s3.heap = s2.heap.push { cls := .type "list", data := .seq ([] : List Value).toArray } := by rw [← hs3]
  have f3 : ∀ b ∈ fp, FpOk X pins (upd H2 D (.lst [])) b ∧ b < s3.heap.objs.size := fun b hb => by
    obtain ⟨o, e, _⟩ := T.obj _ _ st2 b hb
    have lt := Heap.lt_size e
    refine ⟨⟨(upd_ne (by rw [← hD]; exact Nat.ne_of_lt lt)).trans (f2 b hb).1, (f2 b hb).2⟩, ?_⟩
    rw [h3, Heap.size_push]
    exact Nat.lt_succ_of_lt lt
  have st3 : tn 0 s3.heap := T.keep _ _ _ st2 fun b _ o e => by rw [h3]; exact Heap.get?_push_of_some _ e
  have I4 := block_start I3 ok hN f3
  have blk : Blk X s3 (upd H2 D (.lst [])) fp := ⟨pins, σ, I3, fun b hb => (f3 b hb).1⟩
  have pg := hg s3 (upd H2 D (.lst [])) s3.heap.objs.size (cellsFrom (s3.heap.objs.size + 1) scope.names (cloFrom X.env.cells scope.names [])) fp
  have pt := ht s3 (upd H2 D (.lst [])) s3.heap.objs.size (cellsFrom (s3.heap.objs.size + 1) scope.names (cloFrom X.env.cells scope.names [])) fp
  have pe := he s3 (upd H2 D (.lst [])) s3.heap.objs.size (cellsFrom (s3.heap.objs.size + 1) scope.names (cloFrom X.env.cells scope.names [])) fp blk
  have sd := hsd s3 (upd H2 D (.lst [])) fp (compEnvC scope (cellsFrom (s3.heap.objs.size + 1) scope.names (cloFrom X.env.cells scope.names [])) s3.heap.objs.size X.env) blk
  show codeAny _ _ (.compStart (.ListComp elt [⟨tg, iter, ifs, 0⟩] scope pos) 0 (.ref it) (.ref D) (compEnvC scope (cellsFrom (s3.heap.objs.size + 1) scope.names (cloFrom X.env.cells scope.names [])) s3.heap.objs.size X.env)) (compPost (model X.prog X.w) X.A X.xe none Qf (.ref D) s3.heap.objs.size) { s3 with heap := pushCells (s3.heap.push { cls := .type "dict", data := .dict #[] }) scope.names }
  have nfp : ∀ b ∈ fp, (upd H2 D (.lst [])) b = none := fun b hb => (f3 b hb).1.1
  generalize hce : compEnvC scope (cellsFrom (s3.heap.objs.size + 1) scope.names (cloFrom X.env.cells scope.names [])) s3.heap.objs.size X.env = ce at I4 pg pt pe sd ⊢
  have cL : ce.locals = s3.heap.objs.size := by subst hce; rfl
  generalize hH3 : upd H2 D (.lst []) = H3 at I3 I4 pg pt pe sd w0 nfp f3
  generalize hs4 : ({ s3 with heap := pushCells (s3.heap.push { cls := .type "dict", data := .dict #[] }) scope.names } : Shared) = s4 at I4 ⊢
  have st4 : tn 0 s4.heap := T.keep _ _ _ st3 fun b _ o e => by rw [← hs4]; exact pushCells_keeps _ _ _ _ (Heap.get?_push_of_some _ e)
  have stat : ∀ {σ' : L2.St} {H' : Hp} {s' : Shared}, Inv (X.blk s3 H3 scope ce fp) [] σ' H' s' → (∀ b ∈ fp, H' b = none) → ∀ b ∈ fp, FpOk (X.blk s3 H3 scope ce fp) [] H' b := fun {σ' H' s'} J hn b hb =>
    ⟨hn b hb, (J.ok.exf b hb).1, J.ok.exfs b hb, .inl hb, fun x c e => (J.ok.exf b hb).2 x c e, fun p hp => absurd (show p ∈ ([] : List (Addr × Obj)) ++ [] from hp) (by simp)⟩
  have loop : codeAny (model X.prog X.w) X.A (.compLoop (.ListComp elt [⟨tg, iter, ifs, 0⟩] scope pos) 0 (.ref it) (.ref D) ce) (compPost (model X.prog X.w) X.A X.xe none Qf (.ref D) s3.heap.objs.size) s4 := by
    refine compLoop_any (fun n s' => ∃ i H', Inv (X.blk s3 H3 scope ce fp) [] (wipe σ (own.map (·.2))) H' s' ∧ tn i s'.heap ∧ (∀ b ∈ fp, H' b = none) ∧ W i n H') ?_ m0 ⟨0, H3, I4, st4, nfp, w0⟩
    rintro n s5 ⟨i, H5, I5, st5, n5, w5⟩
    rcases turn i n H5 w5 with ⟨stop, qq⟩ | ⟨go, Nx, hNx, step⟩
    · refine thnF (T.done (X.blk s3 H3 scope ce fp) rfl rfl rfl sd i [] s5 _ H5 (fun _ _ => False) I5 (stat I5 n5) st5 stop) fun r s6 hh => ?_
      obtain ⟨hr, I6⟩ := hh
      subst hr
      have I7 : Inv X pins σ H5 s6 := I3.call' (ch := fp) I6.os I6.base I6.hok I6.bare fun b hb => ⟨(f3 b hb).1.2.2.2.1, (f3 b hb).1.2.1, (f3 b hb).1.2.2.2.2.1, (f3 b hb).1.2.2.2.2.2⟩
      have nC : H5 s3.heap.objs.size = none := by rw [← cL]; exact I6.free
      obtain ⟨m, hn, _⟩ := I6.loc
      have hn : s6.heap.Ns ce.locals m := hn
      rw [cL] at hn
      exact fin D s3.heap.objs.size s6 m H5 I7 qq hn (I3.fpOk (Nat.le_refl _) nC)
    · refine thnF (T.item (X.blk s3 H3 scope ce fp) rfl rfl rfl i [] s5 _ H5 (fun _ _ => False) I5 (stat I5 n5) st5 go) fun r s6 hh => ?_
      obtain ⟨u, hr, h6⟩ := hh
      subst hr
      refine thnF h6 fun _ s7 hh7 => ?_
      obtain ⟨x, H7, I7, r7, y7, st7, n7⟩ := hh7
      have P7 := I7.pinned (stat I7 n7) (T.obj _ _ st7)
      refine thnF (pg.run _ s7 _ H7 x u _ P7 r7 (step x H7 y7)) fun _ s8 hh8 => ?_
      obtain ⟨σ8, H8, I8, hw8, q8⟩ := hh8
      refine thnF (pt.run _ s8 σ8 H8 _ I8 q8) fun b s9 hh9 => ?_
      obtain ⟨H9, I9, q9⟩ := hh9
      have again : ∀ {s' : Shared} {H' : Hp}, Inv (X.blk s3 H3 scope ce fp) ([] ++ pinsAt fp s7.heap) σ8 H' s' → Nx H' → ∃ m, m < n ∧ ∃ i H', Inv (X.blk s3 H3 scope ce fp) [] (wipe σ (own.map (·.2))) H' s' ∧ tn i s'.heap ∧ (∀ b ∈ fp, H' b = none) ∧ W i m H' := fun {s' H'} J nx => by
        obtain ⟨m', hm, w'⟩ := hNx H' nx
        have stays : ∀ b ∈ fp, ∀ o, s7.heap.get? b = some o → s'.heap.get? b = some o ∧ H' b = none := fun b hb o e => by
          have z := J.pin (b, o) (List.mem_append_right _ (List.mem_append_right _ (mem_pinsAt hb e)))
          exact ⟨z.1, z.2.1⟩
        refine ⟨m', hm, i + 1, H', (J.unpinned (pins := [])).weak (by rw [← hw8, wipe_length]) (fun j v e => ?_), T.keep _ _ _ st7 fun b hb o e => (stays b hb o e).1, fun b hb => ?_, w'⟩
        · rw [← hw8] at e
          exact (wipe_some e).1
        · obtain ⟨o, e, _⟩ := T.obj _ _ st7 b hb
          exact (stays b hb o e).2
      cases b with
      | false =>
        simp only [Bool.false_eq_true, if_false] at q9 ⊢
        exact again I9 q9
      | true =>
        simp only [if_true] at q9 ⊢
        refine thnF (pe.run _ s9 σ8 H9 _ I9 q9) fun z s10 hh10 => ?_
        obtain ⟨yv, H10, I10, r10, acc, hD10, hz10, nx⟩ := hh10
        exact app_ok (X := X.blk s3 H3 scope ce fp) I10 hD10 hz10 r10 fun s11 I11 => again I11 nx
  exact codeAny_compStart_list loop (T.self X.A 0 _ _ _ st4 loop)
theorem pe_lcS {elt iter : Expr} {ifs : List Expr} {scope : Scope} {own : List (Str × Nat)} {pos : Pos} {wi : TI} {g : TG} {tt : TT} {te : TE} (hsd : ∀ s H fp ce, Blk X s H fp → Sd (X.blk s H scope ce fp)) (hN : X.N.Nodup) (hi : PIS X tg iter wi) (ok : BlkOk X.N X.env.scope scope own)
    (hg : ∀ (s : Shared) (H : Hp) (C : Addr) (cl : List (Str × Addr)) (fp : List Addr), PG (X.blk s H scope (compEnvC scope cl C X.env) fp) tg g) (ht : ∀ (s : Shared) (H : Hp) (C : Addr) (cl : List (Str × Addr)) (fp : List Addr), PTs (X.blk s H scope (compEnvC scope cl C X.env) fp) ifs tt)
    (he : ∀ (s : Shared) (H : Hp) (C : Addr) (cl : List (Str × Addr)) (fp : List Addr), Blk X s H fp → PE (X.blk s H scope (compEnvC scope cl C X.env) fp) elt te) (hs : ∀ x, foldedSetIterable iter X.env x = pure x := by intro _; rfl) :
    PE X (.ListComp elt [⟨tg, iter, ifs, 0⟩] scope pos) (tLc wi g tt te (own.map (·.2))) := by
  constructor
  intro pins s σ H Q I h
  rw [eval_ListComp]
  refine lcSCore hsd hN I hi ok hg ht he hs h fun D C s' m H' J q hn f => ⟨m, hn, fun h'' sb => ?_⟩
  obtain ⟨f0, f1, f2, f3, f4, f5⟩ := f
  exact ⟨.ref D, H', J.turned (t' := s'.toks) (fun b o hb e => (sb.2 b hb).trans e) f0 f1 f3 f4 f5, rfl, q⟩
end
end U

namespace U
open PySem L2 PySem.Spec PyProof.Rows
/-! ### lambdas kept as values -/
structure LamD where
  q : Str
  params : Arguments
  body : Expr
  scope : Scope
  clo : List (Str × Addr)
/-- at f: the function object of such a lambda, its code object at c' -/
def LamO (f c' : Addr) (L : LamD) : HO := .ext fun h => ∃ pm ctv, h.get? f = some (PySem.W.kla_obj "<lambda>" L.q L.params L.body L.scope L.clo pm c' ctv)
def LamAt (H : Hp) (f : Addr) (L : LamD) : Prop := ∃ c', H f = some (LamO f c' L) ∧ H c' = some (LamX.CodeO c' L.q)
theorem LamAt.same {H H' : Hp} {f : Addr} {L : LamD} (x : LamAt H f L) (s : Same H H') : LamAt H' f L := by
  obtain ⟨c', h1, h2⟩ := x
  exact ⟨c', s _ _ h1, s _ _ h2⟩
theorem LamAt.but {H H' : Hp} {f : Addr} {L : LamD} (x : LamAt H f L) (s : ∀ b o, (∀ xs, o ≠ .lst xs) → (∀ ps, o ≠ .tbl ps) → H b = some o → H' b = some o) : LamAt H' f L := by
  obtain ⟨c', h1, h2⟩ := x
  refine ⟨c', s _ _ (fun xs z => ?_) (fun xs z => ?_) h1, s _ _ (fun xs z => ?_) (fun xs z => ?_) h2⟩ <;> (first | (unfold LamO at z; cases z) | (unfold LamX.CodeO at z; cases z))
theorem lamO_ok {P : Program} {w : World} {H : Hp} {h : Heap} {f c' : Addr} {L : LamD} {pm ctv : Value} (e : h.get? f = some (PySem.W.kla_obj "<lambda>" L.q L.params L.body L.scope L.clo pm c' ctv)) : ObjOk P w H h f (LamO f c' L) :=
  ⟨⟨pm, ctv, e⟩, ⟨_, e⟩, fun h1 h2 z k => by
    obtain ⟨a, b, q⟩ := z
    exact ⟨a, b, k _ q⟩⟩
/-- what the making of a lambda asks and leaves -/
def tLamE (T : List (Addr × Str)) (L : LamD) : TE := fun _ H Q => LamX.Tabs T H ∧ ∀ H1 f, LamX.ExtN H H1 → LamX.Tabs T H1 → H f = none → LamAt H1 f L → Q (.ref f) H1
theorem pe_lam {X : Cx} {T : List (Addr × Str)} {c P : Addr} {params : Arguments} {body : Expr} {scope : Scope} {pos : Pos} (TB : LamX.TabB X.base X.mg c P) (hcode : X.env.code = .ref c) (hm : (P, X.env.qual ++ "<lambda>") ∈ T) (hu : ∀ p ∈ T, p.1 = P → p.2 = X.env.qual ++ "<lambda>")
    (hdef : defaultsOf params X.env = ([], []) := by rfl) (S : LamX.LamS X.env.scope scope := by exact LamX.lamS_by (by decide +kernel)) :
    PE X (.Lambda params body scope pos) (tLamE T ⟨X.env.qual ++ "<lambda>", params, body, scope, cloFrom X.env.cells scope.names []⟩) := by
  constructor
  intro pins s σ H Q I h
  obtain ⟨hT, h⟩ := h
  obtain ⟨ps, hP, ht, ha⟩ := hT _ hm
  have hfree := S.has I.ok
  refine PySem.W.kla_eval hdef ?_
  have bP : s.heap.BuiltinsAt X.mg P := TB.bm.keeps I.bk
  have gP : s.heap.get? P = some { cls := .none, data := .fields ps } := I.hok P _ hP
  -- the object is laid and tracked
  have fin : ∀ {h' : Heap} {tk : Nat} {H1 : Hp} {c' : Addr} {ctv : Value}, Inv X pins σ H1 { s with heap := h', toks := tk } → s.heap.objs.size ≤ h'.objs.size → LamX.ExtN H H1 → LamX.Tabs T H1 → H1 c' = some (LamX.CodeO c' (X.env.qual ++ "<lambda>")) →
      EP X pins σ Q (.ref h'.objs.size) { s with heap := h'.push (PySem.W.kla_obj "<lambda>" (X.env.qual ++ "<lambda>") params body scope (cloFrom X.env.cells scope.names []) ((X.mg "__name__").getD .none) c' ctv), toks := tk } := by
    intro h' tk H1 c' ctv J sz ext tabs hc
    have new : H1 h'.objs.size = none := J.hok.fresh (Nat.le_refl _)
    have J2 := J.laid (t' := tk) (a := h'.objs.size) (o := LamO h'.objs.size c' ⟨X.env.qual ++ "<lambda>", params, body, scope, cloFrom X.env.cells scope.names []⟩) (h' := h'.push (PySem.W.kla_obj "<lambda>" (X.env.qual ++ "<lambda>") params body scope (cloFrom X.env.cells scope.names []) ((X.mg "__name__").getD .none) c' ctv))
      (fun b o e => Heap.get?_push_of_some _ e) (Nat.le_refl _) (lamO_ok (Heap.get?_push_size _ rfl))
    have up : ∀ b o, H1 b = some o → upd H1 h'.objs.size (LamO h'.objs.size c' ⟨X.env.qual ++ "<lambda>", params, body, scope, cloFrom X.env.cells scope.names []⟩) b = some o := fun b o e => (upd_ne (ne_of_none e new)).trans e
    refine ⟨.ref h'.objs.size, _, J2, rfl, h _ _ (fun b o e n => up b o (ext b o e n)) (tabs.ext up) (I.hok.fresh sz) ⟨c', upd_same, up _ _ hc⟩⟩
  cases hc : codeAmong pos ps.toList with
  | none =>
    refine PySem.W.kla_makeFunction (mg := X.mg) (c := c) (P := P) (ps := ps) (closure_ok hfree) I.ok.glob (I.mod.glob.keeps I.bk) hcode (TB.code.keeps I.bk) gP ht hc TB.gP bP fun c' ctv h' tk hx hge hlt hrec htb => ?_
    obtain ⟨c2, oc, vs, t, e2, hoc, hd, hv⟩ := hrec
    cases e2
    have nC : H c' = none := I.hok.fresh hge
    have J := LamX.inv_table (t' := tk) (more := #[rawInt pos.line, rawInt pos.col, .ref c']) (h' := h') I hP (fun b o hb e => hx b o hb e) htb hge ⟨oc, vs, t, hoc, hd, hv⟩
    have ext : LamX.ExtN H (upd (upd H P (.tbl (ps ++ #[rawInt pos.line, rawInt pos.col, .ref c']))) c' (LamX.CodeO c' (X.env.qual ++ "<lambda>"))) := fun b o e n => by
      rw [upd_ne (ne_of_none e nC), upd_ne (fun z => n ps (Option.some.inj (e.symm.trans (by rw [z]; exact hP))))]
      exact e
    have el : (ps ++ #[rawInt pos.line, rawInt pos.col, .ref c']).toList = ps.toList ++ [rawInt pos.line, rawInt pos.col, .ref c'] := by simp
    refine fin (c' := c') J (Nat.le_trans hge (Nat.le_of_lt hlt)) ext (fun p hp => ?_) upd_same
    by_cases hb : p.1 = P
    · rw [hu p hp hb, hb]
      refine ⟨_, by rw [upd_ne (ne_of_none hP nC), upd_same], by rw [el]; exact PySem.TriplesOk_snoc _ _ _ _ ht, fun p' cv hcv => ?_⟩
      rw [el] at hcv
      rcases LamX.among_app _ ht hcv with z | z
      · obtain ⟨c0, e1, e2⟩ := ha p' cv z
        exact ⟨c0, e1, ext _ _ e2 LamX.codeO_ne⟩
      · exact ⟨c', z, upd_same⟩
    · obtain ⟨ps', a1, a2, a3⟩ := hT p hp
      refine ⟨ps', (upd_ne (ne_of_none a1 nC)).trans ((upd_ne hb).trans a1), a2, fun p' cv hcv => ?_⟩
      obtain ⟨c0, e1, e2⟩ := a3 p' cv hcv
      exact ⟨c0, e1, ext _ _ e2 LamX.codeO_ne⟩
  | some cv =>
    obtain ⟨c', e, hco⟩ := ha pos cv hc
    subst e
    refine PySem.W.kla_makeFunctionHit (mg := X.mg) (c := c) (P := P) (ps := ps) (closure_ok hfree) I.ok.glob (I.mod.glob.keeps I.bk) hcode (TB.code.keeps I.bk) gP ht hc bP fun ctv h' tk hx hsz => ?_
    exact fin (c' := c') (tk := tk) (I.kept (t' := tk) hx) hsz (LamX.ExtN.refl H) hT hco
/-! ### called later: the cells that it reads stand -/
/-- these objects stand, out of the reach of what is tracked and of the frames that run -/
def Kept (B : List (Addr × Obj)) (outer : List Env) (s : Shared) (H : Hp) : Prop := ∀ p ∈ B, s.heap.get? p.1 = some p.2 ∧ H p.1 = none ∧ p.1 ∉ frs outer
/-- B has the cells of X, with what the slots hold -/
structure CellsIn (X : Cx) (σ : L2.St) (B : List (Addr × Obj)) : Prop where
  all : ∀ y c, X.env.cells.lookup y = some c → ∃ (o : Obj) (v : Option Value), (c, o) ∈ B ∧ o.data = .cell v
  slot : ∀ (i : Nat) (y : Str) (v : V) (c : Addr), X.N[i]? = some y → σ[i]? = some (some v) → Vis X.env.scope y → X.env.cells.lookup y = some c → X.env.kindOf y ≠ some .local → ∃ (o : Obj) (u : Value), (c, o) ∈ B ∧ o.data = .cell (some u) ∧ RelV v u
def mkCells (l : List (Str × Addr)) (h : Heap) : List (Addr × Obj) := l.filterMap fun p => (h.get? p.2).map fun o => (p.2, o)
theorem mem_mkCells {l : List (Str × Addr)} {h : Heap} {y : Str} {c : Addr} {o : Obj} (hm : (y, c) ∈ l) (e : h.get? c = some o) : (c, o) ∈ mkCells l h := List.mem_filterMap.mpr ⟨(y, c), hm, by show (h.get? c).map _ = _; rw [e]; rfl⟩
theorem of_mkCells {l : List (Str × Addr)} {h : Heap} {p : Addr × Obj} (hp : p ∈ mkCells l h) : ∃ y, (y, p.1) ∈ l ∧ h.get? p.1 = some p.2 := by
  obtain ⟨q, hq, e⟩ := List.mem_filterMap.mp hp
  cases z : h.get? q.2 with
  | none => rw [z] at e; cases e
  | some o =>
    rw [z] at e
    cases e
    exact ⟨q.1, hq, z⟩
section
variable {X : Cx} {pins : List (Addr × Obj)} {σ : L2.St} {H : Hp} {s : Shared}
theorem lookup_of_mem {l : List (Str × Addr)} (nd : (l.map (·.1)).Nodup) {y : Str} {c : Addr} (h : (y, c) ∈ l) : l.lookup y = some c := by
  induction l with
  | nil => cases h
  | cons p l ih =>
    obtain ⟨z, d⟩ := p
    rw [List.lookup_cons]
    rw [List.map_cons, List.nodup_cons] at nd
    rcases List.mem_cons.mp h with e | h
    · cases e
      simp
    · have ne : (y == z) = false := by
        refine Bool.eq_false_iff.mpr fun q => nd.1 ?_
        rw [← (beq_iff_eq.mp q : y = z)]
        exact List.mem_map_of_mem (f := (·.1)) h
      rw [ne]
      exact ih nd.2 h
theorem cells_in (I : Inv X pins σ H s) : CellsIn X σ (mkCells X.env.cells s.heap) := by
  refine ⟨fun y c e => ?_, fun i y v c e1 e2 e3 e4 nl => ?_⟩
  · obtain ⟨v, o, ho, hd⟩ := I.cell y c e
    exact ⟨o, v, mem_mkCells (PySem.mem_of_lookup e) ho, hd⟩
  · obtain ⟨m, hn, hl⟩ := I.loc
    obtain ⟨u, r, lk⟩ := hl i y v e1 e2 e3
    rcases lk with ⟨k, _⟩ | ⟨_, c', e', o, ho, hd⟩
    · exact absurd k nl
    · rw [e4] at e'
      cases e'
      exact ⟨o, u, mem_mkCells (PySem.mem_of_lookup e4) ho, hd, r⟩
theorem cells_kept (I : Inv X pins σ H s) (nd : (X.env.cells.map (·.1)).Nodup) (hf : ∀ y c, X.env.cells.lookup y = some c → X.s_0.heap.objs.size ≤ c) : Kept (mkCells X.env.cells s.heap) X.stack s H := fun p hp => by
  obtain ⟨y, hy, e⟩ := of_mkCells hp
  have lk := lookup_of_mem nd hy
  refine ⟨e, I.freeC y _ lk, fun hs => ?_⟩
  rcases List.mem_cons.mp (I.stkSub _ hs) with z | z
  · exact I.cne y _ lk z
  · obtain ⟨_, o, ho, _⟩ := I.ok.funs.mem z
    exact absurd (Nat.lt_of_lt_of_le (Heap.lt_size ho) (hf y _ lk)) (Nat.lt_irrefl _)
/-- within a def, and within a block of it, they still stand -/
def KeptX (B : List (Addr × Obj)) (X : Cx) : Prop := ∀ (pins : List (Addr × Obj)) (σ : L2.St) (H : Hp) (s : Shared), Inv X pins σ H s → Kept B X.stack s H
theorem kept_def {B : List (Addr × Obj)} (k : Kept B X.outer X.s_0 X.H_0) (hex : X.ex = []) (hs : X.stack = X.env :: X.outer) : KeptX B X := fun pins σ H s I p hp => by
  obtain ⟨e, n, nf⟩ := k p hp
  have no : p.1 ∉ X.ex := by rw [hex]; simp
  refine ⟨I.base.keep p.1 p.2 e n nf no, I.base.free p.1 p.2 e n no, fun hm => ?_⟩
  rcases List.mem_cons.mp (I.stkSub _ hm) with z | z
  · have h1 := I.ok.above
    rw [← z] at h1
    exact absurd (Nat.lt_of_lt_of_le (Heap.lt_size e) h1) (Nat.lt_irrefl _)
  · exact nf z
theorem kept_blk {B : List (Addr × Obj)} {s1 : Shared} {H1 : Hp} {scope : Scope} {ce : Env} {fp : List Addr} (k : KeptX B X) (k0 : Kept B X.outer X.s_0 X.H_0) (hex : X.ex = []) (b : Blk X s1 H1 fp) : KeptX B (X.blk s1 H1 scope ce fp) := fun pins σ H s J p hp => by
  obtain ⟨pn, τ, I, hf⟩ := b
  obtain ⟨e, n, nf⟩ := k pn τ H1 s1 I p hp
  have no : p.1 ∉ fp := fun hx => by
    rcases (hf p.1 hx).2.2.2.1 with z | z
    · rw [hex] at z; cases z
    · exact absurd (Nat.lt_of_lt_of_le (Heap.lt_size (k0 p hp).1) z) (Nat.lt_irrefl _)
  exact ⟨J.base.keep p.1 p.2 e n nf no, J.base.free p.1 p.2 e n no, nf⟩
end
end U

namespace U
open PySem L2 PySem.Spec PyProof.Rows
/-! ### how a call ends: told, or an error of the package with what it keeps -/
inductive Oc
  | told (z : Str)
  | bad (i : Nat) (z : Str)
def fX (k : Nat) : Str := if k = 6 ∨ k = 7 ∨ k = 8 ∨ k = 9 ∨ k = 10 ∨ k = 11 ∨ k = 17 then "index" else "given"
def ocP (K : PySem.W.Frag) (c : Nat → Addr) : Oc → XK → Hp → VK → Prop
  | .told z, _, H, Q => ∀ v H', Same H H' → Vw K H' v z → Q v H'
  | .bad i z, E, H, _ => ∀ d y H', Same H H' → H' d = some (.xd [(fX i, y)]) → Vw K H' y z → E (.ref (c i)) (some d) H'
/-- what stands at f may be called so -/
structure Act (P : Program) (w : World) (K : PySem.W.Frag) (mg : Str → Option Value) (base : Heap) (c : Nat → Addr) (k : Nat) (B : List (Addr × Obj)) (H0 : Hp) (f : Addr) (oc : Oc) : Prop where
  lam : ∃ L, LamAt H0 f L
  run : ∀ (A : Around) (outer : List Env) (s : Shared) (H : Hp) (Q : VK) (E : XK), A.guards = some [] → Room k A → Env0 P w K mg base A outer s H → Kept B outer s H → Same H0 H → ocP K c oc E H Q →
    codeAny (model P w) A (.call (.ref f) ⟨[], []⟩) (CR (L2N.CX P w) outer P w H s Q E) s
theorem Act.same {P : Program} {w : World} {K : PySem.W.Frag} {mg : Str → Option Value} {base : Heap} {c : Nat → Addr} {k : Nat} {B : List (Addr × Obj)} {H0 H1 : Hp} {f : Addr} {oc : Oc} (x : Act P w K mg base c k B H0 f oc) (s : Same H0 H1) : Act P w K mg base c k B H1 f oc := by
  obtain ⟨⟨L, h⟩, r⟩ := x
  exact ⟨⟨L, h.same s⟩, fun A outer s' H Q E hg hr e0 hk sm h => r A outer s' H Q E hg hr e0 hk (s.trans sm) h⟩
/-! ### the lambda's body, entered later -/
abbrev lamEnvN (L : LamD) (l f c' : Addr) : Env := PySem.W.envX L.q L.scope l f (.ref c') L.clo
def lamCxN (X : Cx) (A : Around) (outer : List Env) (s : Shared) (H : Hp) (E : XK) (L : LamD) (f c' : Addr) : Cx where
  prog := X.prog
  w := X.w
  K := X.K
  mg := X.mg
  base := X.base
  A := A.deeper (lamEnvN L s.heap.objs.size f c')
  N := X.N
  s_0 := s
  H_0 := H
  env := lamEnvN L s.heap.objs.size f c'
  outer := outer
  stack := lamEnvN L s.heap.objs.size f c' :: outer
  ex := []
  fn := fun _ => false
  calm := true
  pn := []
  xe := fun e s' => wpAny (model X.prog X.w) (A.deeper (lamEnvN L s.heap.objs.size f c')) (leaving (lamEnvN L s.heap.objs.size f c') e) (fun _ s'' => L2N.CX X.prog X.w outer H s E e s'') (fun e' s'' => L2N.CX X.prog X.w outer H s E e' s'') s'
/-- what is known of a lambda written in the def of X -/
structure LamSpec (X : Cx) (k : Nat) (L : LamD) (tb : XK → TE) : Prop where
  q : L.clo = cloFrom X.env.cells L.scope.names []
  S : LamX.LamS X.env.scope L.scope
  bind : ∀ pm cv ctv, bindArgs (PySem.W.kla_fn "<lambda>" L.q L.params L.body L.scope L.clo pm cv ctv) ⟨[], []⟩ = pure []
  body : ∀ (A : Around) (outer : List Env) (s : Shared) (H : Hp) (E : XK) (f c' : Addr), (A.deeper (lamEnvN L s.heap.objs.size f c')).guards = some [] → Room k (A.deeper (lamEnvN L s.heap.objs.size f c')) → PE (lamCxN X A outer s H E L f c') L.body (tb E)
section
variable {X : Cx} {pins : List (Addr × Obj)} {σ : L2.St} {H HZ : Hp} {s s1 : Shared}
theorem clo_of {L : LamD} (q : L.clo = cloFrom X.env.cells L.scope.names []) (S : LamX.LamS X.env.scope L.scope) (ok : X.Ok) {y : Str} {c : Addr} (e : L.clo.lookup y = some c) : X.env.cells.lookup y = some c := by
  rw [q] at e
  rcases cloFrom_mem (PySem.mem_of_lookup e) with hm | ⟨h1, h2⟩
  · cases hm
  · obtain ⟨c1, hc⟩ := S.has ok _ h1 rfl
    have hc : X.env.cells.lookup y = some c1 := hc
    have e2 : c = c1 := by
      rw [h2, hc] <;> rfl
    rw [e2]
    exact hc
theorem lamStart {A : Around} {outer : List Env} {E : XK} {L : LamD} {f c' : Addr} {B : List (Addr × Obj)} {h₁ : Heap} {tk : Nat} (ok : X.Ok) (len : σ.length = X.N.length) (q : L.clo = cloFrom X.env.cells L.scope.names []) (S : LamX.LamS X.env.scope L.scope) (e0 : Env0 X.prog X.w X.K X.mg X.base A outer s1 HZ)
    (hd : A.handled = none) (ci : CellsIn X σ B) (kp : Kept B outer s1 HZ) (hns : h₁.Ns s1.heap.objs.size fun y => ([] : List (Str × Value)).reverse.lookup y) (up : ∀ b o, s1.heap.get? b = some o → h₁.get? b = some o) :
    Inv (lamCxN X A outer s1 HZ E L f c') [] σ HZ { s1 with heap := h₁, toks := tk } := by
  have free_ : ∀ y ∈ L.scope.names, y.2 = .free → ∃ c, X.env.cells.lookup y.1 = some c := S.has ok
  have back : ∀ {y c}, L.clo.lookup y = some c → X.env.cells.lookup y = some c := fun e => clo_of q S ok e
  have look : ∀ {y}, L.scope.names.lookup y = some .free → ∃ c, L.clo.lookup y = some c := fun {y} hl => by
    have hy : (y, NameKind.free) ∈ L.scope.names := PySem.mem_of_lookup hl
    rw [q]
    exact mem_lookup (cloFrom_has (cells := X.env.cells) (acc := []) hy)
  have none_ : ∀ b : Addr, b ∉ (lamCxN X A outer s1 HZ E L f c').ex := fun b z => absurd (show b ∈ ([] : List Addr) from z) (by simp)
  refine ⟨⟨e0.mod, S.kind, rfl, rfl, Nat.le_refl _, fun y z c a b => ok.inj y z c (back a) (back b), fun y hy => ?_, fun y c z _ => ?_, fun _ => hd, Around.frames_deeper e0.frames, .inr ⟨rfl, rfl⟩, fun b z => absurd z (none_ b), e0.bs, e0.bsz, fun b _ _ => none_ b,
      fun b z => absurd z (none_ b), e0.funs, e0.frf⟩, rfl, e0.bare, Un.kept up, ⟨_, hns, fun i y v a b vis => ?_⟩, fun y c e => ?_, e0.hok.fresh (Nat.le_refl _), fun y c e => ?_, fun p hp => absurd (show p ∈ ([] : List (Addr × Obj)) ++ [] from hp) (by simp), e0.hok.kept up, len⟩
  · have hy : L.scope.names.lookup y = some .cell ∨ L.scope.names.lookup y = some .free := hy
    rcases hy with hy | hy
    · exact absurd rfl (S.own _ (PySem.mem_of_lookup hy)).2
    · exact look hy
  · have z : false = true := z
    cases z
  · have vis : Vis L.scope y := vis
    rcases vis with k | k | k
    · exact absurd rfl (S.own _ (PySem.mem_of_lookup k)).1
    · exact absurd rfl (S.own _ (PySem.mem_of_lookup k)).2
    · obtain ⟨c2, h2⟩ := look k
      have c1 := back h2
      have kinds := S.free _ (PySem.mem_of_lookup k) rfl
      have hvis : Vis X.env.scope y := kinds.elim (fun k => .inr (.inl k)) (fun k => .inr (.inr k))
      have nl : X.env.kindOf y ≠ some .local := fun z => by
        have z : X.env.scope.names.lookup y = some .local := z
        rcases kinds with k2 | k2 <;> rw [show X.env.scope.names.lookup y = _ from k2] at z <;> cases z
      obtain ⟨o, u, hm, hd', ru⟩ := ci.slot i y v c2 a b hvis c1 nl
      exact ⟨u, ru, .inr ⟨.inr k, c2, h2, o, up _ _ (kp _ hm).1, hd'⟩⟩
  · obtain ⟨o, v, hm, hd'⟩ := ci.all y c (back e)
    exact ⟨v, o, up _ _ (kp _ hm).1, hd'⟩
  · obtain ⟨o, v, hm, _⟩ := ci.all y c (back e)
    exact (kp _ hm).2.1
/-- a lambda of the def of X, as X stands now, may be called later -/
theorem act_of {c : Nat → Addr} {k : Nat} {L : LamD} {tb : XK → TE} {f : Addr} {oc : Oc} (Z : LamSpec X k L tb) (I : Inv X pins σ H s) (x : LamAt H f L) (h : ∀ E HZ Q, Same H HZ → ocP X.K c oc E HZ Q → tb E σ HZ Q) :
    Act X.prog X.w X.K X.mg X.base c (k + 1) (mkCells X.env.cells s.heap) H f oc := by
  refine ⟨⟨L, x⟩, fun A outer s1 HZ Q E hg hr e0 kp sm hoc => ?_⟩
  obtain ⟨c', x1, x2⟩ := x.same sm
  have ho : ObjOk X.prog X.w HZ s1.heap f (.ext fun h => ∃ pm ctv, h.get? f = some (PySem.W.kla_obj "<lambda>" L.q L.params L.body L.scope L.clo pm c' ctv)) := e0.hok f _ x1
  obtain ⟨⟨pm, ctv, of1⟩, _, _⟩ := ho
  have hc : ObjOk X.prog X.w HZ s1.heap c' (.ext fun h => ∃ (oc : Obj) (vs : Array Value) (t : Tok), h.get? c' = some oc ∧ oc.data = .fields vs ∧ vs[1]? = some (.str L.q t)) := e0.hok c' _ x2
  obtain ⟨⟨oo, vs, t, hoc', hdc, hvc⟩, _, _⟩ := hc
  have lim : s1.heap.NoLimit := e0.mod.nolimit.keeps fun b o e => (e0.bs b o e).1
  refine PySem.W.kla_callFunE hr.depth of1 rfl Z.S.co Z.S.gen rfl ⟨c', oo, vs, t, rfl, hoc', hdc, hvc⟩ ?_
  rw [Z.bind]
  refine wpAny_pure (wpAny_newFunctionEnv (fun y hy => (Z.S.own y hy).2) (fun y hy => absurd hy (by simp)) (fun h₁ hns hsb => ⟨lim.fresh _ hsb, ?_⟩) Z.S.kind)
  show codeAny _ _ (.expr L.body (lamEnvN L s1.heap.objs.size f c')) _ _
  have up : ∀ b o, s1.heap.get? b = some o → h₁.get? b = some o := fun b o e => hsb.extBut b o (Nat.ne_of_lt (Heap.lt_size e)) (Heap.get?_push_of_some _ e)
  have J := lamStart (E := E) (L := L) (f := f) (c' := c') (tk := s1.toks + ([] : List (Str × Value)).length) I.ok I.len Z.q Z.S e0 hr.hd (cells_in I) kp hns up
  refine PySem.W.kla_codeExpr (wpAny_mono ((Z.body A outer s1 HZ E f c' hg (hr.deeper _)).run [] _ _ HZ Q J (h E HZ Q sm hoc)) (fun v s' hq => ?_) fun e s' hq => hq)
  obtain ⟨w', H', J', rv, qq⟩ := hq
  exact ⟨w', H', J'.os, J'.bare, J'.base, J'.hok, rv, qq⟩
end
/-- x(), x a local name that holds such a thing -/
def tAct (P : Program) (w : World) (K : PySem.W.Frag) (mg : Str → Option Value) (base : Heap) (c : Nat → Addr) (k i : Nat) (B : List (Addr × Obj)) (E : L2.St → XK) : TE := fun σ H Q => ∃ f oc, σ[i]? = some (some (.ref f)) ∧ Act P w K mg base c k B H f oc ∧ ocP K c oc (E σ) H Q
theorem pe_actN {X : Cx} {c : Nat → Addr} {k j i : Nat} {B : List (Addr × Obj)} {E : L2.St → XK} {a : Str} {p1 p2 : Pos} (kx : KeptX B X) (hg : X.A.guards = some []) (hr : Room j X.A) (hk : k ≤ j) (hx : ∀ σ, PassesAt (L2N.CX X.prog X.w) X σ (E σ)) (hN : X.N[i]? = some a) (hv : Vis X.env.scope a)
    (hd : (a == ("__debug__" : Str)) = false := by decide) (hcd : (a == ("__classdict__" : Str)) = false := by decide) : PE X (.Call (.Name a p1) [] [] p2) (tAct X.prog X.w X.K X.mg X.base c k i B E) := by
  constructor
  intro pins s σ H Q I h
  obtain ⟨f, oc, hs, hA, hoc⟩ := h
  refine wpAny_Call_Name_kw (thn ((pe_var (pos := p1) (i := i) hN hv hd hcd).run pins s σ H (fun v H1 => v = .ref f ∧ H1 = H) I ⟨.ref f, hs, rfl, rfl⟩) fun u s1 hh => ?_)
  obtain ⟨v, H1, I1, r1, ev, eH⟩ := hh
  subst ev
  subst eH
  obtain rfl : u = Value.ref f := r1
  obtain ⟨L, c', x1, x2⟩ := hA.lam
  have ho : ObjOk X.prog X.w H1 s1.heap f (.ext fun h => ∃ pm ctv, h.get? f = some (PySem.W.kla_obj "<lambda>" L.q L.params L.body L.scope L.clo pm c' ctv)) := I1.hok f _ x1
  obtain ⟨⟨pm, ctv, of1⟩, _, _⟩ := ho
  refine PySem.W.callWith_F0 ⟨_, _, _, _, of1⟩ ?_
  refine wpAny_call (codeAny_mono (hA.run X.A X.stack s1 H1 Q (E σ) hg (hr.mono hk) I1.env0 (kx pins σ H1 s1 I1) (Same.refl _) hoc) fun r s' hq => ?_)
  cases r with
  | error e => exact hx σ pins H1 s1 e s' I1 hq
  | ok fl =>
    cases fl with
    | ret u => exact I1.after hq
    | next => exact (show False from hq).elim
    | brk => exact (show False from hq).elim
    | cont => exact (show False from hq).elim
end U

namespace U
open PySem L2 PySem.Spec PyProof.Rows
/-! ### raise C(e): an own class of the package, its context None -/
theorem xbRaises {X : Cx} {C : Addr} (T : XB X.K C) : Raises X (.ref C) := raises_own T.isBase T.ty
section
variable {X : Cx} {pins : List (Addr × Obj)} {σ : L2.St} {H : Hp} {s : Shared} {C : Addr} {f x : Str} {y : V} {u : Value} {Q : XK}
theorem run_newR (T : XN X.prog X.w X.K X.mg X.base x C f) (hr : Room 2 X.A) (I : Inv X pins σ H s) (ry : RelV y u) (h : ∀ d H', Same H H' → H' d = some (.xd [(f, y)]) → Q (.ref C) (some d) H') :
    wpAny (model X.prog X.w) X.A (call (.ref C) [u]) (L2N.MkP X pins σ Q) X.xe s := by
  obtain ⟨fI, fd, hi, ht, F1, hb, hkb⟩ := T.ex
  obtain ⟨B, newId, initId, bmB, nm, q, N, bs, bm, sn, sub, ab, col, dd, k0, k1, k2, k3, k5, F, SF, lk, tl⟩ := T.b.ex
  obtain ⟨hp, g, dr, tk, os⟩ := s
  have hsz : hp.objs.size ≤ hp.objs.size + 1 := Nat.le_succ _
  have fr : H (hp.objs.size + 1) = none := I.hok.fresh hsz
  have grow : ∀ b o, hp.get? b = some o → ((hp.push (PySem.W.kdv_tup [u])).push (PySem.HandSPX.excO C hp.objs.size)).get? b = some o := fun b o e => Heap.get?_push_of_some _ (Heap.get?_push_of_some _ e)
  have new : ((hp.push (PySem.W.kdv_tup [u])).push (PySem.HandSPX.excO C hp.objs.size)).get? (hp.objs.size + 1) = some (PySem.HandSPX.excO C hp.objs.size) := by heap_get
  have I2 : Inv X pins σ (upd H (hp.objs.size + 1) (exo (hp.objs.size + 1) C none)) ⟨(hp.push (PySem.W.kdv_tup [u])).push (PySem.HandSPX.excO C hp.objs.size), g, dr, tk, os⟩ :=
    I.laid (t' := tk) (a := hp.objs.size + 1) (o := exo (hp.objs.size + 1) C none) (h' := (hp.push (PySem.W.kdv_tup [u])).push (PySem.HandSPX.excO C hp.objs.size)) grow hsz (exo_ok new)
  have prom : spXI X.K f [.ref (hp.objs.size + 1), y] (upd H (hp.objs.size + 1) (exo (hp.objs.size + 1) C none)) (fun v H2 => v = .non ∧ ∃ dx, H dx = none ∧ dx ≠ hp.objs.size + 1 ∧ H2 = upd (upd (upd H (hp.objs.size + 1) (exo (hp.objs.size + 1) C none)) dx (exd dx [(f, y)])) (hp.objs.size + 1) (exo (hp.objs.size + 1) C (some dx))) E0 := by
    refine ⟨_, C, y, rfl, T.b, T.no, upd_same, fun dx n ne => ⟨rfl, dx, ?_, ne, rfl⟩⟩
    rw [upd_ne ne] at n
    exact n
  have r2 : Vals [V.ref (hp.objs.size + 1), y] [Value.ref (hp.objs.size + 1), u] := .cons (show RelV (V.ref _) (Value.ref _) from rfl) (.cons ry .nil)
  have bd : BindsTo ⟨(hp.push (PySem.W.kdv_tup [u])).push (PySem.HandSPX.excO C hp.objs.size), g, dr, tk, os⟩ fd ⟨.ref (hp.objs.size + 1) :: [u], []⟩ ((["self", f] : List Str).zip [Value.ref (hp.objs.size + 1), u]) := hb _ [Value.ref (hp.objs.size + 1), u] I2.kIn rfl
  refine wpAny_call (callOwnK F (fun Y => PySem.W.excTail_contains Y bm tl) (I.kIn _ _ lk) (PySem.W.looks_findIn I.kIn hi) (fun self => PySem.W.bind_fn I.kIn self ht) (by show 1 ≤ sizeLine; decide)
    (codeAny_mono (F1.run _ X.stack _ _ ⟨.ref (hp.objs.size + 1) :: [u], []⟩ [Value.ref (hp.objs.size + 1), u] _ _ E0 (hr.make C [u] []) (I2.env0.make C [u] []) bd r2 prom) fun r s' hq => ?_))
  cases r with
  | error e => exact (show False from hq).elim
  | ok fl =>
    cases fl with
    | ret v =>
      obtain ⟨w', H2, os2, bare2, un2, hok2, rv, ev, dx, nd, ne, eH⟩ := hq
      subst ev
      subst eH
      cases rv
      obtain ⟨h2, g2, d2, t2, os'⟩ := s'
      obtain ⟨t0, G, J, kG, ge, hoe, na⟩ := mk_end0 (d2 := d2) (t2 := t2) I hsz grow un2 hok2 os2 bare2 upd_same (show _ = some (exd dx [(f, y)]) from by rw [upd_ne ne, upd_same]) nd
      refine ⟨rfl, hp.objs.size + 1, _, _, ⟨G, g2, d2, t2, os'⟩, _, .ref C, some dx, rfl, J, kG, ge, hoe, ⟨rfl, rfl, fun vs hv => ?_⟩, rfl, rfl, na, rfl, bare2, xbRaises T.b, h dx _ (fun b o e => ?_) upd_same⟩
      · cases hv
        rfl
      · rw [upd_ne (ne_of_none e nd), del_ne (ne_of_none e fr), upd_ne (ne_of_none e fr), upd_ne (ne_of_none e nd), upd_ne (ne_of_none e fr)]
        exact e
    | next => exact (show False from hq).elim
    | brk => exact (show False from hq).elim
    | cont => exact (show False from hq).elim
def tNewR (C : Addr) (f : Str) (te : TE) : L2.St → Hp → XK → Prop := fun σ H Q => te σ H fun y H1 => ∀ d H', Same H1 H' → H' d = some (.xd [(f, y)]) → Q (.ref C) (some d) H'
theorem pmk_newR {e : Expr} {ta : TE} {p pos : Pos} {j : Nat} (T : XN X.prog X.w X.K X.mg X.base x C f) (hr : Room j X.A) (hk : 2 ≤ j) (he : PE X e ta) (hg : Gl X x := by rfl) (hs : starEach [e] X.env = (false, eval e X.env) :: starEach [] X.env := by rfl) (hdb : (x == ("__debug__" : Str)) = false := by decide) :
    L2N.PMk X (.Call (.Name x p) [e] [] pos) (tNewR C f ta) := by
  intro pins s σ H Q I h
  refine wpAny_Call_Name_kw (ld_glob I hg T.g ?_ hdb)
  refine PySem.W.callWith_K (h₀ := X.base) I.ok.mod.kin T.b.kC ?_ hs (by rfl)
  rw [hs]
  show wpAny _ _ (spliced ((false, eval e X.env) :: backTo pos (starEach [] X.env))) _ _ s
  refine Calls.spliced_cons (thn (he.run pins s σ H _ I h) fun u s1 hh => ?_)
  obtain ⟨y, H1, I1, r1, q1⟩ := hh
  exact Calls.spliced_nil ⟨I1.kIn, run_newR T (hr.mono hk) I1 r1 q1⟩
/-- as a statement -/
theorem ps_raiseN {e : Expr} {ta : TE} {W : WX} {p pos pos2 : Pos} {j : Nat} (tk : L2N.Takes X W) (T : XN X.prog X.w X.K X.mg X.base x C f) (hr : Room j X.A) (hk : 2 ≤ j) (he : PE X e ta) (hc : X.calm = true := by rfl) (hg : Gl X x := by rfl) (hs : starEach [e] X.env = (false, eval e X.env) :: starEach [] X.env := by rfl) (hdb : (x == ("__debug__" : Str)) = false := by decide) :
    PS X (.Raise (some (.Call (.Name x p) [e] [] pos)) none pos2) (fun _ σ H => tNewR C f ta σ H fun cls d H' => W cls d σ H') := L2N.ps_raise hc tk (pmk_newR T hr hk he hg hs hdb)
end
/-- a def that may raise, nothing being handled -/
theorem Fun.okN {P : Program} {w : World} {K : PySem.W.Frag} {mg : Str → Option Value} {base : Heap} {x qual : Str} {st : Stmt} {f : Addr} {fd : FuncData} {N ps : List Str} {k : Nat} {sp : Sp} (F : Fun K x qual st f fd) (S : FnScope N ps (defScope st)) (len : ∀ vs H Q E, sp vs H Q E → vs.length = ps.length)
    (hbody : ∀ (cdv : Value) (A : Around) (outer : List Env) (s : Shared) (H : Hp) (vs : List V) (Q : VK) (E : XK), Room k (A.deeper (envOfC qual (defScope st) s.heap.objs.size f cdv)) → sp vs H Q E →
      ∃ t, PSs (cxOf (L2N.CX P w) P w K mg base N qual (defScope st) f cdv A outer s H E) (defBody st) t ∧ t { nx := fun _ H' => Q .non H', rt := Q } (start N vs) H) : FnOk P w K mg base (L2N.CX P w) (k + 1) f fd ps sp := by
  obtain ⟨oc, od, kV, doc, pm, an, cdv, ct, osl, rfl, lk, hcd⟩ := F.ex
  exact fn_of lk hcd S len fun A outer s H vs Q E hr hsp => hbody cdv A outer s H vs Q E hr hsp
/-- what the context of such a def lets out -/
theorem takesN {P : Program} {w : World} {K : PySem.W.Frag} {mg : Str → Option Value} {base : Heap} {N : List Str} {qual : Str} {scope : Scope} {f : Addr} {cdv : Value} {A : Around} {outer : List Env} {s : Shared} {H : Hp} {E : XK} :
    L2N.Takes (cxOf (L2N.CX P w) P w K mg base N qual scope f cdv A outer s H E) (fun cls d _ H => E cls d H) := L2N.takes_of rfl rfl rfl rfl
theorem passN {X : Cx} {E : XK} (tk : L2N.Takes X (fun cls d _ H => E cls d H)) : Passes (L2N.CX X.prog X.w) X E := fun _ σ _ _ e s' I c => tk e s' (L2N.XE.of_call I (fun cls d H' h => h) c)
/-- a def that raises nothing, where others may -/
theorem FnOk.toN {P : Program} {w : World} {K : PySem.W.Frag} {mg : Str → Option Value} {base : Heap} {k : Nat} {f : Addr} {fd : FuncData} {ps : List Str} {sp : Sp} (F : FnOk P w K mg base CX0 k f fd ps sp) : FnOk P w K mg base (L2N.CX P w) k f fd ps sp :=
  ⟨F.len, fun A outer s H args us vs Q E hr e0 hb r h => codeAny_mono (F.run A outer s H args us vs Q E hr e0 hb r h) fun rr s' hq => by
    cases rr with
    | error e => exact (show False from hq).elim
    | ok fl => cases fl <;> exact hq⟩
end U

namespace U
open PySem L2 PySem.Spec PyProof.Rows
/-! ### except (A, B, C) as n: the exception is one of the three -/
def wAs3N (K : PySem.W.Frag) (c1 c2 c3 : Value) (i : Nat) (ts : Addr → Value → Option Addr → TS) (D : Ends) : WX := fun cls d σ H => PySem.W.exmAny K cls [c1, c2, c3] = some true ∧ ∀ a, H a = none →
  ts a cls d { nx := fun τ G => D.nx (τ.set i none) G, rt := D.rt, bk := fun τ G => D.bk (τ.set i none) G, ct := fun τ G => D.ct (τ.set i none) G } (σ.set i (some (.ref a))) H
theorem flying_onN {B : Heap} {l : List Env} {a : Addr} {Z : Obj → Prop} {h h' : Heap} (k : ∀ b o, h.get? b = some o → h'.get? b = some o) (f : HandSPX.FlyingZ B l a Z h) : HandSPX.FlyingZ B l a Z h' := by
  obtain ⟨g1, g2, g3, oe, vs, T, oT, ts, e1, z, d, v1, bT, nT, eT, dT, v3⟩ := f
  exact ⟨fun b o e => k b o (g1 b o e), g2, g3.of_keeps fun b o e _ => ⟨o, k b o e, rfl⟩, oe, vs, T, oT, ts, k _ _ e1, z, d, v1, bT, nT, k _ _ eT, dT, v3⟩
section
variable {X : Cx} {x1 x2 x3 n : Str} {c1 c2 c3 : Value} {i kk : Nat} {body suite : List Stmt} {b₀ : Stmt} {p1 p2 p3 pt pos pos' : Pos} {tb : WX → TS} {ts : Addr → Value → Option Addr → TS}
theorem ps_try_as3N (hs : X.stack = X.env :: X.outer) (hf : X.env.frame = some X.env.locals) (hN : X.N.Nodup) (hi : X.N[i]? = some n) (hln : X.env.kindOf n = some .local) (q1 : Names X x1 c1) (q2 : Names X x2 c2) (q3 : Names X x3 c3)
    (hb : ∀ (W : WX) (pn : List (Addr × Obj)) (xe : Value → Shared → Prop), L2N.Takes (X.tr pn xe) W → PassesOwn (model X.prog X.w) X.A X.env xe → PSs (X.tr pn xe) body (tb W))
    (hsu : ∀ (a : Addr) (oe : Obj) (cls : Value) (d : Option Addr) (pn : List (Addr × Obj)), L2N.Zn cls d oe → (∃ vs, oe.data = .fields vs) → PSs (X.suite a ((a, oe) :: pn)) (b₀ :: suite) (ts a cls d)) :
    PS X (.Try body [.ExceptHandler (some (.Tuple [.Name x1 p1, .Name x2 p2, .Name x3 p3] kk pt)) (some n) (b₀ :: suite) pos'] [] [] pos) (fun D σ H => tb (wAs3N X.K c1 c2 c3 i ts D) D σ H) := by
  constructor
  intro pins s σ H D I h
  have ok := I.ok
  have frm : X.A.frames = some (X.env :: X.outer) := by rw [ok.frames, hs]
  refine wpAny_Try_except ?_
  refine wpAny_mono ((hb (wAs3N X.K c1 c2 c3 i ts D) (X.pn ++ pins) (fun e s₁ => wpAny (model X.prog X.w) X.A (noteFrame e X.env) (fun _ s₂ => wpAny (model X.prog X.w) X.A (setFlight e none) (fun _ s₃ =>
    wpAny (model X.prog X.w) X.A (handleBy e X.env [.ExceptHandler (some (.Tuple [.Name x1 p1, .Name x2 p2, .Name x3 p3] kk pt)) (some n) (b₀ :: suite) pos']) (SP X pins D) X.xe s₃) X.xe s₂) X.xe s₁) (fun u s' xx => ?_) PassesOwn.looking).run [] s σ H D (I.toTry _) h) (fun f s1 hsp => ?_) (fun e s1 he => he)
  · obtain ⟨a, B, sI, pins', τ, G, cls, d, rfl, J0, nb, up, sky, na, os, ag, any, suit⟩ := xx
    have J : Inv X pins τ G sI := J0.ofTry ok
    rw [show (X.tr (X.pn ++ pins) _).stack = X.env :: X.outer from hs] at sky
    show wpAny _ _ (noteFrame (.ref a) X.env) _ _ _
    refine L2N.Sky.land L2N.Zn.steady frm hf sky fun h3 fl3 up3 => ?_
    have J3 : Inv X pins τ G { s' with heap := h3 } := J.landed nb fl3.1 (up.trans up3) os ag
    obtain ⟨oe, vs, _, _, _, he, hz, hd, _⟩ := id fl3.2.2.2
    have apart : ∀ {g : Heap} {o : Obj} {ws : Array Value}, g.FunFrames B (X.env :: X.outer) → g.get? a = some o → o.data = .fields ws → a ∉ frs (X.env :: X.outer) := fun {g o ws} ff e dd m => by
      obtain ⟨_, o', e', no⟩ := ff.mem m
      rw [e] at e'
      cases e'
      exact no _ dd
    have out := apart fl3.2.2.1 he hd
    have nL : a ≠ X.env.locals := fun z => out (List.mem_filterMap.mpr ⟨X.env, List.mem_cons_self, by rw [hf, z]⟩)
    have nF : a ∉ X.fs := fun m => by
      obtain ⟨e, he', q⟩ := List.mem_filterMap.mp m
      exact out (List.mem_filterMap.mpr ⟨e, List.mem_cons_of_mem _ he', q⟩)
    have S3 := J3.suite he hd na nL nF
    have one : ∀ {x : Str} {c : Value} {p : Pos} {Q : Value → Shared → Prop} {E : Value → Shared → Prop}, Names X x c → Q c { s' with heap := h3 } → wpAny (model X.prog X.w) (X.A.mark (some (.ref a))) (eval (.Name x p) X.env) Q E { s' with heap := h3 } := fun {x c p Q E} nm q => by
      obtain ⟨hg, hdbg, hm | ⟨hm, hv, hnn⟩⟩ := nm
      · exact ld_glob (X := X.suite a ((a, oe) :: (X.pn ++ pins))) S3 hg hm q hdbg
      · exact ld_blt (X := X.suite a ((a, oe) :: (X.pn ++ pins))) S3 hg hm hv q hnn hdbg
    refine wpAny_handleBy_cons (codeAny_handlers_test ?_) (by intro q; cases q)
    refine wpAny_Tuple_spliced (args_cons (one q1 (args_cons (one q2 (args_cons (one q3 (args_nil ⟨by show 3 ≤ sizeLine; decide, ?_⟩)) (by rfl))) (by rfl))) (by rfl))
    have kp : ∀ b o, h3.get? b = some o → (h3.push { cls := .type "tuple", data := .seq [c1, c2, c3].toArray }).get? b = some o := fun b o e => Heap.get?_push_of_some _ e
    have LT : PySem.W.Looks (model X.prog X.w) (h3.push { cls := .type "tuple", data := .seq [c1, c2, c3].toArray }) (typeOf (.ref a)) cls := fun A Q E s k q => wpAny_typeOf_ref (k _ _ (kp _ _ he)) (by rw [hz.1]; exact q)
    have KI : X.K.In (h3.push { cls := .type "tuple", data := .seq [c1, c2, c3].toArray }) := J3.kIn.keeps kp
    refine (PySem.W.exm_tup3 KI LT (Heap.get?_push_size h3 rfl) any).here ?_
    have fl5 := flying_onN kp fl3
    refine codeAny_handlers_suite_as ?_
    refine HandSPX.lands_againZ fl5 fun h4 fl4 up4 => ?_
    have J4 : Inv X pins τ G { s' with heap := h4 } := J.landed nb fl4.1 (((up.trans up3).trans (.of_keeps kp)).trans up4) os ag
    obtain ⟨oe4, vs4, _, _, _, he4, hz4, hd4, _⟩ := id fl4.2.2.2
    have S4 := J4.suite he4 hd4 na nL nF
    refine store_ok (X := X.suite a ((a, oe4) :: (X.pn ++ pins))) (v := .ref a) S4 hN hi (.inl hln) rfl (fun s5 S5 => ?_) (.inr hln)
    refine wpAny_mono ((hsu a oe4 cls d (X.pn ++ pins) hz4 ⟨_, hd4⟩).run [] s5 _ G _ S5 (suit a na)) (fun f s6 hsp => ?_) (fun _ _ z => False.elim z)
    have done : ∀ {τ6 : L2.St} {G6 : Hp} {Q : Shared → Prop}, Inv (X.suite a ((a, oe4) :: (X.pn ++ pins))) [] τ6 G6 s6 → (∀ s7, Inv X pins (τ6.set i none) G6 s7 → Q s7) →
        wpAny (model X.prog X.w) X.A (do bindName X.env n .none; unbindBehindTheSuite X.env n pos') (fun _ s7 => Q s7) X.xe s6 := fun {τ6 G6 Q} S6 hq => gone_ok (S6.unsuite ok) hN hi hln hq
    cases f with
    | next => obtain ⟨τ6, G6, S6, q6⟩ := hsp; exact done S6 fun s7 J7 => ⟨_, _, J7, q6⟩
    | brk => obtain ⟨τ6, G6, S6, q6⟩ := hsp; exact done S6 fun s7 J7 => ⟨_, _, J7, q6⟩
    | cont => obtain ⟨τ6, G6, S6, q6⟩ := hsp; exact done S6 fun s7 J7 => ⟨_, _, J7, q6⟩
    | ret u => obtain ⟨v6, τ6, G6, S6, r6, q6⟩ := hsp; exact done S6 fun s7 J7 => ⟨_, _, _, J7, r6, q6⟩
  · cases f with
    | next => obtain ⟨τ, G, J, q⟩ := hsp; exact wpAny_execs_nil ⟨τ, G, J.ofTry ok, q⟩
    | brk => obtain ⟨τ, G, J, q⟩ := hsp; exact ⟨τ, G, J.ofTry ok, q⟩
    | cont => obtain ⟨τ, G, J, q⟩ := hsp; exact ⟨τ, G, J.ofTry ok, q⟩
    | ret u => obtain ⟨v, τ, G, J, r, q⟩ := hsp; exact ⟨v, τ, G, J.ofTry ok, r, q⟩
end
end U

namespace U
open PySem L2
/-! ### lists of truth values held against one another -/
theorem beq_dec {α : Type} [BEq α] [LawfulBEq α] [DecidableEq α] (x y : α) : (x == y) = decide (x = y) := by
  by_cases h : x = y
  · subst h; simp
  · simp [h]
theorem lay_map {α : Type} {f : α → PyData} : ∀ {l : List α}, (∀ x ∈ l, (f x).canLay0 = true) → PyData.canLayAll0 (l.map f) = true
  | [], _ => by simp only [List.map_nil, PyData.canLayAll0]
  | x :: l, h => by
    rw [List.map_cons]
    simp only [PyData.canLayAll0]
    rw [h x List.mem_cons_self, lay_map fun y hy => h y (List.mem_cons_of_mem _ hy)]; rfl
theorem depth_map {α : Type} {f : α → PyData} {c : Nat} : ∀ {l : List α}, (∀ x ∈ l, (f x).depth ≤ c) → PyData.depthAll (l.map f) ≤ c
  | [], _ => by simp only [List.map_nil, PyData.depthAll]; exact Nat.zero_le _
  | x :: l, h => by
    rw [List.map_cons]
    simp only [PyData.depthAll]
    exact Nat.max_le.mpr ⟨h x List.mem_cons_self, depth_map fun y hy => h y (List.mem_cons_of_mem _ hy)⟩
theorem eqv_map {α : Type} [DecidableEq α] {f : α → PyData} (h : ∀ x y, PyData.eqv (f x) (f y) = decide (x = y)) : ∀ l l' : List α, PyData.eqvAll (l.map f) (l'.map f) = decide (l = l')
  | [], [] => by simp [PyData.eqvAll]
  | [], _ :: _ => by simp [PyData.eqvAll]
  | _ :: _, [] => by simp [PyData.eqvAll]
  | x :: l, y :: l' => by
    rw [List.map_cons, List.map_cons]
    simp only [PyData.eqvAll]
    rw [h, eqv_map h l l']
    simp [List.cons.injEq, Bool.decide_and]
def dBools (bs : List Bool) : PyData := .list (bs.map PyData.bool)
theorem eqv_bools (a b : List Bool) : PyData.eqv (dBools a) (dBools b) = decide (a = b) := by
  unfold dBools
  simp only [PyData.eqv]
  exact eqv_map (fun x y => by simp only [PyData.eqv]; exact beq_dec x y) a b
theorem dBools_lay (bs : List Bool) : (dBools bs).canLay0 = true ∧ (dBools bs).depth ≤ 60 := by
  unfold dBools
  simp only [PyData.canLay0, PyData.depth]
  refine ⟨lay_map fun x _ => by simp only [PyData.canLay0], ?_⟩
  have := depth_map (f := PyData.bool) (c := 0) (l := bs) fun x _ => by simp only [PyData.depth]; exact Nat.le_refl 0
  omega
theorem dpBools {K : PySem.W.Frag} {H : Hp} {a : Addr} {bs : List Bool} (h : H a = some (.lst (bs.map V.bl))) : Dp K H (.ref a) (dBools bs) := by
  refine .lst (SqL.of h) ?_
  clear h
  induction bs with
  | nil => exact .nil
  | cons b bs ih => exact .cons (.bl b) ih
end U

namespace U
open PySem L2 PySem.Spec PyProof.Rows
/-! ### what an except suite asks of its exception -/
theorem zn_inst {a D d : Addr} {cls : Value} {dd : Option Addr} {oe od : Obj} {h : Heap} (hz : L2N.Zn cls dd oe) (hf : ∃ vs, oe.data = .fields vs) (ec : cls = .ref D) (ed : dd = some d) (ha : h.get? a = some oe) (ho : h.get? d = some od) : PySem.W.InstAt h a oe D (some od) := by
  subst ec
  subst ed
  obtain ⟨vs, hv⟩ := hf
  exact ⟨ha, hz.1, by unfold PySem.W.notCls; rw [hv] <;> rfl, by rw [hz.2.1]; exact ho⟩
def rIsS (K : PySem.W.Frag) (a : Addr) (cls : Value) (dd : Option Addr) : List V → Hp → VK → Prop := fun xs H Q => ∃ (c : V) (cv : Value) (b : Bool) (D d : Addr) (fs : List (Str × V)), xs = [.ref a, c] ∧ cls = .ref D ∧ dd = some d ∧ H d = some (.xd fs) ∧ XB K D ∧ XQ K ∧ (∀ u, RelV c u → u = cv) ∧ PySem.W.kitOne K (.ref D) cv = some b ∧ Q (.bl b) H
theorem isS {X : Cx} {a : Addr} {cls : Value} {dd : Option Addr} {oe : Obj} {pn : List (Addr × Obj)} (K : PySem.W.Frag) (hz : L2N.Zn cls dd oe) (hf : ∃ vs, oe.data = .fields vs) (h : X.K = K := by rfl) : CallR (X.suite a ((a, oe) :: pn)) (.builtin "isinstance") (rIsS K a cls dd) := by
  subst h
  intro pins s σ H xs us Q I r h
  obtain ⟨c, cv, b, D, d, fs, rfl, ec, ed, hd, T, Z, hcv, e, q⟩ := h
  cases r with
  | cons rx rr =>
    cases rr with
    | cons rt rr =>
      cases rr
      cases rx
      have eq := hcv _ rt
      subst eq
      obtain ⟨hget, _⟩ := I.pin (a, oe) (List.mem_append.mpr (.inl List.mem_cons_self))
      have hx : ObjOk X.prog X.w H s.heap d (.xd fs) := I.hok d _ hd
      obtain ⟨mA, hns, hr⟩ := hx
      obtain ⟨od, ho, hl⟩ := lookIn_ns hns
      have J := zn_inst hz hf ec ed hget ho
      exact PySem.W.kia_one (kitEx (ox := oe) (od := some od) T Z) I.kIn J e (fun z => nomatch z) fun tk => ⟨.bl b, H, I.kept (t' := tk) fun _ _ z => z, rfl, q⟩
def tFs (K : PySem.W.Frag) (a : Addr) (cls : Value) (dd : Option Addr) (f : Str) (te : TE) : TE := fun σ H Q => te σ H fun x H1 => ∃ (D d : Addr) (fs : List (Str × V)) (v : V), x = .ref a ∧ cls = .ref D ∧ dd = some d ∧ H1 d = some (.xd fs) ∧ XB K D ∧ PySem.W.findIn K (.ref D) f = some none ∧ fs.lookup f = some v ∧ Q v H1
theorem pe_fs {X : Cx} {a : Addr} {cls : Value} {dd : Option Addr} {oe : Obj} {pn : List (Addr × Obj)} (K : PySem.W.Frag) {e : Expr} {te : TE} {pos : Pos} {n : Str} (hz : L2N.Zn cls dd oe) (hf : ∃ vs, oe.data = .fields vs) (he : PE (X.suite a ((a, oe) :: pn)) e te) (h : X.K = K := by rfl)
    (hb : attributeBase e n X.env (eval e X.env) = eval e X.env := by rfl) : PE (X.suite a ((a, oe) :: pn)) (.Attribute e n pos) (tFs K a cls dd n te) := by
  subst h
  constructor
  intro pins s σ H Q I h
  refine attr_of hb (thn (he.run pins s σ H _ I h) fun u s1 hh => ?_)
  obtain ⟨x, H1, I1, rx, D, d, fs, v, rfl, ec, ed, hd, T, no, l, q⟩ := hh
  cases rx
  obtain ⟨hget, _⟩ := I1.pin (a, oe) (List.mem_append.mpr (.inl List.mem_cons_self))
  have hx : ObjOk X.prog X.w H1 s1.heap d (.xd fs) := I1.hok d _ hd
  obtain ⟨mA, hns, hr⟩ := hx
  obtain ⟨od, ho, hl⟩ := lookIn_ns hns
  obtain ⟨u, hu, ru⟩ := RelO.some_of (v := v) (o := mA n) (by rw [← l]; exact hr n)
  exact PySem.HandSPX.exc_get I1.kIn (zn_inst hz hf ec ed hget ho) T.ga T.gg T.isBase (PySem.W.findObj_own T.hasD no rfl (by rw [hl, hu])) (handed_of ru) ⟨v, H1, I1.tok _, ru, q⟩
theorem hotS {X : Cx} {a : Addr} {cls : Value} {dd : Option Addr} {oe : Obj} {pn : List (Addr × Obj)} (hz : L2N.Zn cls dd oe) (hf : ∃ vs, oe.data = .fields vs) : L2H.HotC (X.suite a ((a, oe) :: pn)) := by
  obtain ⟨vs, hv⟩ := hf
  exact ⟨(a, oe), ⟨rfl, vs, hv, hz.2.2 vs hv⟩, List.mem_cons_self⟩
/-! ### a promise told of the very state (what stands out of the reach of what is tracked) -/
abbrev SpS := List Env → Shared → Sp
structure FnS (P : Program) (w : World) (K : PySem.W.Frag) (mg : Str → Option Value) (base : Heap) (CX : CXT) (k : Nat) (f : Addr) (fd : FuncData) (ps : List Str) (sp : SpS) : Prop where
  len : ∀ o s vs H Q E, sp o s vs H Q E → vs.length = ps.length
  run : ∀ (A : Around) (outer : List Env) (s : Shared) (H : Hp) (args : Args) (us : List Value) (vs : List V) (Q : VK) (E : XK), A.guards = some [] → Room k A → Env0 P w K mg base A outer s H →
    BindsTo s fd args (ps.zip us) → Vals vs us → sp outer s vs H Q E → codeAny (model P w) A (.call (.ref f) args) (CR CX outer P w H s Q E) s
theorem fnS_of {P : Program} {w : World} {K : PySem.W.Frag} {mg : Str → Option Value} {base : Heap} {CX : CXT} {x qual : Str} {st : Stmt} {f : Addr} {fd : FuncData} {N ps : List Str} {k : Nat} {sp : SpS} (F : Fun K x qual st f fd) (S : FnScope N ps (defScope st))
    (len : ∀ o s vs H Q E, sp o s vs H Q E → vs.length = ps.length)
    (body : ∀ (cdv : Value) (A : Around) (outer : List Env) (s : Shared) (H : Hp) (vs : List V) (Q : VK) (E : XK), (A.deeper (envOfC qual (defScope st) s.heap.objs.size f cdv)).guards = some [] →
      Room k (A.deeper (envOfC qual (defScope st) s.heap.objs.size f cdv)) → sp outer s vs H Q E →
      ∃ t, PSs (cxOf CX P w K mg base N qual (defScope st) f cdv A outer s H E) (defBody st) t ∧ t { nx := fun _ H' => Q .non H', rt := Q } (start N vs) H) : FnS P w K mg base CX (k + 1) f fd ps sp := by
  obtain ⟨oc, od, kV, doc, pm, an, cdv, ct, osl, rfl, lk, hcd⟩ := F.ex
  constructor
  · exact len
  intro A outer s H args us vs Q E hgd hr e0 hb r hsp
  have X0 : K.In s.heap := e0.mod.kin.keeps fun b o e => (e0.bs b o e).1
  have L0 : s.heap.NoLimit := e0.mod.nolimit.keeps fun b o e => (e0.bs b o e).1
  have kinds : ∀ y ∈ ps.zip us, (defScope st).names.lookup y.1 = some .local ∨ ((defScope st).names.lookup y.1 = some .cell ∧ ((cellsFrom (s.heap.objs.size + 1) (defScope st).names []).lookup y.1).isSome = true) := by
    rintro ⟨n, v⟩ hy
    rcases S.par n (List.of_mem_zip hy).1 with q | q
    · exact Or.inl q
    · exact Or.inr ⟨q, PySem.W.cellsFrom_some _ _ _ (Or.inl q)⟩
  refine codeAny_call_function hr.depth (X0 _ _ lk) rfl S.co S.gen rfl (PySem.W.codeRec_of X0 hcd) (hb _ _ _ _ ?_)
  refine wpAny_newFunctionEnv_cells S.kind kinds fun env he s1 x => ?_
  subst he
  refine ⟨L0.keeps x.toInCall.keep, codeAny_func ?_⟩
  obtain ⟨t, ht, hq⟩ := body cdv A outer s H vs Q E hgd (hr.deeper _) hsp
  have I := inv_start (CX := CX) (E := E) S hr.hd e0 (len _ _ _ _ _ _ hsp) r x
  refine wpAny_mono (ht.run [] s1 (start N vs) H _ I hq) (fun fl s' hs => ?_) fun e s' hs => hs
  cases fl with
  | ret u =>
    obtain ⟨v, σ', H', J, rv, q⟩ := hs
    exact ⟨v, H', J.os, J.bare, J.base, J.hok, rv, q⟩
  | next =>
    obtain ⟨σ', H', J, q⟩ := hs
    exact ⟨V.non, H', J.os, J.bare, J.base, J.hok, rfl, q⟩
  | brk =>
    obtain ⟨_, _, _, q⟩ := hs
    exact q.elim
  | cont =>
    obtain ⟨_, _, _, q⟩ := hs
    exact q.elim
structure DefS (P : Program) (w : World) (K : PySem.W.Frag) (mg : Str → Option Value) (base : Heap) (k : Nat) (x : Str) (ps : List Str) (sp : SpS) : Prop where
  ex : ∃ (f : Addr) (fd : FuncData), FnS P w K mg base CX0 k f fd ps sp ∧ mg x = some (.ref f) ∧ PySem.W.keepIn K (.ref f) = true ∧ Binds K fd ps []
/-- its call, by whatever says that the promise's premise holds at the states of X -/
theorem pe_fnS {X : Cx} {k j : Nat} {x : Str} {ps : List Str} {sp : SpS} {e : Expr} {es : List Expr} {t : TA} {p pos : Pos} {R : L2.St → List V → Hp → VK → Prop} (D : DefS X.prog X.w X.K X.mg X.base k x ps sp) (hgd : X.A.guards = some []) (hr : Room j X.A) (hk : k ≤ j)
    (hR : ∀ pins σ H s vs Q, Inv X pins σ H s → R σ vs H Q → sp X.stack s vs H Q E0)
    (ha : PA X (e :: es) t) (hg : Gl X x := by rfl) (hdb : (x == ("__debug__" : Str)) = false := by decide) (he : starEach (e :: es) X.env = (false, eval e X.env) :: starEach es X.env := by rfl) (hpl : (backTo pos (starEach es X.env)).any (·.1) = false := by rfl) :
    PE X (.Call (.Name x p) (e :: es) [] pos) (fun σ H Q => t σ H fun vs H1 => R σ vs H1 Q) := by
  obtain ⟨f, fd, F, hm, hkp, hb⟩ := D.ex
  constructor
  intro pins s σ H Q I h
  refine wpAny_Call_Name_kw (ld_glob I hg hm ?_ hdb)
  refine PySem.W.callWith_K (h₀ := X.base) I.ok.mod.kin hkp (thn (ha.run pos pins s σ H _ I h) fun us s1 hh => ?_) he hpl
  obtain ⟨vs, H1, I1, r, q0⟩ := hh
  have q := hR pins σ H1 s1 vs Q I1 q0
  refine ⟨I1.kIn, ?_⟩
  have hl : us.length = ps.length := by rw [← r.length]; exact F.len _ _ _ _ _ _ q
  have hbd := hb s1 us I1.kIn (by rw [List.append_nil]; exact hl)
  rw [List.append_nil] at hbd
  refine wpAny_call (codeAny_mono (F.run X.A X.stack s1 H1 ⟨us, []⟩ us vs Q E0 hgd (hr.mono hk) I1.env0 hbd r q) fun rr s' hq => ?_)
  cases rr with
  | error e => exact (show False from hq).elim
  | ok fl =>
    cases fl with
    | ret u => exact I1.after hq
    | next => exact (show False from hq).elim
    | brk => exact (show False from hq).elim
    | cont => exact (show False from hq).elim
/-- as pe_actN, the whole named -/
theorem pe_actK (P : Program) (w : World) (K : PySem.W.Frag) (mg : Str → Option Value) (base : Heap) (c : Nat → Addr) (B : List (Addr × Obj)) {X : Cx} {k j i : Nat} {E : L2.St → XK} {a : Str} {p1 p2 : Pos} (kx : KeptX B X) (hg : X.A.guards = some []) (hr : Room j X.A) (hk : k ≤ j) (hx : ∀ σ, PassesAt (L2N.CX X.prog X.w) X σ (E σ)) (hN : X.N[i]? = some a) (hv : Vis X.env.scope a)
    (h1 : X.prog = P := by rfl) (h2 : X.w = w := by rfl) (h3 : X.K = K := by rfl) (h4 : X.mg = mg := by rfl) (h5 : X.base = base := by rfl) (hd : (a == ("__debug__" : Str)) = false := by decide) (hcd : (a == ("__classdict__" : Str)) = false := by decide) :
    PE X (.Call (.Name a p1) [] [] p2) (tAct P w K mg base c k i B E) := by
  subst h1 h2 h3 h4 h5
  exact pe_actN kx hg hr hk hx hN hv hd hcd
/-! ### what is shown stays so -/
theorem sameT {K : PySem.W.Frag} {H H' : Hp} {a : Addr} {xs : List V} (e : Same H H') (h : SqT K H a xs) : SqT K H' a xs := by
  rcases h with (h | ⟨o, h⟩) | h
  · exact .inl (.inl (e _ _ h))
  · exact .inl (.inr ⟨o, e _ _ h⟩)
  · exact .inr h
mutual
theorem DpSame {K : PySem.W.Frag} {H H' : Hp} (s : Same H H') : ∀ (d : PyData) (v : V), Dp K H v d → Dp K H' v d
  | .none, _, h => by cases h; exact .non
  | .bool _, _, h => by cases h; exact .bl _
  | .int _, _, h => by cases h; exact .int _
  | .str _, _, h => by cases h; exact .str _
  | .list ds, _, h => by
    cases h with
    | lst h1 h2 => exact .lst (s.seq h1) (DpAllSame s ds _ h2)
  | .tuple ds, _, h => by
    cases h with
    | tup h1 h2 => exact .tup (sameT s h1) (DpAllSame s ds _ h2)
  | .dict _, _, h => by cases h
theorem DpAllSame {K : PySem.W.Frag} {H H' : Hp} (s : Same H H') : ∀ (ds : List PyData) (vs : List V), DpAll K H vs ds → DpAll K H' vs ds
  | [], _, h => by cases h; exact .nil
  | d :: ds, _, h => by
    cases h with
    | cons h1 h2 => exact .cons (DpSame s d _ h1) (DpAllSame s ds _ h2)
end
theorem vw_same {K : PySem.W.Frag} {H H' : Hp} {v : V} {z : Str} (h : Vw K H v z) (s : Same H H') : Vw K H' v z := by
  rcases h with ⟨d, h1, h2, h3⟩ | ⟨a, ks, e, h1, h2⟩
  · exact .inl ⟨d, DpSame s _ _ h1, h2, h3⟩
  · exact .inr ⟨a, ks, e, s _ _ h1, h2⟩
theorem eqVQ {X : Cx} (K : PySem.W.Frag) (hu : X.A.units + 64 < cLine) (h : X.K = K := by rfl) : OpR X (compareOp .Eq) (rEqV K) := by
  subst h
  exact op_eqV hu
/-! ### lists of pairs of a truth value and a word -/
def Prs (H : Hp) (l : Addr) (ps : List (Bool × Str)) : Prop := ∃ rs : List Addr, H l = some (.lst (rs.map V.ref)) ∧ rs.length = ps.length ∧ ∀ (i : Nat) (r : Addr) (p : Bool × Str), rs[i]? = some r → ps[i]? = some p → H r = some (.lst [.bl p.1, .str p.2])
theorem Prs.same {H H' : Hp} {l : Addr} {ps : List (Bool × Str)} (x : Prs H l ps) (s : Same H H') : Prs H' l ps := by
  obtain ⟨rs, h1, h2, h3⟩ := x
  exact ⟨rs, s _ _ h1, h2, fun i r p e1 e2 => s _ _ (h3 i r p e1 e2)⟩
theorem Prs.cat {H H' : Hp} {l m k : Addr} {ps qs : List (Bool × Str)} (x : Prs H l ps) (y : Prs H m qs) (s : Same H H') (h : ∀ rs ts : List V, H l = some (.lst rs) → H m = some (.lst ts) → H' k = some (.lst (rs ++ ts))) : Prs H' k (ps ++ qs) := by
  obtain ⟨rs, h1, h2, h3⟩ := x
  obtain ⟨ts, g1, g2, g3⟩ := y
  refine ⟨rs ++ ts, by rw [List.map_append]; exact h _ _ h1 g1, by rw [List.length_append, List.length_append, h2, g2], fun i r p e1 e2 => ?_⟩
  by_cases hi : i < rs.length
  · rw [List.getElem?_append_left hi] at e1
    rw [List.getElem?_append_left (by omega)] at e2
    exact s _ _ (h3 i r p e1 e2)
  · rw [List.getElem?_append_right (by omega)] at e1
    rw [List.getElem?_append_right (by omega)] at e2
    rw [h2] at e1
    exact s _ _ (g3 _ r p e1 e2)
theorem prs1 {H : Hp} {l r : Addr} {p : Bool × Str} (h : H l = some (.lst [.ref r])) (h1 : H r = some (.lst [.bl p.1, .str p.2])) : Prs H l [p] := ⟨[r], h, rfl, fun i a q e1 e2 => by
  cases i with
  | zero => cases e1; cases e2; exact h1
  | succ i => cases e1⟩
theorem prs2 {H : Hp} {l r t : Addr} {p q : Bool × Str} (h : H l = some (.lst [.ref r, .ref t])) (h1 : H r = some (.lst [.bl p.1, .str p.2])) (h2 : H t = some (.lst [.bl q.1, .str q.2])) : Prs H l [p, q] := ⟨[r, t], h, rfl, fun i a z e1 e2 => by
  cases i with
  | zero => cases e1; cases e2; exact h1
  | succ i =>
    cases i with
    | zero => cases e1; cases e2; exact h2
    | succ i => cases e1⟩
/-- the words whose truth value says so -/
def said (ps : List (Bool × Str)) : List Str := (ps.filter (·.1)).map (·.2)
theorem said_succ {ps : List (Bool × Str)} {i : Nat} {p : Bool × Str} (h : ps[i]? = some p) : said (ps.take (i + 1)) = said (ps.take i) ++ (if p.1 = true then [p.2] else []) := by
  unfold said
  rw [List.take_succ, h]
  show ((ps.take i ++ [p]).filter (·.1)).map (·.2) = _
  rw [List.filter_append, List.map_append]
  congr 1
  obtain ⟨b, z⟩ := p
  cases b <;> rfl
theorem said_len (ps : List (Bool × Str)) : (said ps).length ≤ ps.length := by
  unfold said
  rw [List.length_map]
  exact List.length_filter_le _ _
end U

namespace U
open PySem L2 PySem.Spec PyProof.Rows
/-! ### a tuple once: the tuple itself -/
theorem tupOnce (l : Addr) (items : Array Value) (n : Nat) (dd : Option Addr) (sl : Array (Option Value)) (u : Tok) :
    Meets (Builtin.«tuple.__mul__» ⟨[.ref l, .int 1 u], []⟩) (fun _ R s => s.heap.get? l = some { cls := .type "tuple", dict := dd, data := .seq items n, slots := sl } ∧ R (.ok (.ret (Value.ref l))) s) :=
  .of_wp fun prog w A R s h => by
    obtain ⟨hp, g, d, tk, os⟩ := s
    obtain ⟨hl, h⟩ := h
    have f1 := AutoSeq1.idx_int
    wp_walk using wpAny_loadPart' hl
    repeat (first
      | (refine wpAny_ite_false (by decide) ?_; wp_walk using wpAny_loadPart' hl)
      | (refine wpAny_ite_true (by simp) ?_; wp_walk using wpAny_loadPart' hl))
    exact ⟨_, rfl, h⟩
def rRepN (K : PySem.W.Frag) : R2 := fun x y H Q => (∃ l xs, x = .ref l ∧ y = .int 1 ∧ SqT K H l xs ∧ Q (.ref l) H) ∨ rRepT K x y H Q
theorem repN {X : Cx} (K : PySem.W.Frag) (h : X.K = K := by rfl) : OpR X (binaryOp .Mult) (rRepN K) := by
  subst h
  intro pins s σ H x y v u Q I rx ry h
  rcases h with ⟨l, xs, rfl, rfl, hT, q⟩ | h
  · cases rx
    obtain ⟨t, rfl⟩ := ry
    obtain ⟨its, r, ⟨⟨cls, dd, data, sl⟩, ho, hc, n, hd⟩, hs⟩ := I.tuple hT
    simp only at hc hd
    subst hc hd
    exact wpAny_binaryOp_repeat_ref (T := "tuple") (U := "int") (by decide) ⟨_, ho, rfl⟩ (fun s' => typeIs_int s' 1 t) noFill_tuple_mul F.fills_int_mul F.slot_int_rmul repeat_tuple F.slot_int_index.lookup
      (call_meets F.slot_int_rmul (typeIs_int s 1 t) F.entry_int_rmul (F.args_int_rmul_2 _ _) (int_rmul_tuple 1 t l its.toArray n dd sl)
        ⟨ho, rfl, ⟨_, ho, rfl⟩, call_meets F.slot_tuple_mul ⟨_, ho, rfl⟩ F.entry_tuple_mul (F.args_tuple_mul_2 _ _) (tupOnce l its.toArray n dd sl t) ⟨ho, .ref l, H, I, rfl, q⟩⟩)
  · exact op_repT pins s σ H x y v u Q I rx ry h
/-! ### held against the empty tuple -/
def rEqNil (K : PySem.W.Frag) : R2 := fun x y H Q => ∃ a b xs, x = .ref a ∧ y = .ref b ∧ SqT K H a xs ∧ SqT K H b [] ∧ Q (.bl xs.isEmpty) H
theorem eqNil {X : Cx} (K : PySem.W.Frag) (hu : X.A.units + 64 < cLine) (h : X.K = K := by rfl) : OpR X (compareOp .Eq) (rEqNil K) := by
  subst h
  intro pins s σ H x y v u Q I rx ry h
  obtain ⟨a, b, xs, rfl, rfl, ha, hb, q⟩ := h
  cases rx
  cases ry
  obtain ⟨its, r, p, _⟩ := I.tuple ha
  obtain ⟨it2, r2, p2, _⟩ := I.tuple hb
  cases r2
  refine SeqAt.eq_tupleAt (e := fun _ => true) p p2 (by omega) (fun j h1 h2 => absurd h2 (by simp)) ?_
  refine ⟨.bl xs.isEmpty, H, I, ?_, q⟩
  have e := r.length
  cases xs with
  | nil => cases r; rfl
  | cons x xs =>
    cases r
    rfl
/-- a list held against the empty list -/
def rNeNil (K : PySem.W.Frag) : R2 := fun x y H Q => ∃ a b xs, x = .ref a ∧ y = .ref b ∧ SqL K H a xs ∧ SqL K H b [] ∧ Q (.bl (!xs.isEmpty)) H
theorem neNil {X : Cx} (K : PySem.W.Frag) (hu : X.A.units + 64 < cLine) (h : X.K = K := by rfl) : OpR X (compareOp .NotEq) (rNeNil K) := by
  subst h
  intro pins s σ H x y v u Q I rx ry h
  obtain ⟨a, b, xs, rfl, rfl, ha, hb, q⟩ := h
  cases rx
  cases ry
  obtain ⟨its, r, p, _⟩ := I.list ha
  obtain ⟨it2, r2, p2, _⟩ := I.list hb
  cases r2
  cases xs with
  | nil =>
    cases r
    exact SeqAt.RcNeAt.lists (e := fun _ => true) p.isList p2.isList rfl (by omega) (fun j h1 h2 => absurd h2 (by simp)) _ _ _ _ ⟨.bl false, H, I, rfl, q⟩
  | cons x xs =>
    cases r
    exact SeqAt.RcNeAt.lists_lengths p.isList p2.isList (by simp) (by omega) _ _ _ _ ⟨.bl true, H, I, rfl, q⟩
end U

namespace U
open PySem L2 PySem.Spec PyProof.Rows
/-! ### a def's own cells stand above what was there -/
theorem cellsUp : ∀ (names : List (Str × NameKind)) (n : Nat) (acc : List (Str × Addr)) (x : Str) (c : Addr), (x, c) ∈ cellsFrom n names acc → (x, c) ∈ acc ∨ n ≤ c
  | [], _, _, _, _, h => .inl h
  | (y, k) :: r, n, acc, x, c, h => by
    unfold cellsFrom at h
    split at h
    · rcases cellsUp r (n + 1) _ x c h with q | q
      · rcases List.mem_cons.mp q with e | e
        · cases e
          exact .inr (Nat.le_refl _)
        · exact .inl e
      · exact .inr (by omega)
    · exact cellsUp r n acc x c h
theorem cellsAt {L : Addr} {sc : Scope} {y : Str} {c : Addr} (h : (cellsFrom (L + 1) sc.names []).lookup y = some c) : L ≤ c := by
  rcases cellsUp _ _ _ _ _ (PySem.mem_of_lookup h) with q | q
  · cases q
  · exact Nat.le_of_succ_le q
/-! ### all stays but the jug at j and the tables -/
def ButT (j : Addr) (H H' : Hp) : Prop := ∀ b o, b ≠ j → H b = some o → (∀ ps, o ≠ .tbl ps) → H' b = some o
theorem ButT.refl {j : Addr} {H : Hp} : ButT j H H := fun _ _ _ e _ => e
theorem ButT.trans {j : Addr} {H H1 H2 : Hp} (a : ButT j H H1) (b : ButT j H1 H2) : ButT j H H2 := fun c o n e t => b c o n (a c o n e t) t
theorem ButT.of {j : Addr} {H H' : Hp} (b : But j H H') : ButT j H H' := fun c o n e _ => b c o n e
theorem ButT.same {j : Addr} {H H' : Hp} (s : Same H H') : ButT j H H' := fun c o _ e _ => s c o e
theorem ButT.ext {j : Addr} {H H' : Hp} (s : LamX.ExtN H H') : ButT j H H' := fun c o _ e t => s c o e t
theorem tabs_but {T : List (Addr × Str)} {H H' : Hp} {j : Addr} (t : LamX.Tabs T H) (b : But j H H') (h : JugAt H j) : LamX.Tabs T H' := fun p hp => by
  obtain ⟨x, y, z, e, _⟩ := h
  obtain ⟨ps, h1, h2, h3⟩ := t p hp
  have off : ∀ {c : Addr} {o : HO}, H c = some o → (∀ xs, o ≠ .lst xs) → c ≠ j := fun {c o} q n w => by
    rw [w, e] at q
    cases q
    exact n _ rfl
  refine ⟨ps, b _ _ (off h1 fun xs z => by cases z) h1, h2, fun pos cv hc => ?_⟩
  obtain ⟨c, e1, e2⟩ := h3 pos cv hc
  refine ⟨c, e1, b _ _ (off e2 fun xs z => ?_) e2⟩
  unfold LamX.CodeO at z
  cases z
/-! ### a def whose code object is named -/
structure FunC (K : PySem.W.Frag) (x qual : Str) (st : Stmt) (f : Addr) (fd : FuncData) (c : Addr) : Prop where
  ex : ∃ (oc : Value) (od : Option Addr) (kV doc pm : Value) (an : Option Addr) (ct : Value) (osl : Array (Option Value)), fd = PySem.W.fnOf x qual (defArgs st) (defBody st) (defScope st) .none kV doc pm an (.ref c) ct ∧ K.lookup f = some ⟨oc, od, .func fd, osl⟩ ∧ PySem.W.codeIn K (.ref c) qual = true
theorem fnG_ofC {P : Program} {w : World} {K : PySem.W.Frag} {mg : Str → Option Value} {base : Heap} {x qual : Str} {st : Stmt} {f c : Addr} {fd : FuncData} {N ps : List Str} {k : Nat} {sp : Sp} (F : FunC K x qual st f fd c) (S : FnScope N ps (defScope st))
    (len : ∀ vs H Q E, sp vs H Q E → vs.length = ps.length)
    (body : ∀ (A : Around) (outer : List Env) (s : Shared) (H : Hp) (vs : List V) (Q : VK) (E : XK), (A.deeper (envOfC qual (defScope st) s.heap.objs.size f (.ref c))).guards = some [] →
      Room k (A.deeper (envOfC qual (defScope st) s.heap.objs.size f (.ref c))) → sp vs H Q E →
      ∃ t, PSs (cxOf CX0 P w K mg base N qual (defScope st) f (.ref c) A outer s H E).nox (defBody st) t ∧ t { nx := fun _ H' => Q .non H', rt := Q } (start N vs) H) : FnG P w K mg base CX0 (k + 1) f fd ps sp := by
  obtain ⟨oc, od, kV, doc, pm, an, ct, osl, rfl, lk, hcd⟩ := F.ex
  refine ⟨len, fun A outer s H args us vs Q E hgd hr e0 hb r hsp => ?_⟩
  have X0 : K.In s.heap := e0.mod.kin.keeps fun b o e => (e0.bs b o e).1
  refine codeAny_call_function hr.depth (X0 _ _ lk) rfl S.co S.gen rfl (PySem.W.codeRec_of X0 hcd) (hb _ _ _ _ ?_)
  refine wpAny_newFunctionEnv_cells S.kind (fun y hy => ?_) fun env he s1 x => ?_
  · obtain ⟨n, v⟩ := y
    rcases S.par n (List.of_mem_zip hy).1 with q | q
    · exact Or.inl q
    · exact Or.inr ⟨q, PySem.W.cellsFrom_some _ _ _ (Or.inl q)⟩
  subst he
  refine ⟨(e0.mod.nolimit.keeps fun b o e => (e0.bs b o e).1).keeps x.toInCall.keep, codeAny_func ?_⟩
  obtain ⟨t, ht, hq⟩ := body A outer s H vs Q E hgd (hr.deeper _) hsp
  refine wpAny_mono (ht.nox.run [] s1 (start N vs) H _ (inv_start (CX := CX0) (E := E) S hr.hd e0 (len _ _ _ _ hsp) r x) hq) (fun fl s' hs => ?_) fun e s' hs => hs
  cases fl with
  | next =>
    obtain ⟨σ', H', J, q⟩ := hs
    exact ⟨V.non, H', J.os, J.bare, J.base, J.hok, rfl, q⟩
  | ret u =>
    obtain ⟨v, σ', H', J, rv, q⟩ := hs
    exact ⟨v, H', J.os, J.bare, J.base, J.hok, rv, q⟩
  | brk =>
    obtain ⟨_, _, _, q⟩ := hs
    exact q.elim
  | cont =>
    obtain ⟨_, _, _, q⟩ := hs
    exact q.elim
end U

namespace U
open PySem L2
/-! ### values of any kind, as trees -/
inductive Tr
  | int (i : Int)
  | bl (b : Bool)
  | non
  | str (x : Str)
  | tup (l : List Tr)
  | lst (l : List Tr)
  | dic
mutual
inductive Rep (H : Hp) : V → Tr → Prop
  | int (i : Int) : Rep H (.int i) (.int i)
  | bl (b : Bool) : Rep H (.bl b) (.bl b)
  | non : Rep H .non .non
  | str (x : Str) : Rep H (.str x) (.str x)
  | tup {a : Addr} {vs : List V} {ts : List Tr} (h : Tu H a vs) (r : RepAll H vs ts) : Rep H (.ref a) (.tup ts)
  | lst {a : Addr} {vs : List V} {ts : List Tr} (h : H a = some (.lst vs)) (r : RepAll H vs ts) : Rep H (.ref a) (.lst ts)
  | dic {a : Addr} {ks : List (Key × V)} (h : H a = some (.dK ks)) : Rep H (.ref a) .dic
inductive RepAll (H : Hp) : List V → List Tr → Prop
  | nil : RepAll H [] []
  | cons {v : V} {t : Tr} {vs : List V} {ts : List Tr} (h : Rep H v t) (r : RepAll H vs ts) : RepAll H (v :: vs) (t :: ts)
end
theorem tu_ext {H H' : Hp} {a : Addr} {xs : List V} (h : Tu H a xs) (s : LamX.ExtN H H') : Tu H' a xs := by
  obtain ⟨o, e, h⟩ := h
  refine ⟨o, s _ _ e fun ps z => ?_, h⟩
  rcases h with h | ⟨r, _, h⟩ <;> (rw [h] at z; cases z)
mutual
theorem Rep.ext {H H' : Hp} (s : LamX.ExtN H H') : ∀ {v : V} (t : Tr), Rep H v t → Rep H' v t
  | _, .int _, h => by cases h; exact .int _
  | _, .bl _, h => by cases h; exact .bl _
  | _, .non, h => by cases h; exact .non
  | _, .str _, h => by cases h; exact .str _
  | _, .tup ts, h => by
    cases h with
    | tup h r => exact .tup (tu_ext h s) (RepAll.ext s ts r)
  | _, .lst ts, h => by
    cases h with
    | lst h r => exact .lst (s _ _ h fun _ z => by cases z) (RepAll.ext s ts r)
  | _, .dic, h => by
    cases h with
    | dic h => exact .dic (s _ _ h fun _ z => by cases z)
theorem RepAll.ext {H H' : Hp} (s : LamX.ExtN H H') : ∀ {vs : List V} (ts : List Tr), RepAll H vs ts → RepAll H' vs ts
  | _, [], h => by cases h; exact .nil
  | _, t :: ts, h => by
    cases h with
    | cons h r => exact .cons (Rep.ext s t h) (RepAll.ext s ts r)
end
theorem Rep.same {H H' : Hp} {v : V} {t : Tr} (h : Rep H v t) (s : Same H H') : Rep H' v t := Rep.ext (.of s) t h
theorem RepAll.same {H H' : Hp} {vs : List V} {ts : List Tr} (h : RepAll H vs ts) (s : Same H H') : RepAll H' vs ts := RepAll.ext (.of s) ts h
theorem RepAll.length {H : Hp} : ∀ {vs : List V} {ts : List Tr}, RepAll H vs ts → vs.length = ts.length
  | _, _, .nil => rfl
  | _, _, .cons _ r => by rw [List.length_cons, List.length_cons, RepAll.length r]
theorem RepAll.get {H : Hp} : ∀ {vs : List V} {ts : List Tr} {i : Nat} {v : V}, RepAll H vs ts → vs[i]? = some v → ∃ t, ts[i]? = some t ∧ Rep H v t
  | _, _, _, _, .nil, e => by simp at e
  | _, _, 0, _, .cons h _, e => by
    rw [List.getElem?_cons_zero] at e
    cases e
    exact ⟨_, rfl, h⟩
  | _, _, i + 1, _, .cons _ r, e => by
    rw [List.getElem?_cons_succ] at e
    obtain ⟨t, h1, h2⟩ := RepAll.get r e
    exact ⟨t, by rw [List.getElem?_cons_succ]; exact h1, h2⟩
theorem RepAll.app {H : Hp} {us : List V} {ss : List Tr} (g : RepAll H us ss) : ∀ {vs : List V} {ts : List Tr}, RepAll H vs ts → RepAll H (vs ++ us) (ts ++ ss)
  | _, _, .nil => g
  | _, _, .cons h r => .cons h (RepAll.app g r)
theorem RepAll.take {H : Hp} : ∀ {vs : List V} {ts : List Tr} (n : Nat), RepAll H vs ts → RepAll H (vs.take n) (ts.take n)
  | _, _, 0, _ => .nil
  | _, _, _ + 1, .nil => .nil
  | _, _, n + 1, .cons h r => .cons h (RepAll.take n r)
theorem RepAll.drop {H : Hp} : ∀ {vs : List V} {ts : List Tr} (n : Nat), RepAll H vs ts → RepAll H (vs.drop n) (ts.drop n)
  | _, _, 0, r => r
  | _, _, _ + 1, .nil => .nil
  | _, _, n + 1, .cons _ r => RepAll.drop n r
def tyT : Tr → String
  | .int _ => "int"
  | .bl _ => "bool"
  | .non => "NoneType"
  | .str _ => "str"
  | .tup _ => "tuple"
  | .lst _ => "list"
  | .dic => "dict"
theorem Rep.tyx {K : PySem.W.Frag} {H : Hp} {v : V} {t : Tr} (h : Rep H v t) : TyX K H v (.type (tyT t)) := by
  cases h with
  | int i => exact .base (.int i)
  | bl b => exact .base (.bl b)
  | non => exact .base .non
  | str x => exact .base (.str x)
  | tup h _ => exact h.tyx
  | lst h _ => exact .base (.lst h)
  | dic h => exact .base (.dK h)
def isTup : Tr → Bool
  | .tup _ => true
  | _ => false
def isInt : Tr → Bool
  | .int _ => true
  | _ => false
theorem kitTup (K : PySem.W.Frag) (t : Tr) : PySem.W.kitOne K (.type (tyT t)) (.type "tuple") = some (isTup t) := by
  have h1 : PySem.W.kitOne K (.type "int") (.type "tuple") = some false := kit_ty (by decide +kernel)
  have h2 : PySem.W.kitOne K (.type "bool") (.type "tuple") = some false := kit_ty (by decide +kernel)
  have h3 : PySem.W.kitOne K (.type "NoneType") (.type "tuple") = some false := kit_ty (by decide +kernel)
  have h4 : PySem.W.kitOne K (.type "str") (.type "tuple") = some false := kit_ty (by decide +kernel)
  have h5 : PySem.W.kitOne K (.type "tuple") (.type "tuple") = some true := kit_ty (by decide +kernel)
  have h6 : PySem.W.kitOne K (.type "list") (.type "tuple") = some false := kit_ty (by decide +kernel)
  have h7 : PySem.W.kitOne K (.type "dict") (.type "tuple") = some false := kit_ty (by decide +kernel)
  cases t <;> assumption
theorem kitInt (K : PySem.W.Frag) (t : Tr) : ∃ b1 b2, PySem.W.kitOne K (.type (tyT t)) (.type "int") = some b1 ∧ PySem.W.kitOne K (.type (tyT t)) (.type "bool") = some b2 ∧ (b1 && !b2) = isInt t := by
  have g : ∀ T b1 b2, T ∈ ["int", "bool", "NoneType", "str", "tuple", "list", "dict"] → (b1 = decide (T = "int" ∨ T = "bool")) → (b2 = decide (T = "bool")) → PySem.W.kitOne K (.type T) (.type "int") = some b1 ∧ PySem.W.kitOne K (.type T) (.type "bool") = some b2 := by
    intro T b1 b2 hT h1 h2
    subst h1 h2
    simp only [List.mem_cons, List.not_mem_nil, or_false] at hT
    rcases hT with rfl | rfl | rfl | rfl | rfl | rfl | rfl <;> exact ⟨kit_ty (by decide +kernel), kit_ty (by decide +kernel)⟩
  cases t with
  | int i => exact ⟨true, false, (g "int" _ _ (by simp) rfl rfl).1, (g "int" _ _ (by simp) rfl rfl).2, rfl⟩
  | bl b => exact ⟨true, true, (g "bool" _ _ (by simp) rfl rfl).1, (g "bool" _ _ (by simp) rfl rfl).2, rfl⟩
  | non => exact ⟨false, false, (g "NoneType" _ _ (by simp) rfl rfl).1, (g "NoneType" _ _ (by simp) rfl rfl).2, rfl⟩
  | str x => exact ⟨false, false, (g "str" _ _ (by simp) rfl rfl).1, (g "str" _ _ (by simp) rfl rfl).2, rfl⟩
  | tup l => exact ⟨false, false, (g "tuple" _ _ (by simp) rfl rfl).1, (g "tuple" _ _ (by simp) rfl rfl).2, rfl⟩
  | lst l => exact ⟨false, false, (g "list" _ _ (by simp) rfl rfl).1, (g "list" _ _ (by simp) rfl rfl).2, rfl⟩
  | dic => exact ⟨false, false, (g "dict" _ _ (by simp) rfl rfl).1, (g "dict" _ _ (by simp) rfl rfl).2, rfl⟩
/-- a weight, a row, a way by the text, of a tree -/
def wgTr : Tr → Bool
  | .int i => decide (0 ≤ i) && decide (i ≤ 1000000000)
  | _ => false
def inTr : Tr → Int
  | .int i => i
  | _ => 0
def rowTr (n : Int) : Tr → Bool
  | .tup ts => decide ((ts.length : Int) = n) && (ts.all wgTr && decide (0 < (ts.map inTr).sum))
  | _ => false
def wayTr (n : Int) : Tr → Bool
  | .tup ts => decide ((ts.length : Int) = n) && ts.all (rowTr n)
  | _ => false
theorem rep_ints {H : Hp} : ∀ {vs : List V} {ts : List Tr}, RepAll H vs ts → ts.all wgTr = true → vs = (ts.map inTr).map V.int
  | _, _, .nil, _ => rfl
  | _, _, .cons (t := t) h r, e => by
    rw [List.all_cons, Bool.and_eq_true] at e
    obtain ⟨e1, e2⟩ := e
    rw [List.map_cons, List.map_cons, ← rep_ints r e2]
    cases t <;> first | (cases h; rfl) | cases e1
end U

namespace U
open PySem L2
/-! ### trees while the jug at j goes on -/
mutual
def trOf : PyData → Tr
  | .none => .non
  | .bool b => .bl b
  | .int i => .int i
  | .str x => .str x
  | .tuple l => .tup (trAll l)
  | .list _ => .dic
  | .dict _ => .dic
def trAll : List PyData → List Tr
  | [] => []
  | d :: ds => trOf d :: trAll ds
end
mutual
theorem Im.rep {H : Hp} : ∀ (d : PyData) (v : V), Im H v d → Rep H v (trOf d)
  | .none, _, h => by cases h; exact .non
  | .bool _, _, h => by cases h; exact .bl _
  | .int _, _, h => by cases h; exact .int _
  | .str _, _, h => by cases h; exact .str _
  | .list _, _, h => by cases h
  | .dict _, _, h => by cases h
  | .tuple ds, _, h => by
    cases h with
    | tup h1 h2 => exact .tup h1 (ImAll.rep ds _ h2)
theorem ImAll.rep {H : Hp} : ∀ (ds : List PyData) (vs : List V), ImAll H vs ds → RepAll H vs (trAll ds)
  | [], _, h => by cases h; exact .nil
  | d :: ds, _, h => by
    cases h with
    | cons h1 h2 => exact .cons (Im.rep d _ h1) (ImAll.rep ds _ h2)
end
theorem trAll_map : ∀ l : List PyData, trAll l = l.map trOf
  | [] => rfl
  | d :: ds => by rw [trAll, trAll_map ds]; rfl
def RepB (j : Addr) (G : Hp) (v : V) (t : Tr) : Prop := ∀ H', But j G H' → Rep H' v t
def RepAllB (j : Addr) (G : Hp) (vs : List V) (ts : List Tr) : Prop := ∀ H', But j G H' → RepAll H' vs ts
section
variable {j : Addr} {G G' : Hp} {v : V} {t : Tr} {vs us : List V} {ts ss : List Tr}
theorem RepB.rep (h : RepB j G v t) : Rep G v t := h G .refl
theorem RepB.but (h : RepB j G v t) (b : But j G G') : RepB j G' v t := fun H' b' => h H' (b.trans b')
theorem RepB.same (h : RepB j G v t) (s : Same G G') : RepB j G' v t := h.but (.of s)
theorem RepAllB.but (h : RepAllB j G vs ts) (b : But j G G') : RepAllB j G' vs ts := fun H' b' => h H' (b.trans b')
theorem RepAllB.same (h : RepAllB j G vs ts) (s : Same G G') : RepAllB j G' vs ts := h.but (.of s)
theorem RepAllB.length (h : RepAllB j G vs ts) : vs.length = ts.length := (h G .refl).length
theorem RepB.of_im {d : PyData} (h : Im G v d) (J : JugAt G j) : RepB j G v (trOf d) := fun H' b => Im.rep _ _ (Im.mono (b.tups J) _ _ h)
theorem RepAllB.of_im {ds : List PyData} (h : ImAll G vs ds) (J : JugAt G j) : RepAllB j G vs (trAll ds) := fun H' b => ImAll.rep _ _ (ImAll.mono (b.tups J) _ _ h)
theorem RepB.tup {a : Addr} (ha : Tu G a vs) (J : JugAt G j) (r : RepAllB j G vs ts) : RepB j G (.ref a) (.tup ts) := fun H' b => .tup (b.tups J _ _ ha) (r H' b)
theorem RepB.lst {l : Addr} (h : G l = some (.lst vs)) (n : l ≠ j) (r : RepAllB j G vs ts) : RepB j G (.ref l) (.lst ts) := fun H' b => .lst (b _ _ n h) (r H' b)
theorem RepB.dic {l : Addr} {ks : List (Key × V)} (h : G l = some (.dK ks)) (n : l ≠ j) : RepB j G (.ref l) .dic := fun H' b => .dic (b _ _ n h)
theorem RepB.leaf (h : ∀ H', Rep H' v t) : RepB j G v t := fun H' _ => h H'
theorem RepAllB.nil : RepAllB j G [] [] := fun _ _ => .nil
theorem RepAllB.one (h : RepB j G v t) : RepAllB j G [v] [t] := fun H' b => .cons (h H' b) .nil
theorem RepAllB.cons (h : RepB j G v t) (r : RepAllB j G vs ts) : RepAllB j G (v :: vs) (t :: ts) := fun H' b => .cons (h H' b) (r H' b)
theorem RepAllB.app (h : RepAllB j G vs ts) (g : RepAllB j G us ss) : RepAllB j G (vs ++ us) (ts ++ ss) := fun H' b => RepAll.app (g H' b) (h H' b)
theorem RepAllB.take (n : Nat) (h : RepAllB j G vs ts) : RepAllB j G (vs.take n) (ts.take n) := fun H' b => (h H' b).take n
theorem RepAllB.drop (n : Nat) (h : RepAllB j G vs ts) : RepAllB j G (vs.drop n) (ts.drop n) := fun H' b => (h H' b).drop n
theorem RepAllB.get {i : Nat} (h : RepAllB j G vs ts) (e : vs[i]? = some v) : ∃ t, ts[i]? = some t ∧ RepB j G v t := by
  obtain ⟨t, h1, _⟩ := (h G .refl).get e
  refine ⟨t, h1, fun H' b => ?_⟩
  obtain ⟨t', h2, h3⟩ := (h H' b).get e
  rw [h1] at h2
  cases h2
  exact h3
theorem RepAllB.reps (h : RepAllB j G vs ts) : ∀ n : Nat, RepAllB j G (List.replicate n vs).flatten (List.replicate n ts).flatten
  | 0 => .nil
  | n + 1 => by
    rw [List.replicate_succ, List.replicate_succ, List.flatten_cons, List.flatten_cons]
    exact h.app (h.reps n)
/-- a tuple's length and what its elements keep -/
def bd (b : Nat) (q : Tr → Prop) (t : Tr) : Prop := ∀ us, t = .tup us → us.length ≤ b ∧ ∀ u ∈ us, q u
theorem bd.mono {b c : Nat} {p q : Tr → Prop} (h : bd b p t) (hb : b ≤ c) (hq : ∀ u, p u → q u) : bd c q t := fun us e => ⟨Nat.le_trans (h us e).1 hb, fun u hu => hq u ((h us e).2 u hu)⟩
theorem bd.off {b : Nat} {q : Tr → Prop} (h : isTup t = false) : bd b q t := fun us e => by rw [e] at h; cases h
theorem bd.of {b : Nat} {q : Tr → Prop} (h : ts.length ≤ b) (hq : ∀ u ∈ ts, q u) : bd b q (.tup ts) := fun us e => by cases e; exact ⟨h, hq⟩
end
section
variable {K : PySem.W.Frag} {G : Hp} {Q : VK} {a b : Addr} {xs ys : List V}
theorem slTu {lo hi : Option Int} (ha : Tu G a xs) (h : ∀ q G', Same G G' → Tu G' q (cutV xs lo hi) → Q (.ref q) G') : rSlA K (.ref a) lo hi G Q := by
  refine ⟨a, xs, rfl, ha.sq, fun hw => ?_, fun _ p np => h p _ (same_upd np) Tu.up⟩
  refine h a G (Same.refl G) ?_
  have e : cutV xs lo hi = xs := by
    unfold cutV
    rw [hw.1, hw.2]
    show List.take (xs.length - 0) (List.drop 0 xs) = _
    rw [Nat.sub_zero, List.drop_zero, List.take_length]
  rw [e]
  exact ha
theorem catTu2 (ha : Tu G a xs) (hb : Tu G b ys) (hl : xs.length + ys.length ≤ 1000) (h : ∀ q G', Same G G' → Tu G' q (xs ++ ys) → Q (.ref q) G') : rCatA K (.ref a) (.ref b) G Q := by
  refine ⟨a, b, xs, ys, rfl, rfl, ha.sq, hb.sq, Nat.le_trans hl (by decide), fun e => ?_, fun _ e => ?_, fun _ _ p np => h p _ (same_upd np) Tu.up⟩
  · subst e
    exact h b G (Same.refl G) hb
  · subst e
    exact h a G (Same.refl G) (by rw [List.append_nil]; exact ha)
theorem repTu2 {n : Nat} (ha : Tu G a xs) (h0 : 1 ≤ xs.length) (h6 : xs.length ≤ 100) (h1 : 1 ≤ n) (h2 : n ≤ 10) (h : ∀ r G', Same G G' → Tu G' r (List.replicate n xs).flatten → Q (.ref r) G') : rRepN K (.ref a) (.int n) G Q := by
  by_cases e : n = 1
  · subst e
    exact .inl ⟨a, xs, rfl, rfl, ha.sq, h a G (Same.refl G) (by simpa using ha)⟩
  · refine .inr ⟨a, n, xs, rfl, rfl, ha.sq, by intro e; rw [e] at h0; exact absurd h0 (by decide), by omega, by omega, by omega, fun p np => h p _ (same_upd np) ?_⟩
    rw [Int.toNat_natCast]
    exact Tu.up
theorem cutTo {k : Nat} (h : k ≤ xs.length) : cutV xs none (some (k : Int)) = xs.take k := by
  have e : HT.sIx xs.length xs.length (some (k : Int)) = k := by rw [HT.sIx_nat]; omega
  unfold cutV
  rw [e]
  show List.take (k - 0) (List.drop 0 xs) = _
  rw [Nat.sub_zero, List.drop_zero]
theorem cutFrom {k : Nat} (h : k ≤ xs.length) : cutV xs (some (k : Int)) none = xs.drop k := by
  have e : HT.sIx xs.length 0 (some (k : Int)) = k := by rw [HT.sIx_nat]; omega
  unfold cutV
  rw [e]
  show List.take (xs.length - k) (List.drop k xs) = _
  rw [List.take_of_length_le (by rw [List.length_drop]; exact Nat.le_refl _)]
end
theorem seqQ {t u : TS} {D : Ends} {σ : L2.St} {H : Hp} (P : L2.St → Hp → Prop) (h1 : ∀ N : L2.St → Hp → Prop, (∀ σ' H', P σ' H' → N σ' H') → t { D with nx := N } σ H) (h2 : ∀ σ' H', P σ' H' → u D σ' H') : tSeq t u D σ H := h1 (u D) h2
end U

namespace M
open PySem L2 U
abbrev sCel : Stmt := top 44
abbrev nCel : List Str := ["_law_cells", "_law_k", "_law_made", "_law_own"]
abbrev pCel : List Str := ["_law_cells", "_law_k"]
theorem scCel : FnScope nCel pCel (defScope sCel) := ⟨rfl, rfl, rfl, by decide +kernel, rfl, by decide +kernel, by decide +kernel⟩
abbrev sWel : Stmt := top 45
abbrev nWel : List Str := ["_law_cell_here"]
abbrev pWel : List Str := ["_law_cell_here"]
theorem scWel : FnScope nWel pWel (defScope sWel) := ⟨rfl, rfl, rfl, by decide +kernel, rfl, by decide +kernel, by decide +kernel⟩
abbrev sDp : Stmt := top 46
abbrev nDp : List Str := ["_law_jar", "_law_many", "_law_mixed", "_law_stock", "_law_digit"]
abbrev pDp : List Str := ["_law_jar", "_law_many"]
theorem scDp : FnScope nDp pDp (defScope sDp) := ⟨rfl, rfl, rfl, by decide +kernel, rfl, by decide +kernel, by decide +kernel⟩
abbrev sWei : Stmt := top 48
abbrev nWei : List Str := ["_law_jar"]
abbrev pWei : List Str := ["_law_jar"]
theorem scWei : FnScope nWei pWei (defScope sWei) := ⟨rfl, rfl, rfl, by decide +kernel, rfl, by decide +kernel, by decide +kernel⟩
/-- a well stands at j; k: the most draws that were mixed -/
def WellAt (H : Hp) (j : Addr) (k : Nat) : Prop := ∃ x b c : Int, H j = some (.lst [.int x, .int b, .int c]) ∧ 0 ≤ x ∧ 0 ≤ b ∧ 0 ≤ c ∧ c ≤ k
theorem WellAt.jug {H : Hp} {j : Addr} {k : Nat} (h : WellAt H j k) : JugAt H j := by
  obtain ⟨x, b, c, e, q, _⟩ := h
  exact ⟨x, b, c, e, q⟩
theorem WellAt.upd {H : Hp} {j a : Addr} {o : HO} {k : Nat} (h : WellAt H j k) (n : H a = none) : WellAt (upd H a o) j k := by
  obtain ⟨x, b, c, e, q⟩ := h
  exact ⟨x, b, c, by rw [upd_ne (ne_of_none e n)]; exact e, q⟩
theorem WellAt.put {H : Hp} {j a : Addr} {o : HO} {k : Nat} (h : WellAt H j k) (n : j ≠ a) : WellAt (L2.upd H a o) j k := by
  obtain ⟨x, b, c, e, q⟩ := h
  exact ⟨x, b, c, by rw [upd_ne n]; exact e, q⟩
theorem WellAt.same {H H' : Hp} {j : Addr} {k : Nat} (h : WellAt H j k) (s : Same H H') : WellAt H' j k := by
  obtain ⟨x, b, c, e, q⟩ := h
  exact ⟨x, b, c, s _ _ e, q⟩
theorem WellAt.le {H : Hp} {j : Addr} {k k' : Nat} (h : WellAt H j k) (n : k ≤ k') : WellAt H j k' := by
  obtain ⟨x, b, c, e, q, q1, q2, q3⟩ := h
  exact ⟨x, b, c, e, q, q1, q2, by omega⟩
theorem WellAt.ne {H : Hp} {j a : Addr} {k : Nat} (h : WellAt H j k) (n : H a = none) : j ≠ a := h.jug.ne n
theorem cutTo {ns : List Int} {m n : Nat} {x : V} (h : (cutV (ns.map V.int) none (some (m : Int)))[n]? = some x) : ∃ z, x = V.int z := by
  have e : cutV (ns.map V.int) none (some (m : Int)) = (ns.take m).map V.int := by
    have e : HT.sIx (ns.map V.int).length (ns.map V.int).length (some (m : Int)) = min m ns.length := by
      rw [List.length_map]; exact HT.sIx_nat _ _ m
    unfold cutV
    rw [e]
    show List.take (min m ns.length - 0) (List.drop 0 (ns.map V.int)) = _
    rw [Nat.sub_zero, List.drop_zero, ← List.map_take]
    congr 1
    rw [List.take_eq_take_iff]; omega
  rw [e, List.getElem?_map] at h
  cases q : (ns.take m)[n]? with
  | none => rw [q] at h; cases h
  | some z => rw [q] at h; exact ⟨z, (Option.some.inj h).symm⟩
def spCel (K : PySem.W.Frag) : Sp := fun vs H Q _ => ∃ (a : Addr) (ns : List Int) (i : Nat), vs = [.ref a, .int i] ∧ SqL K H a (ns.map V.int) ∧ ns.length ≤ 63 ∧ ∀ (H' : Hp) (z : Int), Same H H' → Q (.int z) H'
def spWel : Sp := fun vs H Q _ => ∃ (c : Int), vs = [.int c] ∧ ∀ (H' : Hp) (j : Addr), Same H H' → H j = none → WellAt H' j 0 → Q (.ref j) H'
def spDp : Sp := fun vs H Q _ => ∃ (j : Addr) (m : Int) (k : Nat), vs = [.ref j, .int m] ∧ 0 < m ∧ m < 1073741824 ∧ k ≤ 1000000000 ∧ WellAt H j k ∧
  ∀ (H' : Hp) (d : Int), But j H H' → WellAt H' j (k + 1) → 0 ≤ d → d < m → Q (.int d) H'
def spWei : Sp := fun vs H Q _ => ∃ (j : Addr) (k : Nat), vs = [.ref j] ∧ k ≤ 900000000 ∧ WellAt H j k ∧
  ∀ (H' : Hp) (d : Int), But j H H' → WellAt H' j (k + 2) → 1 ≤ d → d ≤ 1000000000 → Q (.int d) H'
section
variable {P : Program} {w : World} {K : PySem.W.Frag} {mg : Str → Option Value} {base : Heap}
theorem ok_cel {f : Addr} {fd : FuncData} (F : Fun K "_law_cell" "_law_cell" sCel f fd) (T : Bt mg) : FnOk P w K mg base CX0 1 f fd pCel (spCel K) := by
  refine F.ok scCel (fun vs H Q E h => ?_) (fun cdv A outer s H vs Q E hr h => ?_)
  · obtain ⟨a, ns, i, rfl, _⟩ := h
    rfl
  · obtain ⟨a, ns, i, rfl, hS, hl, k⟩ := h
    refine ⟨_, (pss_cons (ps_if (pt_cmpR op_lt (pv 1) (pe_callB (lenQ K) (by rfl) T.len (by decide +kernel) (pa_cons (pv 0) pa_nil)) (nomark _))
        (pss_one (ps_ret (pe_ix (ixL K) (pv 0) (pv 1) (fun _ _ => rfl)))) pss_nil)
      (pss_cons (ps_set (i := 2) scCel.nd rfl (Or.inl rfl) (pe_op op_add pe_int (pe_op op_mul pe_int (pv 1))))
      (pss_cons (ps_for PassesOwn.never rfl (piL K (pe_slice (slL K) (pv 0) po_none (po_some pe_int))) (pg_name (i := 3) scCel.nd rfl (Or.inl rfl))
        (pss_one (ps_set (i := 2) scCel.nd rfl (Or.inl rfl) (pe_op op_mod (pe_callTy call_int1 (by rfl) T.int (by decide +kernel) (pa_cons (pe_op op_add (pe_op op_add (pe_op op_mul (pv 2) pe_int) (pe_op op_mul (pv 3) pe_int)) (pv 1)) pa_nil)) pe_int))))
      (pss_one (ps_ret (pv 2)))))), ?_⟩
    refine ⟨_, rfl, _, rfl, a, _, rfl, .inl hS, _, _, rfl, rfl, _, rfl, ite2 (fun hc => ?_) (fun hc => ?_)⟩
    · have hc' : i < ns.length := by have := of_decide_eq_true hc; simp at this; omega
      exact ⟨_, rfl, _, rfl, a, _, _, _, rfl, rfl, hS, atI_nat (j := i) (v := V.int ns[i]) (by rw [List.getElem?_map, List.getElem?_eq_getElem hc']; rfl), k _ _ (Same.refl H)⟩
    refine ⟨_, rfl, _, _, rfl, rfl, .inl (by decide), _, _, rfl, rfl, ?_⟩
    refine ⟨_, rfl, _, rfl, a, _, rfl, hS, fun l3 n3 => ?_⟩
    have s3 := same_upd (o := HO.lst (cutV (ns.map V.int) none (some 5))) n3
    refine ⟨l3, rfl, ⟨_, SqL.of upd_same⟩, for_list (K := K) (a := l3) (xs := cutV (ns.map V.int) none (some 5)) (fun _ σ H' => ∃ (sd : Int) (e : Option V), σ = [some (.ref a), some (.int i), some (.int sd), e] ∧ Same H H' ∧ H' l3 = some (.lst (cutV (ns.map V.int) none (some 5))))
      ⟨_, none, rfl, s3, upd_same⟩ (fun i σ H' _ ⟨_, _, _, _, h3⟩ => SqL.of h3) ?_ ?_⟩
    · rintro n x σ H' hx ⟨sd, e, rfl, s4, h3⟩
      obtain ⟨z, rfl⟩ := cutTo (m := 5) hx
      exact ⟨_, rfl, _, _, rfl, rfl, .inr (by decide), _, rfl, _, _, rfl, rfl, .inr (by decide), _, _, rfl, rfl, _, rfl, _, _, rfl, rfl, .inl ⟨_, rfl, _, _, rfl, rfl, (by decide : (0 : Int) < 2147483563), _, _, rfl, s4, h3⟩⟩
    · rintro σ H' ⟨sd, e, rfl, s4, h3⟩
      exact ⟨_, rfl, k _ _ s4⟩
theorem ok_wel {f : Addr} {fd : FuncData} (F : Fun K "_law_well" "_law_well" sWel f fd) (T : Bt mg) : FnOk P w K mg base CX0 1 f fd pWel spWel := by
  refine F.ok scWel (fun vs H Q E h => ?_) (fun cdv A outer s H vs Q E hr h => ?_)
  · obtain ⟨c, rfl, _⟩ := h
    rfl
  · obtain ⟨c, rfl, k⟩ := h
    refine ⟨_, (pss_one (ps_ret (pe_lst (pa_cons (pe_ifExp (PW.pt (pw_or (pt_cmpR op_lt (pv 0) pe_int (nomark _)) (pw_or1 (pt_cmpR op_ge (pv 0) (pe_op op_pow pe_int pe_int) (nomark _))))) (pe_callB call_abs (by rfl) T.abs (by decide +kernel) (pa_cons (pv 0) pa_nil)) pe_int) (pa_cons (pe_op op_mod (pe_callTy call_int1 (by rfl) T.int (by decide +kernel) (pa_cons (pv 0) pa_nil)) pe_int) (pa_cons pe_int pa_nil)))))), ?_⟩
    refine ⟨_, rfl, _, _, rfl, rfl, _, rfl, ite2 (fun hc => ?_) (fun hc => ?_)⟩
    · have hc := of_decide_eq_true hc
      exact iteT ⟨_, rfl, _, rfl, _, rfl, .inl ⟨_, rfl, _, _, rfl, rfl, (by decide : (0 : Int) < 2147483587), by show 3 ≤ sizeLine; decide, fun p np => k _ p (same_upd np) np ⟨_, _, 0, upd_same, by split <;> omega, Int.emod_nonneg _ (by decide), by decide, by decide⟩⟩⟩
    · refine ⟨_, rfl, _, _, rfl, rfl, ⟨by decide, by decide, by decide⟩, _, _, rfl, rfl, _, rfl, ite2 (fun h2 => ?_) (fun h2 => ?_)⟩
      · exact ⟨_, rfl, _, rfl, _, rfl, .inl ⟨_, rfl, _, _, rfl, rfl, (by decide : (0 : Int) < 2147483587), by show 3 ≤ sizeLine; decide, fun p np => k _ p (same_upd np) np ⟨_, _, 0, upd_same, by split <;> omega, Int.emod_nonneg _ (by decide), by decide, by decide⟩⟩⟩
      · exact ⟨_, rfl, .inl ⟨_, rfl, _, _, rfl, rfl, (by decide : (0 : Int) < 2147483587), by show 3 ≤ sizeLine; decide, fun p np => k _ p (same_upd np) np ⟨_, _, 0, upd_same, by decide, Int.emod_nonneg _ (by decide), by decide, by decide⟩⟩⟩
theorem ok_dp {f : Addr} {fd : FuncData} (F : Fun K "_law_dip" "_law_dip" sDp f fd) (T : Bt mg) : FnOk P w K mg base CX0 1 f fd pDp spDp := by
  refine F.ok scDp (fun vs H Q E h => ?_) (fun cdv A outer s H vs Q E hr h => ?_)
  · obtain ⟨j, m, k, rfl, _⟩ := h
    rfl
  · obtain ⟨j, m, n, rfl, hm, hm2, hn, ⟨x, b, c, hj, hx, hb, hc, hk⟩, k⟩ := h
    refine ⟨_, (pss_cons (ps_asg (pe_op op_add (pe_ix (ixL K) (pv 0) pe_int (fun _ _ => rfl)) pe_int) (pg_sub (pv 0) pe_int set_list))
      (pss_cons (ps_set (i := 2) scDp.nd rfl (Or.inl rfl) (pe_op op_mod (pe_callTy call_int1 (by rfl) T.int (by decide +kernel) (pa_cons (pe_op op_add (pe_ix (ixL K) (pv 0) pe_int (fun _ _ => rfl)) (pe_op op_mul pe_int (pe_ix (ixL K) (pv 0) pe_int (fun _ _ => rfl)))) pa_nil)) pe_int))
      (pss_cons (ps_asg (pe_op op_mod (pe_callTy call_int1 (by rfl) T.int (by decide +kernel) (pa_cons (pe_op op_add (pe_op op_add (pe_op op_mul (pv 2) (pv 2)) (pe_op op_mul pe_int (pv 2))) pe_int) pa_nil)) pe_int) (pg_sub (pv 0) pe_int set_list))
      (pss_cons (ps_if (pt_cmpR op_eq (pe_ix (ixL K) (pv 0) pe_int (fun _ _ => rfl)) pe_int (nomark _))
        (pss_one (ps_ret (pe_op op_mod (pe_callTy call_int1 (by rfl) T.int (by decide +kernel) (pa_cons (pe_op op_fdiv (pe_ix (ixL K) (pv 0) pe_int (fun _ _ => rfl)) pe_int) pa_nil)) (pv 1)))) pss_nil)
      (pss_cons (ps_asg (pe_callB call_divmod (by rfl) T.divmod (by decide +kernel) (pa_cons (pe_ix (ixL K) (pv 0) pe_int (fun _ _ => rfl)) (pa_cons (pv 1) pa_nil))) (pg_tup (by rfl) (pgs_cons (pg_name (i := 3) scDp.nd rfl (Or.inl rfl)) (pgs_cons (pg_name (i := 4) scDp.nd rfl (Or.inl rfl)) pgs_nil))))
      (pss_cons (ps_asg (pv 3) (pg_sub (pv 0) pe_int set_list))
      (pss_one (ps_ret (pv 4))))))))), ?_⟩
    refine ⟨_, rfl, j, _, _, _, rfl, rfl, SqL.of hj, rfl, _, _, rfl, rfl, _, rfl, j, _, _, _, rfl, rfl, hj, rfl, ?_⟩
    refine ⟨_, rfl, j, _, _, _, rfl, rfl, SqL.of upd_same, rfl, _, rfl, j, _, _, _, rfl, rfl, SqL.of upd_same, rfl, _, _, rfl, rfl, .inl (by decide), _, _, rfl, rfl, .inl ⟨_, rfl, _, _, rfl, rfl, (by decide : (0 : Int) < 2147483587), ?_⟩⟩
    have m0 := Int.emod_nonneg (b + 770551 * (c + 1)) (show (2147483587 : Int) ≠ 0 by decide)
    have m1 := Int.emod_lt_of_pos (b + 770551 * (c + 1)) (show (0 : Int) < 2147483587 by decide)
    show gName 2 (V.int ((b + 770551 * (c + 1)) % 2147483587)) _ _ _
    generalize (b + 770551 * (c + 1)) % 2147483587 = mx at m0 m1 ⊢
    refine ⟨_, rfl, _, rfl, _, _, rfl, rfl, .inl ⟨by omega, by omega⟩, _, rfl, _, _, rfl, rfl, .inl (by decide), _, _, rfl, rfl, _, _, rfl, rfl, .inl ⟨_, rfl, _, _, rfl, rfl, (by decide : (0 : Int) < 2147483587), _, rfl, j, _, _, _, rfl, rfl, upd_same, rfl, ?_⟩⟩
    refine ⟨_, rfl, j, _, _, _, rfl, rfl, SqL.of upd_same, rfl, rfl, _, rfl, ite2 (fun h0 => ?_) (fun h0 => ?_)⟩
    · refine ⟨_, rfl, j, _, _, _, rfl, rfl, SqL.of upd_same, rfl, _, _, rfl, rfl, ⟨by decide, by decide⟩, .inl ⟨_, rfl, _, rfl, _, _, rfl, rfl, hm, ?_⟩⟩
      refine k _ _ (fun o u hb e => ?_) ⟨_, _, _, upd_same, hx, Int.emod_nonneg _ (by decide), by show 0 ≤ c + 1; omega, by show c + 1 ≤ _; omega⟩ (Int.emod_nonneg _ (by omega)) (Int.emod_lt_of_pos _ hm)
      rw [upd_ne hb, upd_ne hb]; exact e
    · refine ⟨_, rfl, j, _, _, _, rfl, rfl, SqL.of upd_same, rfl, _, rfl, _, _, rfl, ⟨hm, hm2⟩, fun p np => ?_⟩
      refine ⟨p, _, rfl, SqT.of upd_same, rfl, _, _, rfl, _, _, rfl, rfl, ?_⟩
      have hjp : j ≠ p := ne_of_none upd_same np
      refine ⟨_, rfl, _, rfl, j, _, _, _, rfl, rfl, (upd_ne hjp).trans upd_same, rfl, ?_⟩
      refine ⟨_, rfl, ?_⟩
      refine k _ _ (fun o u hb e => ?_) ⟨_, _, _, upd_same, Int.ediv_nonneg hx (Int.le_of_lt hm), Int.emod_nonneg _ (by decide), by show 0 ≤ c + 1; omega, by show c + 1 ≤ _; omega⟩ (Int.emod_nonneg _ (by omega)) (Int.emod_lt_of_pos _ hm)
      have e2 : H o = some u := e
      by_cases z : o = p
      · rw [upd_ne hjp.symm, upd_ne hjp.symm] at np
        rw [z, np] at e2; cases e2
      · rw [upd_ne hb, upd_ne z, upd_ne hb, upd_ne hb]; exact e
abbrev DDp (P : Program) (w : World) (K : PySem.W.Frag) (mg : Str → Option Value) (base : Heap) : Prop := DefX P w K mg base 1 "_law_dip" pDp spDp
theorem ok_wei {f : Addr} {fd : FuncData} (F : Fun K "_law_weight" "_law_weight" sWei f fd) (T : Bt mg) (DD : DDp P w K mg base) : FnOk P w K mg base CX0 2 f fd pWei spWei := by
  refine F.ok scWei (fun vs H Q E h => ?_) (fun cdv A outer s H vs Q E hr h => ?_)
  · obtain ⟨j, k, rfl, _⟩ := h
    rfl
  · obtain ⟨j, n, rfl, hn, J, k⟩ := h
    refine ⟨_, (pss_one (ps_ret (pe_op op_add pe_int (pe_fn DD hr (by decide) (pa_cons (pv 0) (pa_cons (pe_ix (ixL K) (pe_lst (pa_cons pe_int (pa_cons pe_int (pa_cons pe_int (pa_cons pe_int (pa_cons pe_int (pa_cons (pe_op op_pow pe_int pe_int) pa_nil))))))) (pe_fn DD hr (by decide) (pa_cons (pv 0) (pa_cons pe_int pa_nil))) (fun _ _ => rfl)) pa_nil)))))), ?_⟩
    refine ⟨_, rfl, _, _, rfl, rfl, ⟨by decide, by decide, by decide⟩, by show 6 ≤ sizeLine; decide, fun l hl0 => ?_⟩
    refine ⟨_, rfl, j, 6, _, rfl, by decide, by decide, by omega, J.upd hl0, fun H5 d b5 J5 d0 dm => ?_⟩
    have hjl := J.ne hl0
    obtain ⟨z, hz, ha⟩ := pick (xs := [1, 3, 3, 3, 20, 1000000000]) d0 (by simpa using dm)
    have hz' : 1 ≤ z ∧ z ≤ 1000000000 := by
      simp only [List.mem_cons, List.mem_nil_iff, or_false] at hz
      rcases hz with r | r | r | r | r | r <;> omega
    refine ⟨l, _, d, _, rfl, rfl, SqL.of (b5 l _ hjl.symm upd_same), ha, ?_⟩
    refine ⟨j, z, _, rfl, by omega, by omega, by omega, J5, fun H6 e b6 J6 e0 e1 => ⟨_, _, rfl, rfl, ?_⟩⟩
    exact k _ _ (((But.new hl0).trans b5).trans b6) J6 (by omega) (by omega)
end
end M

namespace M
open PySem L2 U
abbrev sNms : Stmt := top 47
abbrev nNms : List Str := ["_law_jar", "_law_many", "_law_stock", "_law_at", "_law_step", "_law_k"]
abbrev pNms : List Str := ["_law_jar", "_law_many"]
theorem scNms : FnScope nNms pNms (defScope sNms) := ⟨rfl, rfl, rfl, by decide +kernel, rfl, by decide +kernel, by decide +kernel⟩
abbrev sRw : Stmt := top 49
abbrev nRw : List Str := ["_law_jar", "_law_many", "_law_at", "_law_found", "_law_turn"]
abbrev pRw : List Str := ["_law_jar", "_law_many", "_law_at"]
theorem scRw : FnScope nRw pRw (defScope sRw) := ⟨rfl, rfl, rfl, by decide +kernel, rfl, by decide +kernel, by decide +kernel⟩
theorem sum_nonneg {r : List Int} (h : ∀ x ∈ r, 0 ≤ x) : 0 ≤ r.sum := by
  induction r with
  | nil => exact Int.le_refl 0
  | cons a r ih =>
    rw [List.sum_cons]
    have := h a List.mem_cons_self
    have := ih fun x hx => h x (List.mem_cons_of_mem _ hx)
    omega
theorem sum_pos {r : List Int} {x : Int} (h : ∀ x ∈ r, 0 ≤ x) (hm : x ∈ r) (hx : 0 < x) : 0 < r.sum := by
  induction r with
  | nil => cases hm
  | cons a r ih =>
    rw [List.sum_cons]
    have h0 := h a List.mem_cons_self
    have h1 : 0 ≤ r.sum := sum_nonneg fun x hx => h x (List.mem_cons_of_mem _ hx)
    rcases List.mem_cons.mp hm with q | q
    · omega
    · have := ih (fun x hx => h x (List.mem_cons_of_mem _ hx)) q
      omega
theorem ixN_nat {n k : Nat} (h : k < n) : ixN n (k : Int) = some k := by
  unfold ixN
  rw [if_pos (by omega), if_pos (by omega)]
  simp
theorem set_ok {n k : Nat} {r : List Int} {z : Int} (hl : r.length = n) (hx : ∀ x ∈ r, 0 ≤ x ∧ x ≤ 1000000000) (hk : k < n) (z1 : 1 ≤ z) (z2 : z ≤ 1000000000) : RowOk n (r.set k z) := by
  have hb : ∀ x ∈ r.set k z, 0 ≤ x ∧ x ≤ 1000000000 := fun x hx' => by
    rcases List.mem_or_eq_of_mem_set hx' with q | q
    · exact hx x q
    · rw [q]; omega
  exact ⟨by rw [List.length_set, hl], hb, sum_pos (x := z) (fun x h => (hb x h).1) (List.mem_set (by omega) z) (by omega)⟩
theorem rep_zero : ∀ n : Nat, (List.replicate n [V.int 0]).flatten = List.replicate n (V.int 0)
  | 0 => rfl
  | n + 1 => by rw [List.replicate_succ, List.replicate_succ, List.flatten_cons, rep_zero n]; rfl
def pool17 : List Str := ["ann", "bob", "cyd", "dan", "eve", "a", "b2", "z9z9z9z9", "always", "days", "way", "voice", "c", "d4", "x", "none", "w1"]
theorem pool17_ok : ∀ x ∈ pool17, nameB x = true ∧ x.length ≤ 8 := by decide +kernel
def nam17 (d s i : Nat) : Str := (pool17[(d + (1 + s) * i) % 17]?).getD ""
theorem nam17_nd : ∀ d, d < 17 → ∀ s, s < 16 → ((List.range 6).map (nam17 d s)).Nodup := by decide +kernel
theorem nam17_minds {d s n : Nat} (hd : d < 17) (hs : s < 16) (h1 : 1 ≤ n) (h6 : n ≤ 6) : MindsOk ((List.range n).map (nam17 d s)) := by
  have e : ((List.range n).map (nam17 d s)).length = n := by rw [List.length_map, List.length_range]
  refine ⟨by omega, by omega, ?_, fun x hx => ?_⟩
  · have : (List.range n).map (nam17 d s) = ((List.range 6).map (nam17 d s)).take n := by
      rw [← List.map_take, List.take_range, Nat.min_eq_left h6]
    rw [this]
    exact List.Nodup.sublist (List.take_sublist _ _) (nam17_nd d hd s hs)
  · obtain ⟨i, _, rfl⟩ := List.mem_map.mp hx
    have hl : (d + (1 + s) * i) % 17 < pool17.length := Nat.mod_lt _ (by decide)
    unfold nam17
    rw [List.getElem?_eq_getElem hl]
    exact pool17_ok _ (List.getElem_mem hl)
section
variable {P : Program} {w : World} {K : PySem.W.Frag} {mg : Str → Option Value} {base : Heap}
abbrev DWei (P : Program) (w : World) (K : PySem.W.Frag) (mg : Str → Option Value) (base : Heap) : Prop := DefX P w K mg base 2 "_law_weight" pWei spWei
def spNms : Sp := fun vs H Q _ => ∃ (j : Addr) (n k : Nat), vs = [.ref j, .int n] ∧ 1 ≤ n ∧ n ≤ 6 ∧ k ≤ 800000000 ∧ WellAt H j k ∧
  ∀ (H' : Hp) (p : Addr) (ms : List Str), But j H H' → WellAt H' j (k + 2) → H p = none → Im H' (.ref p) (dMinds ms) → MindsOk ms → ms.length = n → Q (.ref p) H'
def spRw : Sp := fun vs H Q _ => ∃ (j : Addr) (n i k : Nat), vs = [.ref j, .int n, .int i] ∧ 1 ≤ n ∧ n ≤ 6 ∧ i < n ∧ k ≤ 800000000 ∧ WellAt H j k ∧
  ∀ (H' : Hp) (p : Addr) (r : List Int), But j H H' → WellAt H' j (k + 10) → H p = none → H' p = some (.lst (r.map V.int)) → RowOk n r → Q (.ref p) H'
theorem ok_nms {f : Addr} {fd : FuncData} (F : Fun K "_law_names" "_law_names" sNms f fd) (T : Bt mg) (DD : DDp P w K mg base) : FnOk P w K mg base CX0 2 f fd pNms spNms := by
  refine F.ok scNms (fun vs H Q E h => ?_) (fun cdv A outer s H vs Q E hr h => ?_)
  · obtain ⟨j, n, k, rfl, _⟩ := h
    rfl
  · obtain ⟨j, n, k0, rfl, hn1, hn6, hk, J, k⟩ := h
    refine ⟨_, (pss_cons (ps_set (i := 2) scNms.nd rfl (Or.inr rfl) (pe_lst (pa_cons pe_str (pa_cons pe_str (pa_cons pe_str (pa_cons pe_str (pa_cons pe_str (pa_cons pe_str (pa_cons pe_str (pa_cons pe_str (pa_cons pe_str (pa_cons pe_str (pa_cons pe_str (pa_cons pe_str pa_nil))))))))))))))
      (pss_cons (ps_asg (pe_tup (pa_cons (pe_op op_cat (pv 2) (pe_lst (pa_cons pe_str (pa_cons pe_str (pa_cons pe_str (pa_cons pe_str (pa_cons pe_str pa_nil))))))) (pa_cons (pe_fn DD hr (by decide) (pa_cons (pv 0) (pa_cons pe_int pa_nil))) (pa_cons (pe_op op_add pe_int (pe_fn DD hr (by decide) (pa_cons (pv 0) (pa_cons pe_int pa_nil)))) pa_nil)))) (pg_tup (by rfl) (pgs_cons (pg_name (i := 2) scNms.nd rfl (Or.inr rfl)) (pgs_cons (pg_name (i := 3) scNms.nd rfl (Or.inr rfl)) (pgs_cons (pg_name (i := 4) scNms.nd rfl (Or.inr rfl)) pgs_nil)))))
      (pss_one (ps_ret (pe_callTy (tupO K) (by rfl) T.tuple (by decide +kernel) (pa_cons (pe_lc (own := [("_law_k", 5)]) (g := gName 5) (tt := tYes) rfl scNms.nd (pi_range1 rfl T.range (pa_cons (pv 1) pa_nil)) (blkOk_by (own := [("_law_k", 5)]) (N := nNms) (sc := defScope sNms) (by decide +kernel)) (fun _ _ _ _ _ => (pg_name (i := 5) scNms.nd rfl (Or.inl rfl))) (fun _ _ _ _ _ => pts_nil)
          (fun _ _ _ _ _ => (pe_ix (ixL K) (pv 2) (pe_op op_mod (pe_callTy call_int1 (by rfl) T.int (by decide +kernel) (pa_cons (pe_op op_add (pv 3) (pe_op op_mul (pv 4) (pv 5))) pa_nil)) pe_int) (fun _ _ => rfl)))) pa_nil)))))), ?_⟩
    refine ⟨by show 12 ≤ sizeLine; decide, fun l1 n1 => ?_⟩
    refine ⟨_, rfl, by show 5 ≤ sizeLine; decide, fun l2 n2 => ⟨l1, l2, _, _, rfl, rfl, (upd_ne (ne_of_none upd_same n2)).trans upd_same, upd_same, by show 12 + 5 ≤ sizeLine; decide, fun l3 n3 => ?_⟩⟩
    have b0 : But j H (upd (upd (upd H l1 (.lst [.str "ann", .str "bob", .str "cyd", .str "dan", .str "eve", .str "a", .str "b2", .str "z9z9z9z9", .str "always", .str "days", .str "way", .str "voice"])) l2 (.lst [.str "c", .str "d4", .str "x", .str "none", .str "w1"])) l3 (.lst (pool17.map V.str))) := ((But.new n1).trans (But.new n2)).trans (But.new n3)
    have J0 := ((J.upd (o := HO.lst [.str "ann", .str "bob", .str "cyd", .str "dan", .str "eve", .str "a", .str "b2", .str "z9z9z9z9", .str "always", .str "days", .str "way", .str "voice"]) n1).upd (o := HO.lst [.str "c", .str "d4", .str "x", .str "none", .str "w1"]) n2)
    have hj3 : l3 ≠ j := (J0.ne n3).symm
    have J0 := J0.upd (o := HO.lst (pool17.map V.str)) n3
    refine ⟨_, rfl, j, 17, _, rfl, by decide, by decide, by omega, J0, fun H1 d b1 J1 d0 d1 => ?_⟩
    refine ⟨_, rfl, j, 16, _, rfl, by decide, by decide, by omega, J1, fun H2 e b2 J2 e0 e1 => ⟨_, _, rfl, rfl, by show 3 ≤ sizeLine; decide, fun p np => ?_⟩⟩
    refine ⟨p, _, rfl, SqT.of upd_same, rfl, _, _, rfl, _, _, rfl, _, _, rfl, rfl, ?_⟩
    dsimp only [List.set]
    obtain ⟨dn, rfl⟩ : ∃ q : Nat, d = q := ⟨d.toNat, by omega⟩
    obtain ⟨en, rfl⟩ : ∃ q : Nat, e = q := ⟨e.toNat, by omega⟩
    have hl3 := b2 l3 _ hj3 (b1 l3 _ hj3 upd_same)
    have s3 : Same H2 (upd H2 p (.tup [.ref l3, .int dn, .int (1 + en)])) := same_upd np
    have b3 := ((b0.trans b1).trans b2).trans (But.of s3)
    have J3 := J2.same s3
    have hl3 := s3 _ _ hl3
    generalize upd H2 p (.tup [.ref l3, .int dn, .int (1 + en)]) = H3 at s3 b3 J3 hl3 ⊢
    refine ⟨_, rfl, n, rfl, by omega, by omega, fun D hD => ?_⟩
    refine lc_range (lo := 0) (n := n) (PvS H3 D (((List.range n).map (nam17 dn en)).map V.str)) (pvs0 hD) ?_ (fun G h => ?_)
    · rintro i G hi h
      refine ⟨rfl, turnY ?_⟩
      have hix : ((dn : Int) + (1 + (en : Int)) * (0 + (i : Int))) % 17 = (((dn + (1 + en) * i) % 17 : Nat) : Int) := by rw [Int.zero_add]; norm_cast
      have hlt : (dn + (1 + en) * i) % 17 < pool17.length := Nat.mod_lt _ (by decide)
      refine ⟨_, rfl, _, rfl, _, rfl, _, rfl, _, _, rfl, rfl, .inl ⟨by omega, by omega⟩, _, _, rfl, rfl, .inl ⟨_, rfl, _, _, rfl, rfl, (by decide : (0 : Int) < 17), l3, _, _, V.str (nam17 dn en i), rfl, rfl, SqL.of (h.1 _ _ hl3), ?_, ?_⟩⟩
      · show atI _ (((dn : Int) + (1 + (en : Int)) * (0 + (i : Int))) % 17) = _
        rw [hix]
        refine atI_nat ?_
        show (pool17.map V.str)[(dn + (1 + en) * i) % 17]? = _
        rw [List.getElem?_map]
        unfold nam17
        rw [List.getElem?_eq_getElem hlt]
        rfl
      · refine pvs1 hD h (Same.refl _) (by rw [List.length_map, List.length_map, List.length_range]; omega) ?_
        rw [List.getElem?_map, List.getElem?_map, List.getElem?_range hi]
        rfl
    · obtain ⟨s4, hD4⟩ := pvsE h (by rw [List.length_map, List.length_map, List.length_range])
      refine ⟨D, _, rfl, .inl ⟨SqL.of hD4, fun p2 np2 => ?_⟩⟩
      have b4 := b3.trans (But.of s4)
      have J4 := J3.same s4
      exact k _ p2 _ (b4.trans (But.new np2)) ((J4.upd np2).le (by omega)) (b4.freeJ J4.jug np2) (.tup Tu.up (imStrs _)) (nam17_minds (by omega) (by omega) hn1 hn6) (by rw [List.length_map, List.length_range])
theorem ok_rw {f : Addr} {fd : FuncData} (F : Fun K "_law_row" "_law_row" sRw f fd) (T : Bt mg) (DD : DDp P w K mg base) (DW : DWei P w K mg base) : FnOk P w K mg base CX0 3 f fd pRw spRw := by
  refine F.ok scRw (fun vs H Q E h => ?_) (fun cdv A outer s H vs Q E hr h => ?_)
  · obtain ⟨j, n, i, k, rfl, _⟩ := h
    rfl
  · obtain ⟨j, n, at0, k0, rfl, hn1, hn6, hat, hk, J, k⟩ := h
    refine ⟨_, (pss_cons (ps_set (i := 3) scRw.nd rfl (Or.inl rfl) (pe_op op_rep (pe_lst (pa_cons pe_int pa_nil)) (pv 1)))
      (pss_cons (ps_for PassesOwn.never rfl (pi_range1 rfl T.range (pa_cons (pe_op op_add pe_int (pe_fn DD hr (by decide) (pa_cons (pv 0) (pa_cons pe_int pa_nil)))) pa_nil)) (pg_name (i := 4) scRw.nd rfl (Or.inl rfl))
        (pss_one (ps_asg (pe_fn DW hr (by decide) (pa_cons (pv 0) pa_nil)) (pg_sub (pv 3) (pe_fn DD hr (by decide) (pa_cons (pv 0) (pa_cons (pv 1) pa_nil))) set_list))))
      (pss_cons (ps_if (pt_cmpR op_gt (pe_fn DD hr (by decide) (pa_cons (pv 0) (pa_cons pe_int pa_nil))) pe_int (nomark _))
        (pss_one (ps_asg (pe_fn DW hr (by decide) (pa_cons (pv 0) pa_nil)) (pg_sub (pv 3) (pv 2) set_list))) pss_nil)
      (pss_one (ps_ret (pv 3)))))), ?_⟩
    refine ⟨by show 1 ≤ sizeLine; decide, fun l1 n1 => ⟨_, rfl, l1, (n : Int), _, rfl, rfl, upd_same, by omega, by omega, ?_, fun D hD => ?_⟩⟩
    · rw [Int.toNat_natCast]
      show 1 * n ≤ sizeLine
      exact Nat.le_of_lt (small1000 (by omega))
    have hDj : D ≠ j := ((J.upd n1).ne hD).symm
    have ez : (List.replicate (n : Int).toNat [V.int 0]).flatten = (List.replicate n (0 : Int)).map V.int := by
      rw [Int.toNat_natCast, List.map_replicate]
      exact rep_zero n
    rw [ez]
    have hB : But j H (upd (upd H l1 (.lst [.int 0])) D (.lst ((List.replicate n (0 : Int)).map V.int))) := (But.new n1).trans (But.new hD)
    have J1 := (J.upd (o := HO.lst [.int 0]) n1).upd (o := HO.lst ((List.replicate n (0 : Int)).map V.int)) hD
    have h1 : (upd (upd H l1 (.lst [.int 0])) D (.lst ((List.replicate n (0 : Int)).map V.int))) D = some (.lst ((List.replicate n (0 : Int)).map V.int)) := upd_same
    have hD : H D = none := (But.new n1).freeJ (J.upd n1).jug hD
    generalize upd (upd H l1 (.lst [.int 0])) D (.lst ((List.replicate n (0 : Int)).map V.int)) = H1 at hB J1 h1 ⊢
    obtain ⟨r, er⟩ : ∃ r, r = List.replicate n (0 : Int) := ⟨_, rfl⟩
    have hl : r.length = n := by rw [er, List.length_replicate]
    have hx : ∀ x ∈ r, 0 ≤ x ∧ x ≤ 1000000000 := fun x hx => by
      rw [er] at hx
      rw [(List.mem_replicate.mp hx).2]; decide
    rw [← er] at h1
    clear er ez
    refine ⟨_, rfl, j, 2, _, rfl, by decide, by decide, by omega, J1, fun H2 t b2 J2 t0 t1 => ?_⟩
    obtain ⟨m, hm⟩ : ∃ m : Nat, 1 + t = m := ⟨(1 + t).toNat, by omega⟩
    refine ⟨_, _, rfl, rfl, m, by rw [← hm], by omega, by omega, ?_⟩
    refine for_range (lo := 0) (n := m) (fun i σ H' => ∃ (v : Option V) (r : List Int), σ = [some (.ref j), some (.int n), some (.int at0), some (.ref D), v] ∧ H' D = some (.lst (r.map V.int)) ∧ r.length = n ∧ (∀ x ∈ r, 0 ≤ x ∧ x ≤ 1000000000) ∧ (1 ≤ i → 0 < r.sum) ∧ But j H H' ∧ WellAt H' j (k0 + 1 + 3 * i))
      ⟨none, r, rfl, b2 D _ hDj h1, hl, hx, (fun h => absurd h (by decide)), hB.trans b2, J2⟩ ?_ ?_
    · rintro i σ H3 hi ⟨v, r, rfl, h3, hl, hx, hp, hB3, J3⟩
      refine ⟨_, rfl, j, _, rfl, by omega, J3, fun H4 z b4 J4 z1 z9 => ?_⟩
      refine ⟨_, rfl, _, rfl, _, rfl, j, n, _, rfl, by omega, by omega, by omega, J4, fun H5 e b5 J5 e0 e1 => ?_⟩
      obtain ⟨q, rfl⟩ : ∃ q : Nat, e = q := ⟨e.toNat, by omega⟩
      have hq : q < n := by omega
      have ok := set_ok (k := q) hl hx hq z1 z9
      refine ⟨D, _, _, q, rfl, rfl, b5 D _ hDj (b4 D _ hDj h3), ixN_nat (by rw [List.length_map, hl]; exact hq), _, r.set q z, rfl, by rw [upd_same, List.map_set], ok.1, ok.2.1, fun _ => ok.2.2, ((hB3.trans b4).trans b5).put hD, (J5.put hDj.symm).le (by omega)⟩
    · rintro σ H3 ⟨v, r, rfl, h3, hl, hx, hp, hB3, J3⟩
      refine ⟨_, rfl, j, 3, _, rfl, by decide, by decide, by omega, J3, fun H4 d b4 J4 d0 d1 => ?_⟩
      have h4 := b4 D _ hDj h3
      refine ⟨_, _, rfl, rfl, _, rfl, ite2 (fun h0 => ?_) (fun h0 => ?_)⟩
      · refine ⟨_, rfl, j, _, rfl, by omega, J4, fun H5 z b5 J5 z1 z9 => ?_⟩
        have ok := set_ok (k := at0) hl hx hat z1 z9
        refine ⟨_, rfl, _, rfl, D, _, _, at0, rfl, rfl, b5 D _ hDj h4, ixN_nat (by rw [List.length_map, hl]; exact hat), _, rfl, ?_⟩
        exact k _ D _ (((hB3.trans b4).trans b5).put hD) ((J5.put hDj.symm).le (by omega)) hD (by rw [upd_same, List.map_set]) ok
      · exact ⟨_, rfl, k _ D r (hB3.trans b4) (J4.le (by omega)) hD h4 ⟨hl, hx, hp (by omega)⟩⟩
end
end M

namespace M
open PySem L2 U
abbrev sTa : Stmt := top 50
abbrev nTa : List Str := ["_law_jar", "_law_many", "_law_sort", "_law_lead", "_law_rows", "_law_at", "_law_k", "_law_row_here"]
abbrev pTa : List Str := ["_law_jar", "_law_many"]
theorem scTa : FnScope nTa pTa (defScope sTa) := ⟨rfl, rfl, rfl, by decide +kernel, rfl, by decide +kernel, by decide +kernel⟩
abbrev sFo : Stmt := top 51
abbrev nFo : List Str := ["_law_jar", "_law_least", "_law_most", "_law_most_tables", "_law_many", "_law_k"]
abbrev pFo : List Str := ["_law_jar", "_law_least", "_law_most", "_law_most_tables"]
theorem scFo : FnScope nFo pFo (defScope sFo) := ⟨rfl, rfl, rfl, by decide +kernel, rfl, by decide +kernel, by decide +kernel⟩
/-- a list of rows at D; H0: the heap of before -/
def RowsAt (H0 H : Hp) (D j : Addr) (n : Nat) (as : List Addr) : Prop := H D = some (.lst (as.map V.ref)) ∧ ∀ a ∈ as, H0 a = none ∧ a ≠ D ∧ a ≠ j ∧ ∃ r : List Int, H a = some (.lst (r.map V.int)) ∧ RowOk n r
theorem RowsAt.but {H0 H H' : Hp} {D j : Addr} {n : Nat} {as : List Addr} (x : RowsAt H0 H D j n as) (b : But j H H') (hD : D ≠ j) : RowsAt H0 H' D j n as :=
  ⟨b D _ hD x.1, fun a ha => by
    obtain ⟨p1, p2, p3, r, p4, p5⟩ := x.2 a ha
    exact ⟨p1, p2, p3, r, b a _ p3 p4, p5⟩⟩
theorem RowsAt.set {H0 H : Hp} {D j a : Addr} {n : Nat} {as : List Addr} {r : List Int} (x : RowsAt H0 H D j n as) (ha : a ∈ as) (ok : RowOk n r) : RowsAt H0 (upd H a (.lst (r.map V.int))) D j n as := by
  obtain ⟨q1, q2, q3, _⟩ := x.2 a ha
  refine ⟨by rw [upd_ne (fun z => q2 z.symm)]; exact x.1, fun b hb => ?_⟩
  obtain ⟨p1, p2, p3, s, p4, p5⟩ := x.2 b hb
  by_cases e : b = a
  · rw [e]; exact ⟨q1, q2, q3, r, upd_same, ok⟩
  · exact ⟨p1, p2, p3, s, by rw [upd_ne e]; exact p4, p5⟩
theorem RowsAt.snoc {H0 H : Hp} {D j a : Addr} {n : Nat} {as : List Addr} {r : List Int} (x : RowsAt H0 H D j n as) (h0 : H0 a = none) (hD : a ≠ D) (hj : a ≠ j) (h : H a = some (.lst (r.map V.int))) (ok : RowOk n r) :
    RowsAt H0 (upd H D (.lst (as.map V.ref ++ [.ref a]))) D j n (as ++ [a]) := by
  refine ⟨by rw [upd_same, List.map_append]; rfl, fun b hb => ?_⟩
  rcases List.mem_append.mp hb with q | q
  · obtain ⟨p1, p2, p3, s, p4, p5⟩ := x.2 b q
    exact ⟨p1, p2, p3, s, by rw [upd_ne p2]; exact p4, p5⟩
  · rw [List.mem_singleton.mp q]
    exact ⟨h0, hD, hj, r, by rw [upd_ne hD]; exact h, ok⟩
theorem RowsAt.new {H0 H : Hp} {D j : Addr} {n : Nat} (h : H D = some (.lst [])) : RowsAt H0 H D j n [] := ⟨h, fun _ h => nomatch h⟩
theorem RowsAt.fresh {H0 H : Hp} {D j a : Addr} {o : HO} {n : Nat} {as : List Addr} (x : RowsAt H0 H D j n as) (h : H a = none) : RowsAt H0 (upd H a o) D j n as :=
  ⟨by rw [upd_ne (ne_of_none x.1 h)]; exact x.1, fun b hb => by
    obtain ⟨p1, p2, p3, s, p4, p5⟩ := x.2 b hb
    exact ⟨p1, p2, p3, s, by rw [upd_ne (ne_of_none p4 h)]; exact p4, p5⟩⟩
theorem RowsAt.off {H0 H : Hp} {D j a : Addr} {o : HO} {n : Nat} {as : List Addr} (x : RowsAt H0 H D j n as) (h : D ≠ a) (ha : ∀ b ∈ as, b ≠ a) : RowsAt H0 (upd H a o) D j n as :=
  ⟨by rw [upd_ne h]; exact x.1, fun b hb => by
    obtain ⟨p1, p2, p3, s, p4, p5⟩ := x.2 b hb
    exact ⟨p1, p2, p3, s, by rw [upd_ne (ha b hb)]; exact p4, p5⟩⟩
theorem RowsAt.notin {H0 H : Hp} {D j a : Addr} {n : Nat} {as : List Addr} (x : RowsAt H0 H D j n as) (h : H a = none) : ∀ b ∈ as, b ≠ a := fun b hb => by
  obtain ⟨p1, p2, p3, s, p4, p5⟩ := x.2 b hb
  exact ne_of_none p4 h
theorem RowsAt.rep {H0 H : Hp} {D j a : Addr} {n i : Nat} {as : List Addr} {r : List Int} (x : RowsAt H0 H D j n as) (h0 : H0 a = none) (hD : a ≠ D) (hj : a ≠ j) (h : H a = some (.lst (r.map V.int))) (ok : RowOk n r) :
    RowsAt H0 (upd H D (.lst ((as.map V.ref).set i (.ref a)))) D j n (as.set i a) := by
  refine ⟨by rw [upd_same, List.map_set], fun b hb => ?_⟩
  rcases List.mem_or_eq_of_mem_set hb with q | q
  · obtain ⟨p1, p2, p3, s, p4, p5⟩ := x.2 b q
    exact ⟨p1, p2, p3, s, by rw [upd_ne p2]; exact p4, p5⟩
  · rw [q]
    exact ⟨h0, hD, hj, r, by rw [upd_ne hD]; exact h, ok⟩
theorem RowsAt.same {H0 H H' : Hp} {D j : Addr} {n : Nat} {as : List Addr} (x : RowsAt H0 H D j n as) (s : Same H H') : RowsAt H0 H' D j n as :=
  ⟨s _ _ x.1, fun b hb => by
    obtain ⟨p1, p2, p3, r, p4, p5⟩ := x.2 b hb
    exact ⟨p1, p2, p3, r, s _ _ p4, p5⟩⟩
/-- one at q0 and nothing elsewhere -/
def oneR (n q0 : Nat) : List Int := (List.range n).map fun q => if q = q0 then 1 else 0
theorem oneR_len (n q0 : Nat) : (oneR n q0).length = n := by unfold oneR; rw [List.length_map, List.length_range]
theorem oneR_at {n q0 q : Nat} (h : q < n) : (oneR n q0)[q]? = some (if q = q0 then 1 else 0) := by
  unfold oneR; rw [List.getElem?_map, List.getElem?_range h]; rfl
theorem oneR_ok {n q0 : Nat} (h : q0 < n) : RowOk n (oneR n q0) := by
  have hb : ∀ x ∈ oneR n q0, 0 ≤ x ∧ x ≤ 1000000000 := fun x hx => by
    obtain ⟨q, _, rfl⟩ := List.mem_map.mp hx
    split <;> decide
  refine ⟨oneR_len n q0, hb, sum_pos (x := 1) (fun x hx => (hb x hx).1) ?_ (by decide)⟩
  exact List.mem_of_getElem? (i := q0) (by rw [oneR_at h, if_pos rfl])
theorem one_val {a b : Nat} {bb : Bool} (h : bb = decide (a = b)) : (if bb = true then (1 : Int) else 0) = if b = a then 1 else 0 := by
  subst h
  by_cases c : a = b
  · rw [decide_eq_true c, if_pos rfl, if_pos c.symm]
  · rw [decide_eq_false c, if_neg Bool.false_ne_true, if_neg (fun e => c e.symm)]
theorem dec_int {a b : Nat} {x y : Int} (hx : x = a) (hy : y = b) : decide (V.int x = V.int y) = decide (a = b) := by
  subst hx; subst hy
  refine decide_eq_decide.mpr ⟨fun h => ?_, fun h => by rw [h]⟩
  have := V.int.inj h
  omega
def spTa : Sp := fun vs H Q _ => ∃ (j : Addr) (n k : Nat), vs = [.ref j, .int n] ∧ 1 ≤ n ∧ n ≤ 6 ∧ k ≤ 700000000 ∧ WellAt H j k ∧
  ∀ (H' : Hp) (p : Addr) (w : List (List Int)), But j H H' → WellAt H' j (k + 100) → H p = none → Im H' (.ref p) (dWay w) → WayOk n w → Q (.ref p) H'
def spFo : Sp := fun vs H Q _ => ∃ (j : Addr) (l m t k : Nat), vs = [.ref j, .int l, .int m, .int t] ∧ 1 ≤ l ∧ l ≤ m ∧ m ≤ 6 ∧ 1 ≤ t ∧ t ≤ 6 ∧ k ≤ 600000000 ∧ WellAt H j k ∧
  ∀ (H' : Hp) (p c b : Addr) (ms : List Str) (ws : List (List (List Int))), But j H H' → WellAt H' j (k + 700) → H p = none → H' p = some (.tup [.ref c, .ref b]) → Im H' (.ref c) (dMinds ms) → Im H' (.ref b) (dWays ws) → MindsOk ms → WaysOk ms.length ws → l ≤ ms.length → ms.length ≤ m → ws.length ≤ t → Q (.ref p) H'
section
variable {P : Program} {w : World} {K : PySem.W.Frag} {mg : Str → Option Value} {base : Heap}
abbrev DRw (P : Program) (w : World) (K : PySem.W.Frag) (mg : Str → Option Value) (base : Heap) : Prop := DefX P w K mg base 3 "_law_row" pRw spRw
abbrev DNms (P : Program) (w : World) (K : PySem.W.Frag) (mg : Str → Option Value) (base : Heap) : Prop := DefX P w K mg base 2 "_law_names" pNms spNms
abbrev DTa (P : Program) (w : World) (K : PySem.W.Frag) (mg : Str → Option Value) (base : Heap) : Prop := DefX P w K mg base 4 "_law_table" pTa spTa
theorem ok_ta {f : Addr} {fd : FuncData} (F : Fun K "_law_table" "_law_table" sTa f fd) (T : Bt mg) (DD : DDp P w K mg base) (DW : DWei P w K mg base) (DR : DRw P w K mg base) : FnOk P w K mg base CX0 4 f fd pTa spTa := by
  refine F.ok scTa (fun vs H Q E h => ?_) (fun cdv A outer s H vs Q E hr h => ?_)
  · obtain ⟨j, n, k, rfl, _⟩ := h
    rfl
  · obtain ⟨j, n, k0, rfl, hn1, hn6, hk, J, k⟩ := h
    refine ⟨_, (pss_cons (ps_asg (pe_tup (pa_cons (pe_fn DD hr (by decide) (pa_cons (pv 0) (pa_cons pe_int pa_nil))) (pa_cons (pe_fn DD hr (by decide) (pa_cons (pv 0) (pa_cons (pv 1) pa_nil))) pa_nil))) (pg_tup (by rfl) (pgs_cons (pg_name (i := 2) scTa.nd rfl (Or.inl rfl)) (pgs_cons (pg_name (i := 3) scTa.nd rfl (Or.inr rfl)) pgs_nil))))
      (pss_cons (ps_setLc (i := 4) (own := [("_law_at", 5)]) (g := gName 5) (tt := tYes) rfl scTa.nd rfl rfl (sw_true rfl rfl rfl (by decide +kernel)) (pi_range1 rfl T.range (pa_cons (pv 1) pa_nil)) (blkOk_by (own := [("_law_at", 5)]) (N := nTa) (sc := defScope sTa) (by decide +kernel)) (fun _ _ _ _ _ => (pg_name (i := 5) scTa.nd rfl (Or.inl rfl))) (fun _ _ _ _ _ => pts_nil)
          (fun _ _ _ _ _ => (pe_fn DR hr (by decide) (pa_cons (pv 0) (pa_cons (pv 1) (pa_cons (pv 5) pa_nil))))))
      (pss_cons (ps_for PassesOwn.never rfl (pi_range1 rfl T.range (pa_cons (pv 1) pa_nil)) (pg_name (i := 5) scTa.nd rfl (Or.inr rfl))
        (pss_cons (ps_if (pt_cmpR op_lt (pv 2) pe_int (nomark _))
        (pss_one (ps_asg (pe_fn DW hr (by decide) (pa_cons (pv 0) pa_nil)) (pg_sub (pe_ix (ixL K) (pv 4) (pv 5) (fun _ _ => rfl)) (pv 3) set_list))) pss_nil)
      (pss_cons (ps_if (pt_cmpR op_eq (pv 2) pe_int (nomark _))
        (pss_one (ps_asg (pe_lc (own := [("_law_k", 6)]) (g := gName 6) (tt := tYes) rfl scTa.nd (pi_range1 rfl T.range (pa_cons (pv 1) pa_nil)) (blkOk_by (own := [("_law_k", 6)]) (N := nTa) (sc := defScope sTa) (by decide +kernel)) (fun _ _ _ _ _ => (pg_name (i := 6) scTa.nd rfl (Or.inl rfl))) (fun _ _ _ _ _ => pts_nil)
          (fun _ _ _ _ _ => (pe_callTy call_int1 (by rfl) T.int (by decide +kernel) (pa_cons (pe_cmpR op_eq (pv 5) (pv 6) (nomark _)) pa_nil)))) (pg_sub (pv 4) (pv 5) set_list))) pss_nil)
      (pss_one (ps_if (pt_cmpR op_eq (pv 2) pe_int (nomark _))
        (pss_one (ps_asg (pe_lc (own := [("_law_k", 6)]) (g := gName 6) (tt := tYes) rfl scTa.nd (pi_range1 rfl T.range (pa_cons (pv 1) pa_nil)) (blkOk_by (own := [("_law_k", 6)]) (N := nTa) (sc := defScope sTa) (by decide +kernel)) (fun _ _ _ _ _ => (pg_name (i := 6) scTa.nd rfl (Or.inl rfl))) (fun _ _ _ _ _ => pts_nil)
          (fun _ _ _ _ _ => (pe_callTy call_int1 (by rfl) T.int (by decide +kernel) (pa_cons (pe_cmpR op_eq (pe_op op_mod (pe_callTy call_int1 (by rfl) T.int (by decide +kernel) (pa_cons (pe_op op_add (pv 5) (pv 3)) pa_nil)) (pv 1)) (pv 6) (nomark _)) pa_nil)))) (pg_sub (pv 4) (pv 5) set_list))) pss_nil)))))
      (pss_one (ps_ret (pe_callTy (tupO K) (by rfl) T.tuple (by decide +kernel) (pa_cons (pe_lc (own := [("_law_row_here", 7)]) (g := gName 7) (tt := tYes) rfl scTa.nd (piL K (pv 4)) (blkOk_by (own := [("_law_row_here", 7)]) (N := nTa) (sc := defScope sTa) (by decide +kernel)) (fun _ _ _ _ _ => (pg_name (i := 7) scTa.nd rfl (Or.inl rfl))) (fun _ _ _ _ _ => pts_nil)
          (fun _ _ _ _ _ => (pe_callTy (tupO K) (by rfl) T.tuple (by decide +kernel) (pa_cons (pv 7) pa_nil)))) pa_nil))))))), ?_⟩
    refine ⟨_, rfl, j, 7, k0, rfl, by decide, by decide, by omega, J, fun H1 kd b1 J1 k0' k1' => ⟨_, rfl, _, rfl, j, n, _, rfl, by omega, by omega, by omega, J1, fun H2 ld b2 J2 l0 l1 => ?_⟩⟩
    refine ⟨by show 2 ≤ sizeLine; decide, fun p np => ?_⟩
    obtain ⟨ld, rfl⟩ : ∃ q : Nat, ld = q := ⟨ld.toNat, by omega⟩
    have hld : ld < n := by omega
    refine ⟨p, _, rfl, SqT.of upd_same, rfl, _, _, rfl, _, _, rfl, rfl, ?_⟩
    have hB3 : But j H (upd H2 p (.tup [.int kd, .int ld])) := (b1.trans b2).put ((b1.trans b2).freeJ J2.jug np)
    have J3 : WellAt (upd H2 p (.tup [.int kd, .int ld])) j (k0 + 2) := J2.upd np
    refine ⟨_, rfl, n, rfl, by omega, by omega, fun D hD => ?_⟩
    have hDj : D ≠ j := (J3.ne hD).symm
    have hD0 : H D = none := hB3.freeJ J3.jug hD
    refine lc_range (lo := 0) (n := n) (fun i H' => ∃ as : List Addr, RowsAt H H' D j n as ∧ as.length = i ∧ But j H H' ∧ WellAt H' j (k0 + 2 + 10 * i)) ⟨[], .new upd_same, rfl, hB3.put hD0, J3.upd hD⟩ ?_ ?_
    · rintro i H4 hi ⟨as, R, hl, hB4, J4⟩
      refine ⟨rfl, turnY ?_⟩
      refine ⟨_, rfl, _, rfl, _, rfl, j, n, i, _, by rw [Int.zero_add]; rfl, hn1, hn6, hi, by omega, J4, fun H5 a r b5 J5 na ha ok => ?_⟩
      have R5 := R.but b5 hDj
      exact ⟨_, R5.1, small1000 (by rw [List.length_map]; omega), as ++ [a], R5.snoc (hB4.freeJ J4.jug na) (fun z => by rw [z, R.1] at na; cases na) (J4.ne na).symm ha ok, by rw [List.length_append, hl]; rfl, (hB4.trans b5).put hD0, (J5.put hDj.symm).le (by omega)⟩
    rintro H4 ⟨as, R, hl, hB4, J4⟩
    refine ⟨_, rfl, n, rfl, by omega, by omega, ?_⟩
    rw [Int.toNat_natCast]
    refine for_range (lo := 0) (n := n) (fun i σ H' => ∃ (v5 : Option V) (as : List Addr), σ = [some (.ref j), some (.int n), some (.int kd), some (.int ld), some (.ref D), v5, none, none] ∧ RowsAt H H' D j n as ∧ as.length = n ∧ But j H H' ∧ WellAt H' j (k0 + 62 + 2 * i))
      ⟨none, as, rfl, R, hl, hB4, J4.le (by omega)⟩ ?_ ?_
    · clear R hl hB4 J4
      rintro i σ H5 hi ⟨v5, as, rfl, R, hl, hB5, J5⟩
      have hat : ∀ {as : List Addr}, as.length = n → ∃ a, a ∈ as ∧ (as.map V.ref)[i]? = some (.ref a) := fun {as} h => ⟨as[i]'(by omega), List.getElem_mem _, by rw [List.getElem?_map, List.getElem?_eq_getElem (by omega)]; rfl⟩
      show (tSeq _ _) _ ([some (.ref j), some (.int n), some (.int kd), some (.int ld), some (.ref D), some (.int (0 + (i : Int))), none, none]) H5
      have e0 : (0 + (i : Int)) = (i : Int) := Int.zero_add _
      rw [e0]
      refine ⟨_, rfl, _, _, rfl, rfl, _, rfl, tifS_join (fun σ H' => ∃ as : List Addr, σ = [some (.ref j), some (.int n), some (.int kd), some (.int ld), some (.ref D), some (.int i), none, none] ∧ RowsAt H H' D j n as ∧ as.length = n ∧ But j H H' ∧ WellAt H' j (k0 + 62 + 2 * (i + 1)))
        (fun hc N hN => ?_) (fun hc N hN => hN _ _ ⟨as, rfl, R, hl, hB5, J5.le (by omega)⟩) ?_⟩
      · refine ⟨_, rfl, j, _, rfl, by omega, J5, fun H6 z b6 J6 z1 z9 => ?_⟩
        have R6 := R.but b6 hDj
        obtain ⟨a, hm, ha⟩ := hat hl
        obtain ⟨p1, p2, p3, r, p4, p5⟩ := R6.2 a hm
        refine ⟨_, rfl, _, rfl, D, _, _, _, rfl, rfl, SqL.of R6.1, atI_nat ha, _, rfl, a, _, _, ld, rfl, rfl, p4, ixN_nat (by rw [List.length_map, p5.1]; exact hld), ?_⟩
        have ok := set_ok (k := ld) p5.1 p5.2.1 hld z1 z9
        rw [← List.map_set]
        exact hN _ _ ⟨as, rfl, R6.set hm ok, hl, (hB5.trans b6).put p1, (J6.put p3.symm).le (by omega)⟩
      clear R hl hB5 J5 as v5
      rintro σ H6 ⟨as, rfl, R, hl, hB6, J6⟩
      refine ⟨_, rfl, rfl, _, rfl, tifS_join (fun σ H' => ∃ as : List Addr, σ = [some (.ref j), some (.int n), some (.int kd), some (.int ld), some (.ref D), some (.int i), none, none] ∧ RowsAt H H' D j n as ∧ as.length = n ∧ But j H H' ∧ WellAt H' j (k0 + 62 + 2 * (i + 1)))
        (fun hc N hN => ?_) (fun hc N hN => hN _ _ ⟨as, rfl, R, hl, hB6, J6⟩) ?_⟩
      · refine ⟨_, rfl, n, rfl, by omega, by omega, fun L hL => ?_⟩
        refine lc_range (lo := 0) (n := n) (PvS H6 L ((oneR n i).map V.int)) (pvs0 hL) ?_ (fun G h => ?_)
        · rintro q G hq h
          refine ⟨rfl, turnY ?_⟩
          refine ⟨_, rfl, _, rfl, rfl, .inr ⟨_, rfl, ?_⟩⟩
          refine pvs1 hL h (Same.refl _) (by rw [List.length_map, oneR_len]; omega) ?_
          rw [List.getElem?_map, oneR_at hq]
          exact congrArg (fun z => some (V.int z)) (one_val (dec_int rfl (Int.zero_add _))).symm
        · obtain ⟨s7, hL7⟩ := pvsE h (by rw [List.length_map, oneR_len])
          have hL0 : H L = none := hB6.freeJ J6.jug hL
          have hLD : L ≠ D := fun z => by rw [z, R.1] at hL; cases hL
          have hLj : L ≠ j := (J6.ne hL).symm
          have R7 := R.same s7
          refine ⟨_, rfl, _, rfl, D, _, _, i, rfl, rfl, R7.1, ixN_nat (by rw [List.length_map, hl]; exact hi), ?_⟩
          exact hN _ _ ⟨as.set i L, rfl, R7.rep hL0 hLD hLj hL7 (oneR_ok hi), by rw [List.length_set]; exact hl, (hB6.trans (But.of s7)).put hD0, (J6.same s7).put hDj.symm⟩
      clear R hl hB6 J6 as
      rintro σ H7 ⟨as, rfl, R, hl, hB7, J7⟩
      refine ⟨_, rfl, rfl, _, rfl, ite2 (fun hc => ?_) (fun hc => ⟨_, as, rfl, R, hl, hB7, J7⟩)⟩
      refine ⟨_, rfl, n, rfl, by omega, by omega, fun L hL => ?_⟩
      have hmod : (i + ld) % n < n := Nat.mod_lt _ (by omega)
      refine lc_range (lo := 0) (n := n) (PvS H7 L ((oneR n ((i + ld) % n)).map V.int)) (pvs0 hL) ?_ (fun G h => ?_)
      · rintro q G hq h
        refine ⟨rfl, turnY ?_⟩
        refine ⟨_, rfl, _, rfl, _, _, rfl, rfl, .inl ⟨_, rfl, _, rfl, _, _, rfl, rfl, by omega, _, rfl, rfl, .inr ⟨_, rfl, ?_⟩⟩⟩
        refine pvs1 hL h (Same.refl _) (by rw [List.length_map, oneR_len]; omega) ?_
        rw [List.getElem?_map, oneR_at hq]
        exact congrArg (fun z => some (V.int z)) (one_val (dec_int (by norm_cast) (Int.zero_add _))).symm
      · obtain ⟨s7, hL7⟩ := pvsE h (by rw [List.length_map, oneR_len])
        have hL0 : H L = none := hB7.freeJ J7.jug hL
        have hLD : L ≠ D := fun z => by rw [z, R.1] at hL; cases hL
        have hLj : L ≠ j := (J7.ne hL).symm
        have R7 := R.same s7
        refine ⟨_, rfl, _, rfl, D, _, _, i, rfl, rfl, R7.1, ixN_nat (by rw [List.length_map, hl]; exact hi), ?_⟩
        exact ⟨_, as.set i L, rfl, R7.rep hL0 hLD hLj hL7 (oneR_ok hmod), by rw [List.length_set]; exact hl, (hB7.trans (But.of s7)).put hD0, (J7.same s7).put hDj.symm⟩
    clear R hl hB4 J4
    rintro σ H5 ⟨v5, as, rfl, R, hl, hB5, J5⟩
    refine ⟨_, rfl, D, rfl, ⟨_, SqL.of R.1⟩, fun L hL => ?_⟩
    have hLj : L ≠ j := (J5.ne hL).symm
    have hL0 : H L = none := hB5.freeJ J5.jug hL
    have hLD : L ≠ D := fun z => by rw [z, R.1] at hL; cases hL
    have hLb := R.notin hL
    refine lc_list (K := K) (a := D) (xs := as.map V.ref) (fun i H' => ∃ (w : List (List Int)) (vs : List V), H' L = some (.lst vs) ∧ ImAll H' vs (w.map dRow) ∧ w.length = i ∧ (∀ r ∈ w, RowOk n r) ∧ RowsAt H H' D j n as ∧ But j H H' ∧ WellAt H' j (k0 + 100))
      ⟨[], [], upd_same, .nil, rfl, (fun _ h => nomatch h), R.fresh hL, hB5.put hL0, (J5.upd hL).le (by omega)⟩ (fun i H' _ ⟨_, _, _, _, _, _, R', _⟩ => SqL.of R'.1) ?_ ?_
    · rintro i x H6 hx ⟨w, vs, h6, hA, hlw, hw, R6, hB6, J6⟩
      have hi : i < as.length := by
        have := (List.getElem?_eq_some_iff.mp hx).1
        rwa [List.length_map] at this
      rw [List.getElem?_map, List.getElem?_eq_getElem hi] at hx
      cases Option.some.inj hx
      obtain ⟨p1, p2, p3, r, p4, p5⟩ := R6.2 _ (List.getElem_mem hi)
      refine ⟨rfl, turnY ?_⟩
      refine ⟨_, rfl, _, _, rfl, .inl ⟨SqL.of p4, fun p np => ?_⟩⟩
      have hvl : vs.length = i := by rw [hA.length, List.length_map, hlw]
      have h7 : (upd H6 p (HO.tup (r.map V.int))) L = some (.lst vs) := by rw [upd_ne (ne_of_none h6 np)]; exact h6
      refine ⟨_, h7, small1000 (by omega), w ++ [r], vs ++ [.ref p], upd_same, ?_, by rw [List.length_append, hlw]; rfl, fun x hx => ?_, (R6.fresh np).off hLD.symm hLb, (hB6.put (hB6.freeJ J6.jug np)).put hL0, (J6.upd np).put hLj.symm⟩
      · rw [List.map_append]
        exact ImAll.mono (TupS.lst h7) _ _ (ImAll.snoc (.tup Tu.up (imInts r)) (ImAll.mono (TupS.new np) _ _ hA))
      · rcases List.mem_append.mp hx with q | q
        · exact hw x q
        · rw [List.mem_singleton.mp q]; exact p5
    · rintro H6 ⟨w, vs, h6, hA, hlw, hw, R6, hB6, J6⟩
      rw [List.length_map, hl] at hlw
      exact ⟨L, vs, rfl, .inl ⟨SqL.of h6, fun p np => k _ p w (hB6.put (hB6.freeJ J6.jug np)) (J6.upd np) (hB6.freeJ J6.jug np) (.tup Tu.up (ImAll.mono (TupS.new np) _ _ hA)) ⟨hlw, hw⟩⟩⟩
theorem ok_fo {f : Addr} {fd : FuncData} (F : Fun K "_law_folk" "_law_folk" sFo f fd) (T : Bt mg) (DD : DDp P w K mg base) (DN : DNms P w K mg base) (DT : DTa P w K mg base) : FnOk P w K mg base CX0 5 f fd pFo spFo := by
  refine F.ok scFo (fun vs H Q E h => ?_) (fun cdv A outer s H vs Q E hr h => ?_)
  · obtain ⟨j, l, m, t, k, rfl, _⟩ := h
    rfl
  · obtain ⟨j, l, m, t, k0, rfl, l1, lm, m6, t1, t6, hk, J, k⟩ := h
    refine ⟨_, (pss_cons (ps_set (i := 4) scFo.nd rfl (Or.inr rfl) (pe_op op_add (pv 1) (pe_fn DD hr (by decide) (pa_cons (pv 0) (pa_cons (pe_op op_add (pe_op op_sub (pv 2) (pv 1)) pe_int) pa_nil)))))
      (pss_one (ps_ret (pe_tup (pa_cons (pe_fn DN hr (by decide) (pa_cons (pv 0) (pa_cons (pv 4) pa_nil))) (pa_cons (pe_callTy (tupO K) (by rfl) T.tuple (by decide +kernel) (pa_cons (pe_lc (own := [("_law_k", 5)]) (g := gName 5) (tt := tYes) rfl scFo.nd (pi_range1 rfl T.range (pa_cons (pe_op op_add pe_int (pe_fn DD hr (by decide) (pa_cons (pv 0) (pa_cons (pv 3) pa_nil)))) pa_nil)) (blkOk_by (own := [("_law_k", 5)]) (N := nFo) (sc := defScope sFo) (by decide +kernel)) (fun _ _ _ _ _ => (pg_name (i := 5) scFo.nd rfl (Or.inl rfl))) (fun _ _ _ _ _ => pts_nil)
          (fun _ _ _ _ _ => (pe_fn DT hr (by decide) (pa_cons (pv 0) (pa_cons (pv 4) pa_nil))))) pa_nil)) pa_nil)))))), ?_⟩
    refine ⟨_, rfl, _, rfl, _, rfl, _, rfl, _, _, rfl, rfl, _, _, rfl, rfl, j, _, k0, rfl, by omega, by omega, by omega, J, fun H1 d b1 J1 d0 d1 => ⟨_, _, rfl, rfl, ?_⟩⟩
    obtain ⟨n, hn⟩ : ∃ n : Nat, (l : Int) + d = n := ⟨((l : Int) + d).toNat, by omega⟩
    show gName 4 (V.int ((l : Int) + d)) _ _ _
    rw [hn]
    refine ⟨_, rfl, _, rfl, j, n, _, rfl, by omega, by omega, by omega, J1, fun H2 c ms b2 J2 nc ic mo hl => ?_⟩
    refine ⟨_, rfl, _, rfl, j, t, _, rfl, by omega, by omega, by omega, J2, fun H3 e b3 J3 e0 e1 => ?_⟩
    obtain ⟨q, hq⟩ : ∃ q : Nat, 1 + e = q := ⟨(1 + e).toNat, by omega⟩
    refine ⟨_, _, rfl, rfl, q, by rw [← hq], by omega, by omega, fun D hD => ?_⟩
    have hB3 := (b1.trans b2).trans b3
    have hD0 : H D = none := hB3.freeJ J3.jug hD
    have hDj : D ≠ j := (J3.ne hD).symm
    have ic3 := Im.mono (b3.tups J2.jug) _ _ ic
    refine lc_range (lo := 0) (n := q) (fun i H' => ∃ (ws : List (List (List Int))) (vs : List V), H' D = some (.lst vs) ∧ ImAll H' vs (ws.map dWay) ∧ ws.length = i ∧ (∀ r ∈ ws, WayOk n r) ∧ But j H H' ∧ WellAt H' j (k0 + 4 + 100 * i) ∧ Im H' (.ref c) (dMinds ms))
      ⟨[], [], upd_same, .nil, rfl, (fun _ h => nomatch h), hB3.put hD0, (J3.upd hD).le (by omega), Im.mono (TupS.new hD) _ _ ic3⟩ ?_ ?_
    · rintro i H4 hi ⟨ws, vs, hD4, hAl, hl, hw, hB4, J4, u4⟩
      refine ⟨rfl, turnY ?_⟩
      refine ⟨_, rfl, _, rfl, j, n, _, rfl, by omega, by omega, by omega, J4, fun H5 p r b5 J5 np hp ok => ?_⟩
      have hD5 : H5 D = some (.lst vs) := b5 D _ hDj hD4
      have hvl : vs.length = i := by rw [hAl.length, List.length_map, hl]
      refine ⟨_, hD5, small1000 (by omega), ws ++ [r], vs ++ [.ref p], upd_same, ?_, by rw [List.length_append, hl]; rfl, fun x hx => ?_, (hB4.trans b5).put hD0, (J5.put hDj.symm).le (by omega), Im.mono (TupS.lst hD5) _ _ (Im.mono (b5.tups J4.jug) _ _ u4)⟩
      · rw [List.map_append]
        exact ImAll.mono (TupS.lst hD5) _ _ (ImAll.snoc hp (ImAll.mono (b5.tups J4.jug) _ _ hAl))
      · rcases List.mem_append.mp hx with q | q
        · exact hw x q
        · rw [List.mem_singleton.mp q]; exact ok
    · rintro H4 ⟨ws, vs, hD4, hAl, hwl, hw, hB4, J4, u4⟩
      refine ⟨D, vs, rfl, .inl ⟨SqL.of hD4, fun p2 np2 => ⟨by show 2 ≤ sizeLine; decide, fun p3 np3 => ?_⟩⟩⟩
      have np2' : H p2 = none := hB4.freeJ J4.jug np2
      have J5 := J4.upd (o := HO.tup vs) np2
      have hB5 : But j H (upd H4 p2 (.tup vs)) := hB4.put np2'
      have np3' : H p3 = none := hB5.freeJ J5.jug np3
      have t5 : TupS H4 (upd (upd H4 p2 (.tup vs)) p3 (.tup [.ref c, .ref p2])) := (TupS.new np2).trans (TupS.new np3)
      refine k _ p3 c p2 ms ws (hB5.put np3') ((J5.upd np3).le (by omega)) np3' upd_same (Im.mono t5 _ _ u4) (.tup ((TupS.new np3) _ _ Tu.up) (ImAll.mono t5 _ _ hAl)) mo ⟨by omega, by omega, by omega, by rw [hl]; exact hw⟩ (by omega) (by omega) (by omega)
end
end M

namespace M
open PySem L2 U
abbrev sWT : Stmt := top 29
abbrev nWT : List Str := ["way", "weight", "row"]
abbrev pWT : List Str := ["way"]
theorem scWT : FnScope nWT pWT (defScope sWT) := ⟨rfl, rfl, rfl, by decide +kernel, rfl, by decide +kernel, by decide +kernel⟩
abbrev sRWy : Stmt := top 30
abbrev nRWy : List Str := ["line", "word", "row"]
abbrev pRWy : List Str := ["line"]
theorem scRWy : FnScope nRWy pRWy (defScope sRWy) := ⟨rfl, rfl, rfl, by decide +kernel, rfl, by decide +kernel, by decide +kernel⟩
abbrev sRWt : Stmt := top 31
abbrev nRWt : List Str := ["word", "weight"]
abbrev pRWt : List Str := ["word"]
theorem scRWt : FnScope nRWt pRWt (defScope sRWt) := ⟨rfl, rfl, rfl, by decide +kernel, rfl, by decide +kernel, by decide +kernel⟩
/-! ### texts of numbers, rows, ways -/
def numT (i : Int) : Str := Str.ofString (toString i)
def rowT (r : List Int) : Str := Txt.join "," (r.map numT)
def wayT (w : List (List Int)) : Str := Txt.join " " (w.map rowT)
theorem num_len {i : Int} (h0 : 0 ≤ i) (h1 : i ≤ 1000000000) : (numT i).length ≤ 10 := PySem.W.KT.len_num h0 (by omega)
theorem num_signs {i : Int} (h0 : 0 ≤ i) : ∀ c ∈ (numT i).cps.toList, 48 ≤ c ∧ c ≤ 57 := by
  obtain ⟨m, rfl⟩ := Int.eq_ofNat_of_zero_le h0
  intro c hc
  unfold numT at hc
  rw [PySem.W.KIN.signs_num] at hc
  obtain ⟨ch, hch, e⟩ := List.mem_map.mp hc
  have r := PyProof.Rows.digit_range (Nat.isDigit_of_mem_toDigits (by decide) (by decide) hch)
  rw [← e]
  exact r
theorem num_ne {i : Int} (h0 : 0 ≤ i) : 1 ≤ (numT i).length := PySem.W.KLn.one_le h0
theorem num_ascii {i : Int} (h0 : 0 ≤ i) : Txt.isascii (numT i) = true := by
  show (numT i).cps.all (· < 128) = true
  rw [← Array.all_toList]
  exact List.all_eq_true.mpr fun c hc => decide_eq_true (by have := num_signs h0 c hc; omega)
theorem dig10 : ∀ d : Nat, d < 10 → Unicode.isDigit (48 + d) = true := by decide +kernel
theorem num_isdigit {i : Int} (h0 : 0 ≤ i) : Txt.isdigit (numT i) = true := by
  have h1 := num_ne h0
  show (decide ((numT i).length > 0) && (numT i).cps.all Unicode.isDigit) = true
  rw [decide_eq_true (by omega), Bool.true_and, ← Array.all_toList]
  refine List.all_eq_true.mpr fun c hc => ?_
  have h2 := num_signs h0 c hc
  have := dig10 (c - 48) (by omega)
  rwa [show 48 + (c - 48) = c by omega] at this
theorem num_reads {i : Int} (h0 : 0 ≤ i) (h1 : i ≤ 1000000000) : PySem.intText? (numT i) = some i := PySem.W.KIN.num_reads h0 (by omega)
theorem num_log {i : Int} (h0 : 0 ≤ i) (h1 : i ≤ 1000000000) : i.natAbs.log2 < 1920 := by
  by_cases z : i.natAbs = 0
  · rw [z]; decide
  · refine (Nat.log2_lt z).mpr ?_
    have : i.natAbs < 2 ^ 31 := by
      have e : (2 : Nat) ^ 31 = 2147483648 := by decide
      omega
    exact Nat.lt_of_lt_of_le this (Nat.pow_le_pow_right (by decide) (by decide))
theorem sum_le {α : Type} {f : α → Nat} {c : Nat} : ∀ {l : List α}, (∀ x ∈ l, f x ≤ c) → (l.map f).sum ≤ l.length * c
  | [], _ => Nat.zero_le _
  | x :: l, h => by
    have h1 := h x List.mem_cons_self
    have h2 := sum_le fun y hy => h y (List.mem_cons_of_mem _ hy)
    rw [List.map_cons, List.sum_cons, List.length_cons, Nat.succ_mul]
    omega
theorem join_len {sep : Str} {ys : List Str} {c : Nat} (h : ∀ y ∈ ys, y.length ≤ c) : (Txt.join sep ys).length ≤ ys.length * (c + sep.length) := by
  rw [TL.join_eq]
  refine Nat.le_trans (StrLaws.join_length_le sep ys) ?_
  have := sum_le (f := fun y : Str => y.length) h
  rw [Nat.mul_add]
  omega
theorem row_len {n : Nat} {r : List Int} (h : RowOk n r) (hn : n ≤ 6) : (rowT r).length ≤ 66 := by
  have := join_len (sep := ",") (ys := r.map numT) (c := 10) fun y hy => by
    obtain ⟨i, hi, rfl⟩ := List.mem_map.mp hy
    exact num_len (h.2.1 i hi).1 (h.2.1 i hi).2
  rw [List.length_map, h.1] at this
  have e : (("," : Str)).length = 1 := rfl
  rw [e] at this
  exact Nat.le_trans this (Nat.mul_le_mul_right 11 hn)
theorem way_len {n : Nat} {w : List (List Int)} (h : WayOk n w) (hn : n ≤ 6) : (wayT w).length ≤ 402 := by
  have := join_len (sep := " ") (ys := w.map rowT) (c := 66) fun y hy => by
    obtain ⟨r, hr, rfl⟩ := List.mem_map.mp hy
    exact row_len (h.2 r hr) hn
  rw [List.length_map, h.1] at this
  have e : ((" " : Str)).length = 1 := rfl
  rw [e] at this
  exact Nat.le_trans this (Nat.mul_le_mul_right 67 hn)
def spWT : Sp := fun vs H Q _ => ∃ (v : V) (n : Nat) (ws : List (List Int)), vs = [v] ∧ Im H v (dWay ws) ∧ WayOk n ws ∧ n ≤ 6 ∧ ∀ H', Same H H' → Q (.str (wayT ws)) H'
def spRWt : Sp := fun vs H Q _ => ∃ (i : Int), vs = [.str (numT i)] ∧ 0 ≤ i ∧ i ≤ 1000000000 ∧ Q (.int i) H
section
variable {P : Program} {w : World} {K : PySem.W.Frag} {mg : Str → Option Value} {base : Heap}
theorem ok_rwt {f : Addr} {fd : FuncData} (F : Fun K "read_weight" "read_weight" sRWt f fd) (T : Bt mg) : FnOk P w K mg base CX0 1 f fd pRWt spRWt := by
  refine F.ok scRWt (fun vs H Q E h => ?_) (fun cdv A outer s H vs Q E hr h => ?_)
  · obtain ⟨i, rfl, _⟩ := h
    rfl
  · obtain ⟨i, rfl, h0, h1, k⟩ := h
    refine ⟨_, (pss_cons (ps_if (PW.pt (pw_or (pt_not (PW.pt (pw_and (pt_val (pbm0 K PySem.F.plainAttrs_str PySem.F.slot_str_isascii PySem.F.type_str_isascii mt_isascii (pv 0))) (pw_and1 (pt_val (pbm0 K PySem.F.plainAttrs_str PySem.F.slot_str_isdigit PySem.F.type_str_isdigit mt_isdigit (pv 0))))))) (pw_or1 (pt_cmpR op_gt (pe_callB call_len_str (by rfl) T.len (by decide +kernel) (pa_cons (pv 0) pa_nil)) (pe_callB call_len_str (by rfl) T.len (by decide +kernel) (pa_cons (pe_callTy call_str_int (by rfl) T.str (by decide +kernel) (pa_cons (pe_globE T.g_MOST_WEIGHT) pa_nil)) pa_nil)) (nomark _)))))
        (pss_one (ps_ret pe_non)) pss_nil)
      (pss_cons (ps_set (i := 1) scRWt.nd rfl (Or.inl rfl) (pe_callTy call_int_str (by rfl) T.int (by decide +kernel) (pa_cons (pv 0) pa_nil)))
      (pss_one (ps_ret (pe_ifExp (pt_cmpR op_eq (pe_callTy call_str_int (by rfl) T.str (by decide +kernel) (pa_cons (pv 1) pa_nil)) (pv 0) (nomark _)) (pv 1) pe_non))))), ?_⟩
    have hl := num_len h0 h1
    have lz : (numT i).length ≤ sizeLine := Nat.le_trans hl (by decide)
    refine ⟨_, rfl, rfl, _, rfl, rfl, trivial, _, rfl, ?_⟩
    rw [num_ascii h0]
    refine iteT ⟨_, rfl, rfl, _, rfl, rfl, trivial, _, rfl, ?_⟩
    rw [num_isdigit h0]
    refine iteF ?_
    refine ⟨_, rfl, _, rfl, lz, _, rfl, by decide, _, rfl, by decide +kernel, _, _, rfl, rfl, _, rfl, ite2 (fun z => ?_) (fun _ => ?_)⟩
    · exfalso
      have z' := of_decide_eq_true z
      have e : (Str.ofString (toString (1000000000 : Int))).length = 10 := by decide +kernel
      rw [e] at z'
      omega
    refine ⟨_, rfl, _, _, rfl, num_reads h0 h1, Nat.le_trans hl (by decide), ?_⟩
    refine ⟨_, rfl, _, rfl, ?_, _, rfl, rfl, _, rfl, ite2 (fun _ => ⟨_, rfl, k⟩) (fun z => ?_)⟩
    · exact num_log h0 h1
    · exact absurd (decide_eq_true rfl) z
theorem ok_wt {f : Addr} {fd : FuncData} (F : Fun K "way_text" "way_text" sWT f fd) (T : Bt mg) : FnOk P w K mg base CX0 1 f fd pWT spWT := by
  refine F.ok scWT (fun vs H Q E h => ?_) (fun cdv A outer s H vs Q E hr h => ?_)
  · obtain ⟨v, n, ws, rfl, _⟩ := h
    rfl
  · obtain ⟨v, n, ws, rfl, im, ok, hn, k⟩ := h
    obtain ⟨a, xs, rfl, ha, hall⟩ := im.tuple
    have hxl : xs.length = ws.length := by rw [hall.length, List.length_map]
    have hwl : ws.length = n := ok.1
    refine ⟨_, (pss_one (ps_ret (pjoin K pe_str (pa_cons (pe_lc (own := [("row", 2)]) (g := gName 2) (tt := tYes) rfl scWT.nd (piT K (pv 0)) (blkOk_by (own := [("row", 2)]) (N := nWT) (sc := defScope sWT) (by decide +kernel)) (fun _ _ _ _ _ => (pg_name (i := 2) scWT.nd rfl (Or.inl rfl))) (fun _ _ _ _ _ => pts_nil)
          (fun _ _ _ _ _ => (pjoin K pe_str (pa_cons (pe_lc (own := [("weight", 1)]) (g := gName 1) (tt := tYes) rfl scWT.nd (piT K (pv 2)) (blkOk_by (own := [("weight", 1)]) (N := nWT) (sc := _) (by kernel_rfl)) (fun _ _ _ _ _ => (pg_name (i := 1) scWT.nd rfl (Or.inl rfl))) (fun _ _ _ _ _ => pts_nil)
          (fun _ _ _ _ _ => (pe_callTy call_str_int (by rfl) T.str (by decide +kernel) (pa_cons (pv 1) pa_nil)))) pa_nil)))) pa_nil)))), ?_⟩
    refine ⟨rfl, _, rfl, a, rfl, ⟨_, ha.sq⟩, fun D hD => ?_⟩
    refine lc_it (walk_tup (K := K) (a := a) (xs := xs)) (PvS H D ((ws.map rowT).map V.str)) (pvs0 hD) (fun i H1 _ h => (ha.same h.1).sq) ?_ (fun H1 h => ?_)
    · rintro i x _ H1 hi h ⟨rfl, hx⟩
      obtain ⟨d, hd, imx⟩ := hall.get hx
      rw [List.getElem?_map] at hd
      cases hz : ws[i]? with
      | none => rw [hz] at hd; cases hd
      | some r =>
        rw [hz] at hd
        cases hd
        have hrow := ok.2 r (List.mem_of_getElem? hz)
        obtain ⟨a2, ys, rfl, ha2, hall2⟩ := imx.tuple
        have hys := hall2.ints
        subst hys
        have ha3 := ha2.same h.1
        refine ⟨rfl, turnY ?_⟩
        refine ⟨rfl, _, rfl, a2, rfl, ⟨_, ha3.sq⟩, fun D2 hD2 => ?_⟩
        refine lc_it (walk_tup (K := K) (a := a2) (xs := r.map V.int)) (PvS H1 D2 ((r.map numT).map V.str)) (pvs0 hD2) (fun i H1 _ h => (ha3.same h.1).sq) ?_ (fun H2 h2 => ?_)
        · rintro i2 x _ H2 hi2 h2 ⟨rfl, hx⟩
          rw [List.getElem?_map] at hx
          cases hz2 : r[i2]? with
          | none => rw [hz2] at hx; cases hx
          | some z =>
            rw [hz2] at hx
            cases hx
            have hm := hrow.2.1 z (List.mem_of_getElem? hz2)
            refine ⟨rfl, turnY ?_⟩
            exact ⟨_, rfl, z, rfl, num_log hm.1 hm.2, pvs1 hD2 h2 (Same.refl _) (by rw [List.length_map, List.length_map, hrow.1]; omega) (by rw [List.getElem?_map, List.getElem?_map, hz2]; rfl)⟩
        obtain ⟨s2, hl2⟩ := pvsE h2 (by rw [List.length_map, List.length_map, List.length_map])
        refine ⟨",", D2, r.map numT, rfl, rfl, .inl (SqL.of hl2), ?_, ?_⟩
        · have q := sum_le (f := fun y : Str => y.length) (l := r.map numT) (c := 10) fun y hy => by
            obtain ⟨i, hi, rfl⟩ := List.mem_map.mp hy
            exact num_len (hrow.2.1 i hi).1 (hrow.2.1 i hi).2
          rw [List.length_map, hrow.1] at q ⊢
          have e : (("," : Str)).length = 1 := rfl
          rw [e]
          omega
        · exact pvs1 hD h s2 (by rw [List.length_map, List.length_map]; omega) (by rw [List.getElem?_map, List.getElem?_map, hz]; rfl)
    obtain ⟨s1, hl1⟩ := pvsE h (by rw [List.length_map, List.length_map, hxl])
    refine ⟨" ", D, ws.map rowT, rfl, rfl, .inl (SqL.of hl1), ?_, k H1 s1⟩
    have q := sum_le (f := fun y : Str => y.length) (l := ws.map rowT) (c := 66) fun y hy => by
      obtain ⟨r, hr, rfl⟩ := List.mem_map.mp hy
      exact row_len (ok.2 r hr) hn
    rw [List.length_map, hwl] at q ⊢
    have e : ((" " : Str)).length = 1 := rfl
    rw [e]
    omega
def spRWy : Sp := fun vs H Q _ => ∃ (n : Nat) (ws : List (List Int)), vs = [.str (wayT ws)] ∧ WayOk n ws ∧ 1 ≤ n ∧ n ≤ 6 ∧ ∀ (H' : Hp) (p : Addr), Same H H' → H p = none → Im H' (.ref p) (dWay ws) → Q (.ref p) H'
theorem row_split {n : Nat} {r : List Int} (h : RowOk n r) (hn : 1 ≤ n) : Txt.split (rowT r) "," = r.map numT := by
  refine TL.split_join (s := 44) (S := []) rfl (by decide +kernel) (fun e => ?_) fun p hp => ?_
  · have := congrArg List.length e
    rw [List.length_map, h.1] at this
    exact absurd this (by simp; omega)
  · obtain ⟨i, hi, rfl⟩ := List.mem_map.mp hp
    intro z
    have := num_signs (h.2.1 i hi).1 44 z
    omega
theorem row_signs {n : Nat} {r : List Int} (h : RowOk n r) : ∀ c ∈ (rowT r).cps.toList, c = 44 ∨ (48 ≤ c ∧ c ≤ 57) := by
  intro c hc
  unfold rowT at hc
  rw [TL.join_eq] at hc
  have hc' : c ∈ TL.tl (Str.join "," (r.map numT)) := hc
  rw [TL.tl_join] at hc'
  have key : ∀ ps : List (List Nat), (∀ p ∈ ps, ∀ c ∈ p, 48 ≤ c ∧ c ≤ 57) → ∀ c ∈ TL.joinL [44] ps, c = 44 ∨ (48 ≤ c ∧ c ≤ 57) := by
    intro ps
    induction ps with
    | nil => intro _ c h; cases h
    | cons p ps ih =>
      intro h c hc
      cases ps with
      | nil => exact Or.inr (h p List.mem_cons_self c hc)
      | cons q r =>
        have hc : c ∈ p ++ ([44] ++ TL.joinL [44] (q :: r)) := hc
        rcases List.mem_append.mp hc with z | z
        · exact Or.inr (h p List.mem_cons_self c z)
        · rcases List.mem_append.mp z with z | z
          · exact Or.inl (List.mem_singleton.mp z)
          · exact ih (fun p' hp' => h p' (List.mem_cons_of_mem _ hp')) c z
  refine key _ (fun p hp => ?_) c hc'
  rw [List.map_map] at hp
  obtain ⟨i, hi, rfl⟩ := List.mem_map.mp hp
  exact num_signs (h.2.1 i hi).1
theorem way_split {n : Nat} {w : List (List Int)} (h : WayOk n w) (hn : 1 ≤ n) : Txt.split (wayT w) " " = w.map rowT := by
  refine TL.split_join (s := 32) (S := []) rfl (by decide +kernel) (fun e => ?_) fun p hp => ?_
  · have := congrArg List.length e
    rw [List.length_map, h.1] at this
    exact absurd this (by simp; omega)
  · obtain ⟨r, hr, rfl⟩ := List.mem_map.mp hp
    intro z
    have := row_signs (h.2 r hr) 32 z
    omega
theorem ok_rwy {f : Addr} {fd : FuncData} (F : Fun K "read_way" "read_way" sRWy f fd) (T : Bt mg) (DW : DefX P w K mg base 1 "read_weight" pRWt spRWt) : FnOk P w K mg base CX0 3 f fd pRWy spRWy := by
  refine F.ok scRWy (fun vs H Q E h => ?_) (fun cdv A outer s H vs Q E hr h => ?_)
  · obtain ⟨n, ws, rfl, _⟩ := h
    rfl
  · obtain ⟨n, ws, rfl, ok, hn1, hn, k⟩ := h
    have hwl : ws.length = n := ok.1
    refine ⟨_, (pss_one (ps_ret (pe_callTy (tupO K) (by rfl) T.tuple (by decide +kernel) (pa_cons (pe_lc (own := [("row", 2)]) (g := gName 2) (tt := tYes) rfl scRWy.nd (piL K (pbm K PySem.F.plainAttrs_str PySem.F.slot_str_split PySem.F.type_str_split mt_split (pv 0) (pa_cons pe_str pa_nil))) (blkOk_by (own := [("row", 2)]) (N := nRWy) (sc := defScope sRWy) (by decide +kernel)) (fun _ _ _ _ _ => (pg_name (i := 2) scRWy.nd rfl (Or.inl rfl))) (fun _ _ _ _ _ => pts_nil)
          (fun _ _ _ _ _ => (pe_callTy (tupO K) (by rfl) T.tuple (by decide +kernel) (pa_cons (pe_lc (own := [("word", 1)]) (g := gName 1) (tt := tYes) rfl scRWy.nd (piL K (pbm K PySem.F.plainAttrs_str PySem.F.slot_str_split PySem.F.type_str_split mt_split (pv 2) (pa_cons pe_str pa_nil))) (blkOk_by (own := [("word", 1)]) (N := nRWy) (sc := _) (by kernel_rfl)) (fun _ _ _ _ _ => (pg_name (i := 1) scRWy.nd rfl (Or.inl rfl))) (fun _ _ _ _ _ => pts_nil)
          (fun _ _ _ _ _ => (pe_fn DW hr (by decide) (pa_cons (pv 1) pa_nil)))) pa_nil)))) pa_nil)))), ?_⟩
    have wl := way_len ok hn
    refine ⟨_, rfl, rfl, _, _, rfl, rfl, rfl, Nat.le_trans (Nat.add_le_add_right wl 2) (by decide), fun L hL => ?_⟩
    rw [way_split ok hn1]
    refine ⟨L, rfl, ⟨_, SqL.of upd_same⟩, fun D hD => ?_⟩
    have hLD : L ≠ D := ne_of_none upd_same hD
    have hD' : H D = none := (same_upd hL).free hD
    refine lc_it (walk_list (K := K) (a := L) (xs := (ws.map rowT).map V.str)) (fun i H1 => ∃ vs : List V, H1 D = some (.lst vs) ∧ ImAll H1 vs ((ws.take i).map dRow) ∧ Same H H1 ∧ H1 L = some (.lst ((ws.map rowT).map V.str)))
      ⟨[], upd_same, .nil, (same_upd hL).trans (same_upd hD), by rw [upd_ne hLD]; exact upd_same⟩ (fun i H1 _ h => by obtain ⟨_, _, _, _, h4⟩ := h; exact SqL.of h4) ?_ (fun H1 h => ?_)
    · rintro i x _ H1 hi ⟨vs, hv, hA, s1, h4⟩ ⟨rfl, hx⟩
      rw [List.getElem?_map, List.getElem?_map] at hx
      cases hz : ws[i]? with
      | none => rw [hz] at hx; cases hx
      | some r =>
        rw [hz] at hx
        cases hx
        have hrow := ok.2 r (List.mem_of_getElem? hz)
        have rl := row_len hrow hn
        refine ⟨rfl, turnY ?_⟩
        refine ⟨_, rfl, rfl, _, _, rfl, rfl, rfl, Nat.le_trans (Nat.add_le_add_right rl 2) (by decide), fun L2 hL2 => ?_⟩
        rw [row_split hrow hn1]
        refine ⟨L2, rfl, ⟨_, SqL.of upd_same⟩, fun D2 hD2 => ?_⟩
        have t1 : Same H1 (upd H1 L2 (.lst ((r.map numT).map V.str))) := same_upd hL2
        refine lc_it (walk_list (K := K) (a := L2) (xs := (r.map numT).map V.str)) (PvS (upd H1 L2 (.lst ((r.map numT).map V.str))) D2 (r.map V.int)) (pvs0 hD2) (fun i H1 _ h => SqL.of (h.1 _ _ upd_same)) ?_ (fun H2 h2 => ?_)
        · rintro i2 x _ H2 hi2 h2 ⟨rfl, hx⟩
          rw [List.getElem?_map, List.getElem?_map] at hx
          cases hz2 : r[i2]? with
          | none => rw [hz2] at hx; cases hx
          | some z =>
            rw [hz2] at hx
            cases hx
            have hm := hrow.2.1 z (List.mem_of_getElem? hz2)
            refine ⟨rfl, turnY ?_⟩
            exact ⟨_, rfl, z, rfl, hm.1, hm.2, pvs1 hD2 h2 (Same.refl _) (by rw [List.length_map, hrow.1]; omega) (by rw [List.getElem?_map, hz2]; rfl)⟩
        obtain ⟨s2, hl2⟩ := pvsE h2 (by rw [List.length_map, List.length_map, List.length_map])
        refine ⟨D2, _, rfl, .inl ⟨SqL.of hl2, fun p np => ?_⟩⟩
        have s3 : Same H1 (upd H2 p (.tup (r.map V.int))) := (t1.trans s2).trans (same_upd np)
        refine ⟨vs, s3 D _ hv, small1000 (by rw [hA.length, List.length_map, List.length_take]; omega), vs ++ [.ref p], upd_same, ?_, fun b o e => ?_, ?_⟩
        · rw [List.take_succ, hz, List.map_append]
          exact ImAll.mono (TupS.lst (s3 D _ hv)) _ _ (ImAll.snoc (.tup Tu.up (imInts r)) (ImAll.mono (Same.tups s3) _ _ hA))
        · rw [upd_ne (ne_of_none e hD')]
          exact s3 b o (s1 b o e)
        · rw [upd_ne hLD]
          exact s3 L _ h4
    · obtain ⟨vs, hv, hA, s1, h4⟩ := h
      rw [List.length_map, List.length_map, List.take_length] at hA
      exact ⟨D, vs, rfl, .inl ⟨SqL.of hv, fun p np => k _ p (s1.trans (same_upd np)) (s1.free np) (.tup Tu.up (ImAll.mono (TupS.new np) _ _ hA))⟩⟩
end
end M

namespace M
open PySem L2 U
/-! ### plain data: shape, equality -/
theorem beq_dec {α : Type} [BEq α] [LawfulBEq α] [DecidableEq α] (x y : α) : (x == y) = decide (x = y) := by
  by_cases h : x = y
  · subst h; simp
  · simp [h]
theorem lay_map {α : Type} {f : α → PyData} : ∀ {l : List α}, (∀ x ∈ l, (f x).canLay0 = true) → PyData.canLayAll0 (l.map f) = true
  | [], _ => by simp only [List.map_nil, PyData.canLayAll0]
  | x :: l, h => by
    rw [List.map_cons]
    simp only [PyData.canLayAll0]
    rw [h x List.mem_cons_self, lay_map fun y hy => h y (List.mem_cons_of_mem _ hy)]; rfl
theorem depth_map {α : Type} {f : α → PyData} {c : Nat} : ∀ {l : List α}, (∀ x ∈ l, (f x).depth ≤ c) → PyData.depthAll (l.map f) ≤ c
  | [], _ => by simp only [List.map_nil, PyData.depthAll]; exact Nat.zero_le _
  | x :: l, h => by
    rw [List.map_cons]
    simp only [PyData.depthAll]
    exact Nat.max_le.mpr ⟨h x List.mem_cons_self, depth_map fun y hy => h y (List.mem_cons_of_mem _ hy)⟩
theorem eqv_map {α : Type} [DecidableEq α] {f : α → PyData} (h : ∀ x y, PyData.eqv (f x) (f y) = decide (x = y)) : ∀ l l' : List α, PyData.eqvAll (l.map f) (l'.map f) = decide (l = l')
  | [], [] => by simp [PyData.eqvAll]
  | [], _ :: _ => by simp [PyData.eqvAll]
  | _ :: _, [] => by simp [PyData.eqvAll]
  | x :: l, y :: l' => by
    rw [List.map_cons, List.map_cons]
    simp only [PyData.eqvAll]
    rw [h, eqv_map h l l']
    simp [List.cons.injEq, Bool.decide_and]
theorem eqv_minds (a b : List Str) : PyData.eqv (dMinds a) (dMinds b) = decide (a = b) := by
  unfold dMinds
  simp only [PyData.eqv]
  exact eqv_map (fun x y => by simp only [PyData.eqv]; exact beq_dec x y) a b
theorem eqv_row (a b : List Int) : PyData.eqv (dRow a) (dRow b) = decide (a = b) := by
  unfold dRow
  simp only [PyData.eqv]
  exact eqv_map (fun x y => by simp only [PyData.eqv]; exact beq_dec x y) a b
theorem eqv_way (a b : List (List Int)) : PyData.eqv (dWay a) (dWay b) = decide (a = b) := by
  unfold dWay
  simp only [PyData.eqv]
  exact eqv_map eqv_row a b
theorem eqv_ways (a b : List (List (List Int))) : PyData.eqv (dWays a) (dWays b) = decide (a = b) := by
  unfold dWays
  simp only [PyData.eqv]
  exact eqv_map eqv_way a b
theorem dRow_lay (r : List Int) : (dRow r).canLay0 = true ∧ (dRow r).depth ≤ 1 := by
  unfold dRow
  simp only [PyData.canLay0, PyData.depth]
  refine ⟨lay_map fun x _ => by simp only [PyData.canLay0], ?_⟩
  have := depth_map (f := PyData.int) (c := 0) (l := r) fun x _ => by simp only [PyData.depth]; exact Nat.le_refl 0
  omega
theorem dWay_lay (w : List (List Int)) : (dWay w).canLay0 = true ∧ (dWay w).depth ≤ 2 := by
  unfold dWay
  simp only [PyData.canLay0, PyData.depth]
  refine ⟨lay_map fun x _ => (dRow_lay x).1, ?_⟩
  have := depth_map (f := dRow) (c := 1) (l := w) fun x _ => (dRow_lay x).2
  omega
theorem dWays_lay (ws : List (List (List Int))) : (dWays ws).canLay0 = true ∧ (dWays ws).depth ≤ 3 := by
  unfold dWays
  simp only [PyData.canLay0, PyData.depth]
  refine ⟨lay_map fun x _ => (dWay_lay x).1, ?_⟩
  have := depth_map (f := dWay) (c := 2) (l := ws) fun x _ => (dWay_lay x).2
  omega
theorem alnum_ascii : ∀ c ∈ ("abcdefghijklmnopqrstuvwxyz0123456789" : Str).cps.toList, 48 ≤ c ∧ c < 128 := by decide +kernel
theorem name_signs {x : Str} (h : nameB x = true) : ∀ c ∈ x.cps.toList, 48 ≤ c ∧ c < 128 := by
  unfold nameB at h
  intro c hc
  have h2 := (Bool.and_eq_true_iff.mp h).2
  exact alnum_ascii c (of_decide_eq_true (List.all_eq_true.mp h2 c hc))
theorem dMinds_lay {ms : List Str} (h : ∀ x ∈ ms, nameB x = true) : (dMinds ms).canLay0 = true ∧ (dMinds ms).depth ≤ 1 := by
  unfold dMinds
  simp only [PyData.canLay0, PyData.depth]
  refine ⟨lay_map fun x hx => ?_, ?_⟩
  · simp only [PyData.canLay0]
    show x.cps.all (· < 0x110000) = true
    rw [← Array.all_toList]
    exact List.all_eq_true.mpr fun c hc => decide_eq_true (by have := name_signs (h x hx) c hc; omega)
  have := depth_map (f := PyData.str) (c := 0) (l := ms) fun x _ => by simp only [PyData.depth]; exact Nat.le_refl 0
  omega
theorem shaped_of {d : PyData} (h : d.canLay0 = true ∧ d.depth ≤ 60) : SeqAt.shaped d = true := by
  show (d.canLay0 && decide (d.depth ≤ 64)) = true
  rw [h.1, decide_eq_true (by omega)]; rfl
abbrev sCIn : Stmt := inClass (top 32) 0
abbrev nCIn : List Str := ["self", "minds", "ways"]
abbrev pCIn : List Str := ["self", "minds", "ways"]
theorem scCIn : FnScope nCIn pCIn (defScope sCIn) := ⟨rfl, rfl, rfl, by decide +kernel, rfl, by decide +kernel, by decide +kernel⟩
abbrev sCLe : Stmt := inClass (top 32) 5
abbrev nCLe : List Str := ["self"]
abbrev pCLe : List Str := ["self"]
theorem scCLe : FnScope nCLe pCLe (defScope sCLe) := ⟨rfl, rfl, rfl, by decide +kernel, rfl, by decide +kernel, by decide +kernel⟩
abbrev sCSt : Stmt := inClass (top 32) 6
abbrev nCSt : List Str := ["self", "way"]
abbrev pCSt : List Str := ["self"]
theorem scCSt : FnScope nCSt pCSt (defScope sCSt) := ⟨rfl, rfl, rfl, by decide +kernel, rfl, by decide +kernel, by decide +kernel⟩
abbrev sCEq : Stmt := inClass (top 32) 7
abbrev nCEq : List Str := ["self", "other"]
abbrev pCEq : List Str := ["self", "other"]
theorem scCEq : FnScope nCEq pCEq (defScope sCEq) := ⟨rfl, rfl, rfl, by decide +kernel, rfl, by decide +kernel, by decide +kernel⟩
theorem kmw : ¬ (("_minds" : Str) = "_ways") := by decide +kernel
/-- a council's attributes, in the order in which they are stored -/
def cf (m w : V) : List (Str × V) := putF "_ways" w (putF "_minds" m [])
theorem cf_m (m w : V) : (cf m w).lookup ("_minds" : Str) = some m := by
  unfold cf
  rw [lookup_putF, if_neg kmw, lookup_putF, if_pos rfl]
theorem cf_w (m w : V) : (cf m w).lookup ("_ways" : Str) = some w := by
  unfold cf
  rw [lookup_putF, if_pos rfl]
theorem cf_no (m w : V) {n : Str} (h1 : ¬ n = "_ways") (h2 : ¬ n = "_minds") : (cf m w).lookup n = none := by
  unfold cf
  rw [lookup_putF, if_neg h1, lookup_putF, if_neg h2]
  all_goals rfl
/-- what the walk asks of the class -/
structure Cn (K : PySem.W.Frag) (mg : Str → Option Value) (C : Addr) : Prop where
  cl : Cls K C
  nM : NoAttr K C "_minds"
  nW : NoAttr K C "_ways"
  gC : mg "Council" = some (.ref C)
  c1 : PySem.W.findIn K (.ref C) "__class__" = some (some (.builtin "object.__class__"))
  c2 : PySem.W.specialIn K (.builtin "object.__class__") "__get__" = some (some (.builtin "getset_descriptor.__get__"))
  c3 : PySem.W.takesIn K (.builtin "object.__class__") = some true
  c5 : PySem.W.mroIn K C (.type "object") = some true
  c4 : PySem.W.kitOne K (.ref C) (.ref C) = some true
theorem Cn.g {K : PySem.W.Frag} {mg : Str → Option Value} {C : Addr} (c : Cn K mg C) : ∃ u, mg "Council" = some u ∧ RelV (.ref C) u := ⟨_, c.gC, rfl⟩
/-- a council stands at a -/
structure CouncilAt (C : Addr) (H : Hp) (a : Addr) (m wv : V) (ms : List Str) (ws : List (List (List Int))) : Prop where
  ob : ∃ dx, H a = some (.ins C dx (cf m wv))
  im : Im H m (dMinds ms)
  iw : Im H wv (dWays ws)
  mo : MindsOk ms
  wo : WaysOk ms.length ws
theorem CouncilAt.mono {C : Addr} {H H' : Hp} {a : Addr} {m wv : V} {ms : List Str} {ws : List (List (List Int))} (c : CouncilAt C H a m wv ms ws) (h : ∀ o, H a = some o → H' a = some o) (t : TupS H H') : CouncilAt C H' a m wv ms ws := by
  obtain ⟨⟨dx, h1⟩, h2, h3, h4, h5⟩ := c
  exact ⟨⟨dx, h _ h1⟩, Im.mono t _ _ h2, Im.mono t _ _ h3, h4, h5⟩
theorem CouncilAt.same {C : Addr} {H H' : Hp} {a : Addr} {m wv : V} {ms : List Str} {ws : List (List (List Int))} (c : CouncilAt C H a m wv ms ws) (s : Same H H') : CouncilAt C H' a m wv ms ws :=
  c.mono (fun o e => s a o e) (Same.tups s)
def spCIn (C : Addr) : Sp := fun vs H Q _ => ∃ (x dx : Addr) (m wv : V) (ms : List Str) (ws : List (List (List Int))), vs = [.ref x, m, wv] ∧ H x = some (.ins C dx []) ∧ Im H m (dMinds ms) ∧ Im H wv (dWays ws) ∧ MindsOk ms ∧ WaysOk ms.length ws ∧
  ∀ H', (∀ b o, b ≠ x → H b = some o → H' b = some o) → CouncilAt C H' x m wv ms ws → Q .non H'
def spCLe (C : Addr) : Sp := fun vs H Q _ => ∃ (a : Addr) (m wv : V) (ms : List Str) (ws : List (List (List Int))), vs = [.ref a] ∧ CouncilAt C H a m wv ms ws ∧ Q (.int ms.length) H
def spCEq (C : Addr) : Sp := fun vs H Q _ => ∃ (a : Addr) (m wv : V) (ms : List Str) (ws : List (List (List Int))) (b : Addr) (m' wv' : V) (ms' : List Str) (ws' : List (List (List Int))), vs = [.ref a, .ref b] ∧ CouncilAt C H a m wv ms ws ∧ CouncilAt C H b m' wv' ms' ws' ∧
  Q (.bl (decide (ms = ms') && decide (ws = ws'))) H
section
variable {P : Program} {w : World} {K : PySem.W.Frag} {mg : Str → Option Value} {base : Heap}
theorem ok_cin {f C : Addr} {fd : FuncData} (F : Fun K "__init__" "Council.__init__" sCIn f fd) (T : Bt mg) (U : Cn K mg C) (DM : DefX P w K mg base 3 "check_minds" pCMi spCMi) (DW : DefX P w K mg base 9 "check_ways" pCWa spCWa) : FnOk P w K mg base CX0 11 f fd pCIn (spCIn C) := by
  refine F.ok scCIn (fun vs H Q E h => ?_) (fun cdv A outer s H vs Q E hr h => ?_)
  · obtain ⟨x, dx, m, wv, ms, ws, rfl, _⟩ := h
    rfl
  · obtain ⟨x, dx, m, wv, ms, ws, rfl, hx, im, iw, mo, wo, k⟩ := h
    obtain ⟨a, xs, rfl, ha, hall⟩ := im.tuple
    have hys := hall.strs
    subst hys
    refine ⟨_, (pss_cons (ps_expr (pe_fn DM hr (by decide) (pa_cons (pv 1) pa_nil)))
      (pss_cons (ps_expr (pe_fn DW hr (by decide) (pa_cons (pv 2) (pa_cons (pe_callB (lenQ K) (by rfl) T.len (by decide +kernel) (pa_cons (pv 1) pa_nil)) pa_nil))))
      (pss_cons (ps_fld (pv 0) (pv 1) rfl)
      (pss_one (ps_fld (pv 0) (pv 2) rfl))))), ?_⟩
    refine ⟨_, rfl, _, ms, rfl, im, mo, fun H1 s1 => ?_⟩
    refine ⟨_, rfl, _, rfl, a, _, rfl, .inr ((ha.same s1).sq), wv, ms.length, ws, by rw [List.length_map]; rfl, Im.mono (Same.tups s1) _ _ iw, wo, fun H2 s2 => ?_⟩
    have s3 := s1.trans s2
    have h3 := s3 _ _ hx
    refine ⟨_, rfl, _, rfl, x, C, dx, [], rfl, h3, U.cl, U.nM, (by show 0 < 1000; decide), _, rfl, _, rfl, x, C, dx, _, rfl, upd_same, U.cl, U.nW, (by show 1 < 1000; decide), ?_⟩
    have nt : TupS H2 (upd (upd H2 x (.ins C dx (putF "_minds" (.ref a) []))) x (.ins C dx (cf (.ref a) wv))) := fun b ys e => e.keep fun o eo => by
      have nb : b ≠ x := e.neI h3
      rw [upd_ne nb, upd_ne nb]; exact eo
    refine k _ (fun b o nb e => by rw [upd_ne nb, upd_ne nb]; exact s3 b o e) ⟨⟨dx, upd_same⟩, ?_, ?_, mo, wo⟩
    · exact Im.mono nt _ _ (Im.mono (Same.tups s3) _ _ im)
    · exact Im.mono nt _ _ (Im.mono (Same.tups s3) _ _ iw)
theorem ok_cle {f C : Addr} {fd : FuncData} (F : Fun K "__len__" "Council.__len__" sCLe f fd) (T : Bt mg) (U : Cn K mg C) : FnOk P w K mg base CX0 1 f fd pCLe (spCLe C) := by
  refine F.ok scCLe (fun vs H Q E h => ?_) (fun cdv A outer s H vs Q E hr h => ?_)
  · obtain ⟨a, m, wv, ms, ws, rfl, _⟩ := h
    rfl
  · obtain ⟨a, m, wv, ms, ws, rfl, c, k⟩ := h
    obtain ⟨⟨dx, h1⟩, h2, h3, h4, h5⟩ := c
    obtain ⟨b, xs, rfl, hb, hall⟩ := h2.tuple
    have hys := hall.strs
    subst hys
    refine ⟨_, (pss_one (ps_ret (pe_callB (lenQ K) (by rfl) T.len (by decide +kernel) (pa_cons (pe_fld (pv 0) rfl) pa_nil)))), ?_⟩
    refine ⟨_, rfl, a, C, dx, _, _, rfl, h1, U.cl, U.nM, cf_m _ _, b, _, rfl, .inr (hb.sq), ?_⟩
    rw [List.length_map]
    exact k
theorem ok_ceq {f C : Addr} {fd : FuncData} (F : Fun K "__eq__" "Council.__eq__" sCEq f fd) (T : Bt mg) (U : Cn K mg C) : FnOk P w K mg base CX0 1 f fd pCEq (spCEq C) := by
  refine F.ok scCEq (fun vs H Q E h => ?_) (fun cdv A outer s H vs Q E hr h => ?_)
  · obtain ⟨a, m, wv, ms, ws, b, m', wv', ms', ws', rfl, _⟩ := h
    rfl
  · obtain ⟨a, m, wv, ms, ws, b, m', wv', ms', ws', rfl, c, c', k⟩ := h
    obtain ⟨⟨dx, h1⟩, h2, h3, h4, h5⟩ := c
    obtain ⟨⟨dx', h1'⟩, h2', h3', h4', h5'⟩ := c'
    refine ⟨_, (pss_one (ps_ret (pe_and (pe_callB (isiQ K) (by rfl) T.isinstance (by decide +kernel) (pa_cons (pv 1) (pa_cons (pe_globE U.g) pa_nil))) (pe_and (pe_cmpR (eqD K hr.units) (pe_fld (pv 0) rfl) (pe_fld (pv 1) rfl) (nomark _)) (pe_one (pe_cmpR (eqD K hr.units) (pe_fld (pv 0) rfl) (pe_fld (pv 1) rfl) (nomark _))))))), ?_⟩
    refine ⟨_, rfl, _, _, _, _, true, rfl, .own C, .base (.ins h1' U.cl U.c1 U.c2 U.c3 U.c5), U.c4, _, rfl, iteT ?_⟩
    refine ⟨_, rfl, a, C, dx, _, _, rfl, h1, U.cl, U.nM, cf_m _ _, _, rfl, b, C, dx', _, _, rfl, h1', U.cl, U.nM, cf_m _ _, dMinds ms, dMinds ms', Im.dp _ _ h2, Im.dp _ _ h2', ?_, ?_, _, rfl, ?_⟩
    · exact shaped_of ⟨(dMinds_lay fun x hx => (h4.nm x hx).1).1, Nat.le_trans (dMinds_lay fun x hx => (h4.nm x hx).1).2 (by decide)⟩
    · exact shaped_of ⟨(dMinds_lay fun x hx => (h4'.nm x hx).1).1, Nat.le_trans (dMinds_lay fun x hx => (h4'.nm x hx).1).2 (by decide)⟩
    rw [eqv_minds]
    refine ite2 (fun he => ?_) (fun he => ?_)
    · rw [he, Bool.true_and] at k
      refine ⟨_, rfl, a, C, dx, _, _, rfl, h1, U.cl, U.nW, cf_w _ _, _, rfl, b, C, dx', _, _, rfl, h1', U.cl, U.nW, cf_w _ _, dWays ws, dWays ws', Im.dp _ _ h3, Im.dp _ _ h3', ?_, ?_, ?_⟩
      · exact shaped_of ⟨(dWays_lay ws).1, Nat.le_trans (dWays_lay ws).2 (by decide)⟩
      · exact shaped_of ⟨(dWays_lay ws').1, Nat.le_trans (dWays_lay ws').2 (by decide)⟩
      rw [eqv_ways]
      exact k
    · rw [Bool.eq_false_iff.mpr he, Bool.false_and] at k
      exact k
def mindsT (ms : List Str) : Str := Txt.join " " ms
def councilT (ms : List Str) (ws : List (List (List Int))) : Str := Txt.join "\n" (mindsT ms :: ws.map wayT)
theorem minds_len {ms : List Str} (h : MindsOk ms) : (mindsT ms).length ≤ 54 := by
  have := join_len (sep := " ") (ys := ms) (c := 8) fun y hy => (h.nm y hy).2
  have e : ((" " : Str)).length = 1 := rfl
  rw [e] at this
  exact Nat.le_trans this (Nat.mul_le_mul_right 9 h.m6)
theorem lines_le {ms : List Str} {ws : List (List (List Int))} (h : MindsOk ms) (g : WaysOk ms.length ws) : ∀ y ∈ mindsT ms :: ws.map wayT, y.length ≤ 402 := by
  intro y hy
  rcases List.mem_cons.mp hy with q | q
  · rw [q]
    exact Nat.le_trans (minds_len h) (by decide)
  · obtain ⟨w, hw, rfl⟩ := List.mem_map.mp q
    exact way_len (g.way w hw) g.n6
def spCSt (C : Addr) : Sp := fun vs H Q _ => ∃ (a : Addr) (m wv : V) (ms : List Str) (ws : List (List (List Int))), vs = [.ref a] ∧ CouncilAt C H a m wv ms ws ∧ ∀ H', Same H H' → Q (.str (councilT ms ws)) H'
theorem ok_cst {f C : Addr} {fd : FuncData} (F : Fun K "__str__" "Council.__str__" sCSt f fd) (T : Bt mg) (U : Cn K mg C) (DT : DefX P w K mg base 1 "way_text" pWT spWT) : FnOk P w K mg base CX0 3 f fd pCSt (spCSt C) := by
  refine F.ok scCSt (fun vs H Q E h => ?_) (fun cdv A outer s H vs Q E hr h => ?_)
  · obtain ⟨a, m, wv, ms, ws, rfl, _⟩ := h
    rfl
  · obtain ⟨a, m, wv, ms, ws, rfl, c, k⟩ := h
    obtain ⟨⟨dx, h1⟩, h2, h3, h4, h5⟩ := c
    obtain ⟨b, xs, rfl, hb, hall⟩ := h2.tuple
    have hys := hall.strs
    subst hys
    obtain ⟨b2, xs2, rfl, hb2, hall2⟩ := h3.tuple
    have hxl : xs2.length = ws.length := by rw [hall2.length, List.length_map]
    have w6 := h5.w6
    refine ⟨_, (pss_one (ps_ret (pjoin K pe_str (pa_cons (pe_op op_cat (pe_lst (pa_cons (pjoin K pe_str (pa_cons (pe_fld (pv 0) rfl) pa_nil)) pa_nil)) (pe_lc (own := [("way", 1)]) (g := gName 1) (tt := tYes) rfl scCSt.nd (piT K (pe_fld (pv 0) rfl)) (blkOk_by (own := [("way", 1)]) (N := nCSt) (sc := defScope sCSt) (by decide +kernel)) (fun _ _ _ _ _ => (pg_name (i := 1) scCSt.nd rfl (Or.inl rfl))) (fun _ _ _ _ _ => pts_nil)
          (fun _ _ _ _ _ => (pe_fn DT hr (by decide) (pa_cons (pv 1) pa_nil))))) pa_nil)))), ?_⟩
    refine ⟨rfl, rfl, _, rfl, a, C, dx, _, _, rfl, h1, U.cl, U.nM, cf_m _ _, " ", b, ms, rfl, rfl, .inr (hb.sq), ?_, ?_⟩
    · have q := sum_le (f := fun y : Str => y.length) (l := ms) (c := 8) fun y hy => (h4.nm y hy).2
      have e : ((" " : Str)).length = 1 := rfl
      have := h4.m6
      rw [e]
      omega
    refine ⟨by show 1 ≤ sizeLine; decide, fun l1 n1 => ?_⟩
    have s1 : Same H (upd H l1 (.lst [.str (Txt.join " " ms)])) := same_upd n1
    refine ⟨_, rfl, a, C, dx, _, _, rfl, s1 _ _ h1, U.cl, U.nW, cf_w _ _, b2, rfl, ⟨_, (hb2.same s1).sq⟩, fun D hD => ?_⟩
    refine lc_it (walk_tup (K := K) (a := b2) (xs := xs2)) (PvS (upd H l1 (.lst [.str (Txt.join " " ms)])) D ((ws.map wayT).map V.str)) (pvs0 hD) (fun i H1 _ h => ((hb2.same s1).same h.1).sq) ?_ (fun H1 h => ?_)
    · rintro i x _ H1 hi h ⟨rfl, hx⟩
      obtain ⟨d, hd, imx⟩ := hall2.get hx
      rw [List.getElem?_map] at hd
      cases hz : ws[i]? with
      | none => rw [hz] at hd; cases hd
      | some r =>
        rw [hz] at hd
        cases hd
        refine ⟨rfl, turnY ?_⟩
        refine ⟨_, rfl, x, ms.length, r, rfl, Im.mono (Same.tups (s1.trans h.1)) _ _ imx, h5.way r (List.mem_of_getElem? hz), h5.n6, fun H2 s2 => ?_⟩
        exact pvs1 hD h s2 (by rw [List.length_map, List.length_map]; omega) (by rw [List.getElem?_map, List.getElem?_map, hz]; rfl)
    obtain ⟨s2, hl2⟩ := pvsE h (by rw [List.length_map, List.length_map, hxl])
    refine ⟨l1, D, _, _, rfl, rfl, s2 _ _ upd_same, hl2, ?_, fun l3 n3 => ?_⟩
    · rw [List.length_map, List.length_map]
      exact Nat.le_trans (by show 1 + ws.length ≤ 7; omega) (by decide : 7 ≤ sizeLine)
    have e : [V.str (Txt.join " " ms)] ++ (ws.map wayT).map V.str = (mindsT ms :: ws.map wayT).map V.str := rfl
    rw [e]
    refine ⟨"\n", l3, mindsT ms :: ws.map wayT, rfl, rfl, .inl (SqL.of upd_same), ?_, k _ ((s1.trans s2).trans (same_upd n3))⟩
    have q := sum_le (f := fun y : Str => y.length) (lines_le h4 h5)
    have e2 : (("\n" : Str)).length = 1 := rfl
    rw [List.length_cons, List.length_map] at q ⊢
    rw [e2]
    omega
end
end M

namespace M
open PySem L2 U
abbrev sCRd : Stmt := inClass (top 32) 1
abbrev nCRd : List Str := ["cls", "text", "lines", "minds", "ways", "line"]
abbrev pCRd : List Str := ["cls", "text"]
theorem scCRd : FnScope nCRd pCRd (defScope sCRd) := ⟨rfl, rfl, rfl, by decide +kernel, rfl, by decide +kernel, by decide +kernel⟩
/-! ### the text of a council, taken apart -/
theorem joinL_signs {S : List Nat} {p : Nat → Prop} (hS : ∀ c ∈ S, p c) : ∀ ps : List (List Nat), (∀ q ∈ ps, ∀ c ∈ q, p c) → ∀ c ∈ TL.joinL S ps, p c := by
  intro ps
  induction ps with
  | nil => intro _ c h; cases h
  | cons q ps ih =>
    intro h c hc
    cases ps with
    | nil => exact h q List.mem_cons_self c hc
    | cons r rs =>
      have hc : c ∈ q ++ (S ++ TL.joinL S (r :: rs)) := hc
      rcases List.mem_append.mp hc with z | z
      · exact h q List.mem_cons_self c z
      · rcases List.mem_append.mp z with z | z
        · exact hS c z
        · exact ih (fun p' hp' => h p' (List.mem_cons_of_mem _ hp')) c z
theorem join_signs {sep : Str} {p : Nat → Prop} (hS : ∀ c ∈ sep.cps.toList, p c) {ys : List Str} (h : ∀ y ∈ ys, ∀ c ∈ y.cps.toList, p c) : ∀ c ∈ (Txt.join sep ys).cps.toList, p c := by
  intro c hc
  rw [TL.join_eq] at hc
  have hc' : c ∈ TL.tl (Str.join sep ys) := hc
  rw [TL.tl_join] at hc'
  refine joinL_signs (S := TL.tl sep) hS _ (fun q hq => ?_) c hc'
  obtain ⟨y, hy, rfl⟩ := List.mem_map.mp hq
  exact h y hy
theorem minds_signs {ms : List Str} (h : MindsOk ms) : ∀ c ∈ (mindsT ms).cps.toList, 32 ≤ c :=
  join_signs (p := fun c => 32 ≤ c) (by decide +kernel) fun y hy c hc => by have := name_signs (h.nm y hy).1 c hc; omega
theorem wayT_signs {n : Nat} {w : List (List Int)} (h : WayOk n w) : ∀ c ∈ (wayT w).cps.toList, 32 ≤ c :=
  join_signs (p := fun c => 32 ≤ c) (by decide +kernel) fun y hy c hc => by
    obtain ⟨r, hr, rfl⟩ := List.mem_map.mp hy
    have := row_signs (h.2 r hr) c hc
    omega
theorem council_split {ms : List Str} {ws : List (List (List Int))} (h : MindsOk ms) (g : WaysOk ms.length ws) : Txt.split (councilT ms ws) "\n" = mindsT ms :: ws.map wayT := by
  refine TL.split_join (s := 10) (S := []) rfl (by decide +kernel) (fun e => nomatch e) fun p hp z => ?_
  rcases List.mem_cons.mp hp with q | q
  · rw [q] at z
    have := minds_signs h 10 z
    omega
  · obtain ⟨w, hw, rfl⟩ := List.mem_map.mp q
    have := wayT_signs (g.way w hw) 10 z
    omega
theorem minds_split {ms : List Str} (h : MindsOk ms) : Txt.split (mindsT ms) " " = ms := by
  refine TL.split_join (s := 32) (S := []) rfl (by decide +kernel) (fun e => ?_) fun p hp z => ?_
  · have := h.m1
    rw [e] at this
    exact absurd this (by decide)
  · have := name_signs (h.nm p hp).1 32 z
    omega
theorem council_len {ms : List Str} {ws : List (List (List Int))} (h : MindsOk ms) (g : WaysOk ms.length ws) : (councilT ms ws).length ≤ 2821 := by
  show (Txt.join "\n" (mindsT ms :: ws.map wayT)).length ≤ 2821
  have := join_len (sep := "\n") (lines_le h g)
  have e : (("\n" : Str)).length = 1 := rfl
  rw [e, List.length_cons, List.length_map] at this
  have w6 := g.w6
  omega
def spCRd (C : Addr) : Sp := fun vs H Q _ => ∃ (ms : List Str) (ws : List (List (List Int))), vs = [.ref C, .str (councilT ms ws)] ∧ MindsOk ms ∧ WaysOk ms.length ws ∧
  ∀ (H' : Hp) (a : Addr) (m wv : V), Same H H' → H a = none → CouncilAt C H' a m wv ms ws → Q (.ref a) H'
section
variable {P : Program} {w : World} {K : PySem.W.Frag} {mg : Str → Option Value} {base : Heap}
theorem ok_crd {f fI C : Addr} {fd fdI : FuncData} (F : Fun K "read" "Council.read" sCRd f fd) (T : Bt mg) (MK : Mk K C fI) (FI : FnOk P w K mg base CX0 11 fI fdI pCIn (spCIn C)) (bI : Binds K fdI pCIn []) (DR : DefX P w K mg base 3 "read_way" pRWy spRWy) : FnOk P w K mg base CX0 13 f fd pCRd (spCRd C) := by
  refine F.ok scCRd (fun vs H Q E h => ?_) (fun cdv A outer s H vs Q E hr h => ?_)
  · obtain ⟨ms, ws, rfl, _⟩ := h
    rfl
  · obtain ⟨ms, ws, rfl, mo, wo, k⟩ := h
    refine ⟨_, (pss_cons (ps_if (pt_not (pt_val (pe_callB (isiQ K) (by rfl) T.isinstance (by decide +kernel) (pa_cons (pv 1) (pa_cons (pe_bltn (v := .ty "str") (u := .type "str") (by rfl) T.str (by decide +kernel) rfl) pa_nil)))))
        (pss_one ps_never) pss_nil)
      (pss_cons (ps_set (i := 2) scCRd.nd rfl (Or.inl rfl) (pbm K PySem.F.plainAttrs_str PySem.F.slot_str_split PySem.F.type_str_split mt_split (pv 1) (pa_cons pe_str pa_nil)))
      (pss_cons (ps_set (i := 3) scCRd.nd rfl (Or.inl rfl) (pe_callTy (tupO K) (by rfl) T.tuple (by decide +kernel) (pa_cons (pbm K PySem.F.plainAttrs_str PySem.F.slot_str_split PySem.F.type_str_split mt_split (pe_ix (ixL K) (pv 2) pe_int (fun _ _ => rfl)) (pa_cons pe_str pa_nil)) pa_nil)))
      (pss_cons (ps_set (i := 4) scCRd.nd rfl (Or.inl rfl) (pe_callTy (tupO K) (by rfl) T.tuple (by decide +kernel) (pa_cons (pe_lc (own := [("line", 5)]) (g := gName 5) (tt := tYes) rfl scCRd.nd (piL K (pe_slice (slL K) (pv 2) (po_some pe_int) po_none)) (blkOk_by (own := [("line", 5)]) (N := nCRd) (sc := defScope sCRd) (by decide +kernel)) (fun _ _ _ _ _ => (pg_name (i := 5) scCRd.nd rfl (Or.inl rfl))) (fun _ _ _ _ _ => pts_nil)
          (fun _ _ _ _ _ => (pe_fn DR hr (by decide) (pa_cons (pv 5) pa_nil)))) pa_nil)))
      (pss_one (ps_try_thru0 (pss_one (ps_ret (pe_makeL (i := 0) MK FI hr (by decide) bI (pa_cons (pv 3) (pa_cons (pv 4) pa_nil))))))))))), ?_⟩
    have cl := council_len mo wo
    have ml := minds_len mo
    refine ⟨_, rfl, _, _, _, _, true, rfl, .ty _, .base (.str _), kit_ty (by decide +kernel), _, rfl, iteF ?_⟩
    refine ⟨_, rfl, rfl, _, _, rfl, rfl, rfl, Nat.le_trans (Nat.add_le_add_right cl 2) (by decide), fun L hL => ?_⟩
    rw [council_split mo wo]
    have e1 : (mindsT ms :: ws.map wayT).map V.str = .str (mindsT ms) :: (ws.map wayT).map V.str := rfl
    rw [e1]
    refine ⟨_, rfl, L, _, _, .str (mindsT ms), rfl, rfl, SqL.of upd_same, atI_nat (j := 0) rfl, rfl, _, _, rfl, rfl, rfl, Nat.le_trans (Nat.add_le_add_right ml 2) (by decide), fun L2 hL2 => ?_⟩
    rw [minds_split mo]
    refine ⟨L2, _, rfl, .inl ⟨SqL.of upd_same, fun pm npm => ?_⟩⟩
    have s1 : Same H (upd H L (.lst (.str (mindsT ms) :: (ws.map wayT).map V.str))) := same_upd hL
    have s2 := s1.trans (same_upd hL2 (o := .lst (ms.map V.str)))
    have s3 := s2.trans (same_upd npm (o := .tup (ms.map V.str)))
    have hL3 : upd (upd (upd H L (.lst (.str (mindsT ms) :: (ws.map wayT).map V.str))) L2 (.lst (ms.map V.str))) pm (.tup (ms.map V.str)) L = some (.lst (.str (mindsT ms) :: (ws.map wayT).map V.str)) :=
      same_upd npm _ _ (same_upd hL2 _ _ upd_same)
    refine ⟨_, rfl, _, rfl, L, _, rfl, SqL.of hL3, fun S hS => ?_⟩
    have e2 : cutV (V.str (mindsT ms) :: (ws.map wayT).map V.str) (some 1) none = (ws.map wayT).map V.str := by
      have q1 : HT.sIx (V.str (mindsT ms) :: (ws.map wayT).map V.str).length 0 (some 1) = 1 := by
        refine (HT.sIx_nat _ _ 1).trans ?_
        rw [List.length_cons]
        omega
      unfold cutV
      rw [q1, HT.sIx_none, List.drop_succ_cons, List.drop_zero, List.length_cons, Nat.add_sub_cancel]
      exact List.take_length
    rw [e2]
    have s4 := s3.trans (same_upd hS (o := .lst ((ws.map wayT).map V.str)))
    have hpm := same_upd hS (o := .lst ((ws.map wayT).map V.str)) _ _ (upd_same (a := pm) (o := .tup (ms.map V.str)) (H := upd (upd H L (.lst (.str (mindsT ms) :: (ws.map wayT).map V.str))) L2 (.lst (ms.map V.str))))
    generalize hG : upd (upd (upd (upd H L (.lst (.str (mindsT ms) :: (ws.map wayT).map V.str))) L2 (.lst (ms.map V.str))) pm (.tup (ms.map V.str))) S (.lst ((ws.map wayT).map V.str)) = G at s4 hpm ⊢
    have hGS : G S = some (.lst ((ws.map wayT).map V.str)) := by rw [← hG]; exact upd_same
    refine ⟨S, rfl, ⟨_, SqL.of hGS⟩, fun D hD => ?_⟩
    have w6 := wo.w6
    refine lc_it (walk_list (K := K) (a := S) (xs := (ws.map wayT).map V.str)) (fun i H1 => ∃ vs : List V, H1 D = some (.lst vs) ∧ ImAll H1 vs ((ws.take i).map dWay) ∧ Same G H1)
      ⟨[], upd_same, .nil, same_upd hD⟩ (fun i H1 _ h => by obtain ⟨_, _, _, h4⟩ := h; exact SqL.of (h4 _ _ hGS)) ?_ (fun H1 h => ?_)
    · rintro i x _ H1 hi ⟨vs, hv, hA, s5⟩ ⟨rfl, hx⟩
      rw [List.getElem?_map, List.getElem?_map] at hx
      cases hz : ws[i]? with
      | none => rw [hz] at hx; cases hx
      | some r =>
        rw [hz] at hx
        cases hx
        refine ⟨rfl, turnY ?_⟩
        refine ⟨_, rfl, ms.length, r, rfl, wo.way r (List.mem_of_getElem? hz), mo.m1, wo.n6, fun H2 p s6 np ip => ?_⟩
        have s7 := s5.trans s6
        refine ⟨vs, s6 D _ hv, small1000 (by rw [hA.length, List.length_map, List.length_take]; omega), vs ++ [.ref p], upd_same, ?_, fun b o e => ?_⟩
        · rw [List.take_succ, hz, List.map_append]
          exact ImAll.mono (TupS.lst (s6 D _ hv)) _ _ (ImAll.snoc ip (ImAll.mono (Same.tups s6) _ _ hA))
        · rw [upd_ne (ne_of_none e hD)]
          exact s7 b o e
    · obtain ⟨vs, hv, hA, s5⟩ := h
      rw [List.length_map, List.length_map, List.take_length] at hA
      refine ⟨D, vs, rfl, .inl ⟨SqL.of hv, fun pw npw => ?_⟩⟩
      have s6 := s5.trans (same_upd npw (o := .tup vs))
      refine ⟨rfl, _, rfl, _, rfl, fun x dx nx ndx hne => ?_⟩
      have n1 : Same (upd H1 pw (.tup vs)) (upd (upd H1 pw (.tup vs)) dx (.own x)) := same_upd ndx
      have nx2 : upd (upd H1 pw (.tup vs)) dx (.own x) x = none := by rw [upd_ne (fun e => hne e.symm)]; exact nx
      have n2 := n1.trans (same_upd nx2 (o := .ins C dx []))
      have sF := (s4.trans s6).trans n2
      refine ⟨x, dx, _, _, ms, ws, rfl, upd_same, ?_, ?_, mo, wo, fun H' bt c => ⟨rfl, k H' x _ _ ?_ ?_ c⟩⟩
      · exact .tup (Tu.of (n2 _ _ (s6 _ _ hpm))) (imStrs ms)
      · exact .tup (Tu.of (n2 _ _ upd_same)) (ImAll.mono (Same.tups n2) _ _ (ImAll.mono (TupS.new npw) _ _ hA))
      · exact fun b o e => bt b o (fun z => by rw [z] at e; exact absurd ((s4.trans s6) _ _ e) (by rw [nx]; exact fun z => nomatch z)) (sF b o e)
      · exact (s4.trans s6).free nx
end
end M

namespace ZN
open PySem
open PySem.Sem (wp)
/-- the iterator at it stands at place c of the list or tuple at l, which holds vs -/
def ItAt (h : Heap) (it l : Addr) (c : Nat) (vs : List Value) : Prop := l ≠ it ∧ ((h.IsListIter it l c ∧ h.IsList l vs.toArray) ∨ (h.IsTupleIter it l c ∧ h.IsTuple l vs.toArray))
theorem ItAt.keep {h h' : Heap} {it l : Addr} {c : Nat} {vs : List Value} (x : ItAt h it l c vs) (k1 : ∀ o, h.get? it = some o → h'.get? it = some o) (k2 : ∀ o, h.get? l = some o → h'.get? l = some o) : ItAt h' it l c vs := by
  obtain ⟨ne, x⟩ := x
  refine ⟨ne, ?_⟩
  rcases x with ⟨⟨o, a1, a2⟩, ⟨p, b1, b2⟩⟩ | ⟨⟨o, a1, a2⟩, ⟨p, b1, b2⟩⟩
  · exact .inl ⟨⟨o, k1 _ a1, a2⟩, ⟨p, k2 _ b1, b2⟩⟩
  · exact .inr ⟨⟨o, k1 _ a1, a2⟩, ⟨p, k2 _ b1, b2⟩⟩
theorem ItAt.lt {h : Heap} {it l : Addr} {c : Nat} {vs : List Value} (x : ItAt h it l c vs) : it < h.objs.size ∧ l < h.objs.size := by
  obtain ⟨_, ⟨⟨o, a1, _⟩, ⟨p, b1, _⟩⟩ | ⟨⟨o, a1, _⟩, ⟨p, b1, _⟩⟩⟩ := x
  · exact ⟨Heap.lt_size a1, Heap.lt_size b1⟩
  · exact ⟨Heap.lt_size a1, Heap.lt_size b1⟩
section
variable {prog : Program} {w : World} {A : Around} {E : Value → Shared → Prop} {s : Shared}
theorem ItAt.next {it l : Addr} {c : Nat} {vs : List Value} {v : Value} {Q : Value → Shared → Prop} (x : ItAt s.heap it l c vs) (hx : vs[c]? = some v) (hQ : ∀ h', ItAt h' it l (c + 1) vs → Heap.SameBut it s.heap h' → Q v { s with heap := h' }) :
    wpAny (model prog w) A (Builtin.SmallTypes.nextOf (.ref it)) Q E s := by
  obtain ⟨ne, x⟩ := x
  have hx' : vs.toArray[c]? = some v := by simpa using hx
  rcases x with ⟨a, b⟩ | ⟨a, b⟩
  · exact wpAny_nextOf_list_item a b hx' fun h' a' sb => hQ h' ⟨ne, .inl ⟨a', b.extBut sb.extBut ne⟩⟩ sb
  · exact RZ.nextOf_tuple_item a b hx' fun h' a' sb => hQ h' ⟨ne, .inr ⟨a', b.extBut sb.extBut ne⟩⟩ sb
theorem ItAt.stop {it l : Addr} {c : Nat} {vs : List Value} {Q : Value → Shared → Prop} (hh : A.handled = none) (x : ItAt s.heap it l c vs) (hx : vs[c]? = none) (hE : ∀ h' e, Heap.ExtBut it s.heap h' → (∃ o, h'.get? e = some o ∧ o.cls = .type "StopIteration") → E (.ref e) { s with heap := h' }) :
    wpAny (model prog w) A (Builtin.SmallTypes.nextOf (.ref it)) Q E s := by
  obtain ⟨ne, x⟩ := x
  have hx' : vs.toArray[c]? = none := by simpa using hx
  rcases x with ⟨a, b⟩ | ⟨a, b⟩
  · exact wpAny_nextOf_list_end hh a b hx' hE
  · exact RZ.nextOf_tuple_end hh a b hx' hE
end
/-- one of the things that are zipped: its iterator, its place, its values -/
abbrev R := Addr × Addr × List Value
def AllAt (h : Heap) (rs : List R) (c : Nat) : Prop := ∀ r ∈ rs, ItAt h r.1 r.2.1 c r.2.2
def col (c : Nat) (rs : List R) : List Value := rs.map fun r => (r.2.2[c]?).getD .none
/-- the cells lie apart -/
structure Sep (z TI TO : Addr) (rs : List R) : Prop where
  nd : (rs.map (·.1)).Nodup
  zTI : z ≠ TI
  zTO : z ≠ TO
  TITO : TI ≠ TO
  it : ∀ r ∈ rs, r.1 ≠ z ∧ r.1 ≠ TI ∧ r.1 ≠ TO
  l : ∀ r ∈ rs, r.2.1 ≠ z ∧ r.2.1 ≠ TI ∧ r.2.1 ≠ TO
  x : ∀ r ∈ rs, ∀ q ∈ rs, r.2.1 ≠ q.1
def Keeps (ex : Addr → Prop) (h h' : Heap) : Prop := ∀ b o, ¬ ex b → h.get? b = some o → h'.get? b = some o
theorem AllAt.one {h h' : Heap} {rs rs' : List R} {c : Nat} {z TI TO : Addr} {r : R} (S : Sep z TI TO rs) (hr : r ∈ rs) (sub : ∀ q ∈ rs', q ∈ rs) (no : ∀ q ∈ rs', q.1 ≠ r.1) (x : AllAt h rs' c) (sb : Heap.SameBut r.1 h h') : AllAt h' rs' c := fun q hq =>
  (x q hq).keep (fun o e => sb.extBut _ _ (no q hq) e) (fun o e => sb.extBut _ _ (S.x q (sub q hq) r hr) e)
section
variable {prog : Program} {w : World} {A : Around} {E : Value → Shared → Prop} {s : Shared} {z TI TO T : Addr} {f : Bool} {oT : Obj} {rs : List R} {c : Nat}
abbrev IsTI (h : Heap) (TI : Addr) (rs : List R) : Prop := h.get? TI = some { cls := .type "tuple", data := .seq (rs.map fun r => Value.ref r.1).toArray }
theorem nodup_split {l1 l2 : List R} {r : R} (h : ((l1 ++ r :: l2).map (·.1)).Nodup) : (∀ q ∈ l1, q.1 ≠ r.1) ∧ ∀ q ∈ l2, q.1 ≠ r.1 := by
  rw [List.map_append, List.map_cons, List.nodup_append] at h
  obtain ⟨_, h2, h3⟩ := h
  rw [List.nodup_cons] at h2
  refine ⟨fun q hq e => ?_, fun q hq e => ?_⟩
  · exact h3 q.1 (List.mem_map_of_mem hq) r.1 List.mem_cons_self e
  · exact h2.1 (by rw [← e]; exact List.mem_map_of_mem hq)
/-- the next tuple, while an earlier one is out -/
theorem next_held {Q : Value → Shared → Prop} (S : Sep z TI TO rs) (hne : rs ≠ []) (hz : IsZipHeld s.heap z TI TO T f) (hT : s.heap.get? T = some oT) (hTI : IsTI s.heap TI rs) (ha : AllAt s.heap rs c) (hc : ∀ r ∈ rs, c < r.2.2.length) (hlen : rs.length ≤ 100)
    (hQ : ∀ h', IsZipHeld h' z TI TO T true → AllAt h' rs (c + 1) → h'.get? s.heap.objs.size = some { cls := .type "tuple", data := .seq (col c rs).toArray } → h'.objs.size = s.heap.objs.size + 1 →
      Keeps (fun b => b = z ∨ ∃ r ∈ rs, b = r.1) s.heap h' → Q (.ref s.heap.objs.size) { s with heap := h' }) :
    wpAny (model prog w) A (Builtin.«zip.__next__» ⟨[.ref z], []⟩) (fun fin s' => ∃ v, fin = .done (.ret v) ∧ Q v s') E s := by
  show wpAny _ _ (field (.ref z) 2 >>= _) _ _ _
  refine wpAny_bind (wpAny_field hz rfl (x := .bool false) rfl ?_)
  show wpAny _ _ (field (.ref z) 3 >>= _) _ _ _
  refine wpAny_bind (wpAny_field hz rfl (x := .ref TI) rfl ?_)
  refine wpAny_bind (wpAny_seqItems hTI rfl ?_)
  have hem : (rs.map fun r => Value.ref r.1).toArray.isEmpty = false := by
    cases rs with
    | nil => exact absurd rfl hne
    | cons r rs => simp
  simp only [hem, Bool.false_eq_true, if_false]
  show wpAny _ _ (Builtin.SmallTypes.ownedTupleIsFree (.ref z) >>= _) _ _ _
  refine wpAny_bind (wpAny_tupleHeld_zip hz hT fun h₁ hz₁ hs₁ => ?_)
  simp only [Bool.false_eq_true, if_false]
  refine wpAny_bind ?_
  have hsz1 : h₁.objs.size = s.heap.objs.size := hs₁.1
  have ha1 : AllAt h₁ rs c := fun r hr => (ha r hr).keep (fun o e => hs₁.extBut _ _ (S.it r hr).1 e) (fun o e => hs₁.extBut _ _ (S.l r hr).1 e)
  refine MeetsSeq2.wpAny_forIn_array _ (fun rest b s' => ∃ (r1 r2 : List R) (h' : Heap), rs = r1 ++ r2 ∧ rest = r2.map (fun r => Value.ref r.1) ∧ b = (none, (col c r1).toArray) ∧ s' = { s with heap := h' } ∧ AllAt h' r1 (c + 1) ∧ AllAt h' r2 c ∧ h'.objs.size = h₁.objs.size ∧ Keeps (fun b => ∃ r ∈ rs, b = r.1) h₁ h') _ ?turn ?fin _ _ ⟨[], rs, h₁, rfl, by simp, rfl, rfl, (fun r hr => by cases hr), ha1, rfl, fun b o _ e => e⟩
  case turn =>
    rintro x rest b s' ⟨r1, r2, h', rfl, e2, rfl, rfl, b1, b2, b3, b4⟩
    cases r2 with
    | nil => cases e2
    | cons r r2 =>
      cases e2
      obtain ⟨n1, n2⟩ := nodup_split S.nd
      have hr : r ∈ r1 ++ r :: r2 := List.mem_append_right _ List.mem_cons_self
      have hcr := hc r hr
      refine wpAny_bind (wpAny_holding ?_)
      show wpAny _ _ (Builtin.SmallTypes.nextOf (.ref r.1) >>= _) _ _ _
      refine wpAny_bind (ItAt.next (s := { s with heap := h' }) (b2 r List.mem_cons_self) (List.getElem?_eq_getElem hcr) fun h2 a2 sb => wpAny_pure (wpAny_pure ?_))
      refine ⟨r1 ++ [r], r2, h2, by simp, rfl, ?_, rfl, fun q hq => ?_, ?_, ?_, fun b o nb e => ?_⟩
      · show (none, (col c r1).toArray.push r.2.2[c]) = (none, (col c (r1 ++ [r])).toArray)
        unfold col
        rw [List.map_append]
        simp [List.getElem?_eq_getElem hcr]
      · rcases List.mem_append.mp hq with hq | hq
        · exact AllAt.one (rs' := r1) S hr (fun q hq => List.mem_append_left _ hq) n1 b1 sb q hq
        · rw [List.mem_singleton.mp hq]
          exact a2
      · exact AllAt.one (rs' := r2) S hr (fun q hq => List.mem_append_right _ (List.mem_cons_of_mem _ hq)) n2 (fun q hq => b2 q (List.mem_cons_of_mem _ hq)) sb
      · rw [sb.1]
        exact b3
      · exact sb.extBut _ _ (fun q => nb ⟨r, hr, q⟩) (b4 b o nb e)
  case fin =>
    rintro b s' ⟨r1, r2, h', e1, e2, rfl, rfl, b1, b2, b3, b4⟩
    have : r2 = [] := by
      cases r2 with
      | nil => rfl
      | cons r r2 => cases e2
    subst this
    rw [List.append_nil] at e1
    subst e1
    show wpAny _ _ (newTuple (col c rs).toArray.toList >>= _) _ _ _
    refine wpAny_bind (wpAny_newTuple (items := (col c rs).toArray.toList) ?_ (by unfold col; simp; rw [sizeLine_eq]; omega))
    refine wpAny_pure ⟨_, rfl, ?_⟩
    have hz' : IsZipHeld h' z TI TO T true := b4 _ _ (fun ⟨r, hr, e⟩ => (S.it r hr).1 e.symm) hz₁
    have up : ∀ b o, h'.get? b = some o → (h'.push { cls := .type "tuple", data := .seq (col c rs).toArray.toList.toArray }).get? b = some o := fun b o e => Heap.get?_push_of_some _ e
    have sz : h'.objs.size = s.heap.objs.size := by rw [b3, hsz1]
    have g := hQ (h'.push { cls := .type "tuple", data := .seq (col c rs).toArray.toList.toArray }) (up _ _ hz') (fun r hr => (b1 r hr).keep (fun o e => up _ _ e) (fun o e => up _ _ e)) (by rw [← sz, Heap.get?_push_size _ rfl]) (by rw [Heap.size_push, sz]) (fun b o nb e => up _ _ (b4 b o (fun q => nb (.inr q)) (hs₁.extBut _ _ (fun q => nb (.inl q)) e)))
    rw [← sz] at g
    exact g
abbrev IsTO (h : Heap) (TO : Addr) (vs : List Value) : Prop := h.get? TO = some { cls := .type "tuple", data := .seq vs.toArray }
theorem updateTO {vs : List Value} {k : Nat} {x : Value} {Q : Unit → Shared → Prop} (hT : IsTO s.heap TO vs) (hl : vs.length ≤ 100) (h : ∀ h', IsTO h' TO (vs.set k x) → Heap.SameBut TO s.heap h' → Q () { s with heap := h' }) :
    wpAny (model prog w) A (updateSeq TO (·.setIfInBounds k x)) Q E s := by
  refine wpAny_updateSeq hT rfl (h _ ?_ (Heap.SameBut.update ..)) (by show vs.toArray.size ≤ sizeLine; rw [List.size_toArray, sizeLine_eq]; omega) (by show (vs.toArray.setIfInBounds k x).size ≤ sizeLine + 1; rw [Array.size_setIfInBounds, List.size_toArray, sizeLine_eq]; omega)
  show (s.heap.update TO _).get? TO = _
  rw [Heap.get?_update_self _ hT rfl]
  simp [Obj.mapSeq]
/-- the first tuple -/
theorem next_first {Q : Value → Shared → Prop} {vs : List Value} (S : Sep z TI TO rs) (hne : rs ≠ []) (hz : IsZip s.heap z TI TO .none) (hTI : IsTI s.heap TI rs) (hTO : IsTO s.heap TO vs) (hvs : vs.length = rs.length) (ha : AllAt s.heap rs c) (hc : ∀ r ∈ rs, c < r.2.2.length) (hlen : rs.length ≤ 100)
    (hQ : ∀ h', IsZipHeld h' z TI TO s.heap.objs.size false → AllAt h' rs (c + 1) → IsTO h' TO (col c rs) → h'.get? s.heap.objs.size = some { cls := .type "tuple", data := .seq (col c rs).toArray } → h'.objs.size = s.heap.objs.size + 1 →
      Keeps (fun b => b = z ∨ b = TO ∨ ∃ r ∈ rs, b = r.1) s.heap h' → Q (.ref s.heap.objs.size) { s with heap := h' }) :
    wpAny (model prog w) A (Builtin.«zip.__next__» ⟨[.ref z], []⟩) (fun fin s' => ∃ v, fin = .done (.ret v) ∧ Q v s') E s := by
  show wpAny _ _ (field (.ref z) 2 >>= _) _ _ _
  refine wpAny_bind (wpAny_field hz rfl (x := .bool false) rfl ?_)
  show wpAny _ _ (field (.ref z) 3 >>= _) _ _ _
  refine wpAny_bind (wpAny_field hz rfl (x := .ref TI) rfl ?_)
  refine wpAny_bind (wpAny_seqItems hTI rfl ?_)
  have hem : (rs.map fun r => Value.ref r.1).toArray.isEmpty = false := by
    cases rs with
    | nil => exact absurd rfl hne
    | cons r rs => simp
  simp only [hem, Bool.false_eq_true, if_false]
  show wpAny _ _ (Builtin.SmallTypes.ownedTupleIsFree (.ref z) >>= _) _ _ _
  refine wpAny_bind ?_
  unfold Builtin.SmallTypes.ownedTupleIsFree
  refine wpAny_bind (wpAny_field hz rfl (x := .none) rfl (wpAny_pure ?_))
  simp only [if_true]
  refine wpAny_bind (wpAny_rule ?_)
  refine wpAny_bind (wpAny_field hz rfl (x := .ref TO) rfl ?_)
  refine wpAny_bind (wpAny_setField_rec hz (by simp) fun h₁ hz₁ hs₁ => ?_)
  replace hz₁ : IsZip h₁ z TI TO .ellipsis := hz₁
  refine wpAny_bind ?_
  have hsz1 : h₁.objs.size = s.heap.objs.size := hs₁.1
  have ha1 : AllAt h₁ rs c := fun r hr => (ha r hr).keep (fun o e => hs₁.extBut _ _ (S.it r hr).1 e) (fun o e => hs₁.extBut _ _ (S.l r hr).1 e)
  have hTO1 : IsTO h₁ TO vs := hs₁.extBut _ _ S.zTO.symm hTO
  refine wpAny_forIn_list _ (fun rest b s' => ∃ (r1 r2 : List R) (h' : Heap), rs = r1 ++ r2 ∧ rest = (r2.map (fun r => Value.ref r.1)).zipIdx r1.length ∧ b = (none, ()) ∧ s' = { s with heap := h' } ∧ AllAt h' r1 (c + 1) ∧ AllAt h' r2 c ∧ IsTO h' TO (col c r1 ++ vs.drop r1.length) ∧ h'.objs.size = h₁.objs.size ∧ Keeps (fun b => b = TO ∨ ∃ r ∈ rs, b = r.1) h₁ h') _ ?turn ?fin _ _ ⟨[], rs, h₁, rfl, by simp, rfl, rfl, (fun r hr => by cases hr), ha1, hTO1, rfl, fun b o _ e => e⟩
  case turn =>
    rintro x rest b s' ⟨r1, r2, h', rfl, e2, rfl, rfl, b1, b2, bT, b3, b4⟩
    cases r2 with
    | nil => cases e2
    | cons r r2 =>
      rw [List.map_cons, List.zipIdx_cons] at e2
      cases e2
      obtain ⟨n1, n2⟩ := nodup_split S.nd
      have hr : r ∈ r1 ++ r :: r2 := List.mem_append_right _ List.mem_cons_self
      have hcr := hc r hr
      have lr1 : r1.length < vs.length := by rw [hvs, List.length_append, List.length_cons]; omega
      have lc1 : (col c r1).length = r1.length := by unfold col; rw [List.length_map]
      refine wpAny_bind (wpAny_onRaise ?_)
      show wpAny _ _ (Builtin.SmallTypes.nextOf (.ref r.1) >>= _) _ _ _
      refine wpAny_bind (ItAt.next (s := { s with heap := h' }) (b2 r List.mem_cons_self) (List.getElem?_eq_getElem hcr) fun h2 a2 sb => wpAny_pure ?_)
      have bT2 : IsTO h2 TO (col c r1 ++ vs.drop r1.length) := sb.extBut _ _ (S.it r hr).2.2.symm bT
      refine wpAny_bind (wpAny_seqItems bT2 rfl ?_)
      refine wpAny_bind (updateTO (s := { s with heap := h2 }) bT2 (by rw [List.length_append, lc1, List.length_drop]; omega) fun h3 bT3 sc => ?_)
      refine wpAny_bind (wpAny_letGo (wpAny_pure ?_))
      refine ⟨r1 ++ [r], r2, h3, by simp, by rw [List.length_append]; rfl, rfl, rfl, fun q hq => ?_, fun q hq => ?_, ?_, ?_, fun b o nb e => ?_⟩
      · have hqm : q ∈ r1 ++ r :: r2 := by
          rcases List.mem_append.mp hq with hq | hq
          · exact List.mem_append_left _ hq
          · rw [List.mem_singleton.mp hq]; exact hr
        refine ItAt.keep ?_ (fun o e => sc.extBut _ _ (S.it q hqm).2.2 e) (fun o e => sc.extBut _ _ (S.l q hqm).2.2 e)
        rcases List.mem_append.mp hq with hq | hq
        · exact AllAt.one (rs' := r1) S hr (fun q hq => List.mem_append_left _ hq) n1 b1 sb q hq
        · rw [List.mem_singleton.mp hq]
          exact a2
      · have hqm : q ∈ r1 ++ r :: r2 := List.mem_append_right _ (List.mem_cons_of_mem _ hq)
        exact ItAt.keep (AllAt.one (rs' := r2) S hr (fun q hq => List.mem_append_right _ (List.mem_cons_of_mem _ hq)) n2 (fun q hq => b2 q (List.mem_cons_of_mem _ hq)) sb q hq) (fun o e => sc.extBut _ _ (S.it q hqm).2.2 e) (fun o e => sc.extBut _ _ (S.l q hqm).2.2 e)
      · have e : (col c r1 ++ vs.drop r1.length).set r1.length r.2.2[c] = col c (r1 ++ [r]) ++ vs.drop (r1 ++ [r]).length := by
          rw [List.set_append_right _ _ (by omega), lc1, Nat.sub_self, List.drop_eq_getElem_cons lr1, List.set_cons_zero, List.length_append]
          unfold col
          rw [List.map_append, List.append_assoc]
          simp [List.getElem?_eq_getElem hcr]
        rw [← e]
        exact bT3
      · rw [sc.1, sb.1]
        exact b3
      · exact sc.extBut _ _ (fun q => nb (.inl q)) (sb.extBut _ _ (fun q => nb (.inr ⟨r, hr, q⟩)) (b4 b o nb e))
  case fin =>
    rintro b s' ⟨r1, r2, h', e1, e2, rfl, rfl, b1, b2, bT, b3, b4⟩
    have : r2 = [] := by
      cases r2 with
      | nil => rfl
      | cons r r2 =>
        rw [List.map_cons, List.zipIdx_cons] at e2
        cases e2
    subst this
    rw [List.append_nil] at e1
    subst e1
    have bT' : IsTO h' TO (col c rs) := by
      rw [← hvs, List.drop_length, List.append_nil] at bT
      exact bT
    refine wpAny_bind (wpAny_seqItems bT' rfl ?_)
    show wpAny _ _ (newTuple (col c rs).toArray.toList >>= _) _ _ _
    refine wpAny_bind (wpAny_newTuple (items := (col c rs).toArray.toList) ?_ (by unfold col; simp; rw [sizeLine_eq]; omega))
    have hz' : IsZip h' z TI TO .ellipsis := b4 _ _ (fun q => by
      rcases q with q | ⟨r, hr, e⟩
      · exact S.zTO q
      · exact (S.it r hr).1 e.symm) hz₁
    have up : ∀ b o, h'.get? b = some o → (h'.push { cls := .type "tuple", data := .seq (col c rs).toArray.toList.toArray }).get? b = some o := fun b o e => Heap.get?_push_of_some _ e
    have sz : h'.objs.size = s.heap.objs.size := by rw [b3, hsz1]
    have gT : (h'.push { cls := .type "tuple", data := .seq (col c rs).toArray.toList.toArray }).get? h'.objs.size = some { cls := .type "tuple", data := .seq (col c rs).toArray.toList.toArray } := Heap.get?_push_size _ rfl
    have zlt : z < h'.objs.size := Heap.lt_size hz'
    show wpAny _ _ (Builtin.SmallTypes.ownedTupleHandOut (.ref z) (.ref h'.objs.size) >>= _) _ _ _
    refine wpAny_bind ?_
    unfold Builtin.SmallTypes.ownedTupleHandOut
    refine wpAny_bind (wpAny_setField_rec (up _ _ hz') (by simp) fun h₇ hz₇ hs₇ => ?_)
    refine wpAny_setField_rec hz₇ (by simp) fun h₈ hz₈ hs₈ => ?_
    replace hz₈ : IsZipHeld h₈ z TI TO h'.objs.size false := hz₈
    have up8 : ∀ b o, b ≠ z → h'.get? b = some o → h₈.get? b = some o := fun b o nb e => hs₈.extBut _ _ nb (hs₇.extBut _ _ nb (up _ _ e))
    refine wpAny_pure ⟨_, rfl, ?_⟩
    have gT8 := hs₈.extBut _ _ (Nat.ne_of_gt zlt) (hs₇.extBut _ _ (Nat.ne_of_gt zlt) gT)
    have sz8 : h₈.objs.size = h'.objs.size + 1 := by rw [hs₈.1, hs₇.1, Heap.size_push]
    have g := hQ h₈ (by rw [← sz]; exact hz₈) (fun r hr => (b1 r hr).keep (fun o e => up8 _ _ (S.it r hr).1 e) (fun o e => up8 _ _ (S.l r hr).1 e)) (up8 _ _ S.zTO.symm bT') (by rw [← sz]; exact gT8) (by rw [sz8, sz])
      (fun b o nb e => up8 _ _ (fun q => nb (.inl q)) (b4 b o (fun q => nb (.inr q)) (hs₁.extBut _ _ (fun q => nb (.inl q)) e)))
    rw [← sz] at g
    exact g
/-- behind the last tuple -/
theorem stop_held {Q : Fin → Shared → Prop} (hh : A.handled = none) (S : Sep z TI TO rs) (hne : rs ≠ []) (hz : IsZipHeld s.heap z TI TO T f) (hT : s.heap.get? T = some oT) (hTI : IsTI s.heap TI rs) (ha : AllAt s.heap rs c) (hc : ∀ r ∈ rs, r.2.2.length = c)
    (hE : ∀ h' e, Keeps (fun b => b = z ∨ ∃ r ∈ rs, b = r.1) s.heap h' → (∃ o, h'.get? e = some o ∧ o.cls = .type "StopIteration") → E (.ref e) { s with heap := h' }) :
    wpAny (model prog w) A (Builtin.«zip.__next__» ⟨[.ref z], []⟩) Q E s := by
  show wpAny _ _ (field (.ref z) 2 >>= _) _ _ _
  refine wpAny_bind (wpAny_field hz rfl (x := .bool false) rfl ?_)
  show wpAny _ _ (field (.ref z) 3 >>= _) _ _ _
  refine wpAny_bind (wpAny_field hz rfl (x := .ref TI) rfl ?_)
  refine wpAny_bind (wpAny_seqItems hTI rfl ?_)
  have hem : (rs.map fun r => Value.ref r.1).toArray.isEmpty = false := by
    cases rs with
    | nil => exact absurd rfl hne
    | cons r rs => simp
  simp only [hem, Bool.false_eq_true, if_false]
  show wpAny _ _ (Builtin.SmallTypes.ownedTupleIsFree (.ref z) >>= _) _ _ _
  refine wpAny_bind (wpAny_tupleHeld_zip hz hT fun h₁ hz₁ hs₁ => ?_)
  simp only [Bool.false_eq_true, if_false]
  cases rs with
  | nil => exact absurd rfl hne
  | cons r rs =>
    refine wpAny_bind ?_
    rw [← Array.forIn_toList]
    simp only [List.map_cons, List.toList_toArray, List.forIn_cons]
    have hr : r ∈ r :: rs := List.mem_cons_self
    refine wpAny_bind (wpAny_bind (wpAny_holding ?_))
    show wpAny _ _ (Builtin.SmallTypes.nextOf (.ref r.1) >>= _) _ _ _
    have ar : ItAt h₁ r.1 r.2.1 c r.2.2 := (ha r hr).keep (fun o e => hs₁.extBut _ _ (S.it r hr).1 e) (fun o e => hs₁.extBut _ _ (S.l r hr).1 e)
    refine wpAny_bind (ItAt.stop (s := { s with heap := h₁ }) hh ar (List.getElem?_eq_none (by rw [hc r hr]; exact Nat.le_refl _)) fun h' e eb he => hE h' e (fun b o nb q => eb _ _ (fun z => nb (.inr ⟨r, hr, z⟩)) (hs₁.extBut _ _ (fun z => nb (.inl z)) q)) he)
/-- behind the last tuple, while none is out -/
theorem stop_first {Q : Fin → Shared → Prop} (hh : A.handled = none) (S : Sep z TI TO rs) (hne : rs ≠ []) (hz : IsZip s.heap z TI TO .none) (hTI : IsTI s.heap TI rs) (ha : AllAt s.heap rs c) (hc : ∀ r ∈ rs, r.2.2.length = c)
    (hE : ∀ h' e, Keeps (fun b => b = z ∨ ∃ r ∈ rs, b = r.1) s.heap h' → (∃ o, h'.get? e = some o ∧ o.cls = .type "StopIteration") → E (.ref e) { s with heap := h' }) :
    wpAny (model prog w) A (Builtin.«zip.__next__» ⟨[.ref z], []⟩) Q E s := by
  show wpAny _ _ (field (.ref z) 2 >>= _) _ _ _
  refine wpAny_bind (wpAny_field hz rfl (x := .bool false) rfl ?_)
  show wpAny _ _ (field (.ref z) 3 >>= _) _ _ _
  refine wpAny_bind (wpAny_field hz rfl (x := .ref TI) rfl ?_)
  refine wpAny_bind (wpAny_seqItems hTI rfl ?_)
  have hem : (rs.map fun r => Value.ref r.1).toArray.isEmpty = false := by
    cases rs with
    | nil => exact absurd rfl hne
    | cons r rs => simp
  simp only [hem, Bool.false_eq_true, if_false]
  show wpAny _ _ (Builtin.SmallTypes.ownedTupleIsFree (.ref z) >>= _) _ _ _
  refine wpAny_bind ?_
  unfold Builtin.SmallTypes.ownedTupleIsFree
  refine wpAny_bind (wpAny_field hz rfl (x := .none) rfl (wpAny_pure ?_))
  simp only [if_true]
  refine wpAny_bind (wpAny_rule ?_)
  refine wpAny_bind (wpAny_field hz rfl (x := .ref TO) rfl ?_)
  refine wpAny_bind (wpAny_setField_rec hz (by simp) fun h₁ hz₁ hs₁ => ?_)
  replace hz₁ : IsZip h₁ z TI TO .ellipsis := hz₁
  cases rs with
  | nil => exact absurd rfl hne
  | cons r rs =>
    refine wpAny_bind ?_
    simp only [List.map_cons, List.zipIdx_cons, List.forIn_cons]
    have hr : r ∈ r :: rs := List.mem_cons_self
    refine wpAny_bind (wpAny_bind (wpAny_onRaise ?_))
    show wpAny _ _ (Builtin.SmallTypes.nextOf (.ref r.1) >>= _) _ _ _
    have ar : ItAt h₁ r.1 r.2.1 c r.2.2 := (ha r hr).keep (fun o e => hs₁.extBut _ _ (S.it r hr).1 e) (fun o e => hs₁.extBut _ _ (S.l r hr).1 e)
    refine wpAny_bind (ItAt.stop (s := { s with heap := h₁ }) hh ar (List.getElem?_eq_none (by rw [hc r hr]; exact Nat.le_refl _)) fun h₂ e hs₂ he => ?_)
    obtain ⟨oe, hoe, hce⟩ := he
    have hz₂ : IsZip h₂ z TI TO .ellipsis := hs₂ _ _ (S.it r hr).1.symm hz₁
    have hez : e ≠ z := fun x => by subst x; rw [hz₂] at hoe; cases hoe; simp at hce
    refine wpAny_setField_rec hz₂ (by simp) fun h₃ _ hs₃ => hE h₃ e (fun b o nb q => hs₃.extBut _ _ (fun x => nb (.inl x)) (hs₂ _ _ (fun x => nb (.inr ⟨r, hr, x⟩)) (hs₁.extBut _ _ (fun x => nb (.inl x)) q))) ⟨oe, hs₃.extBut _ _ hez hoe, hce⟩
end
end ZN

namespace ZN
open PySem
open PySem.Sem (wp)
theorem zip_no_len : typeLookup (.type "zip") "__len__" = pure none := by rw [typeLookup_type, builtinLookup_eq_fast]; kernel_rfl
theorem zip_no_hint : typeLookup (.type "zip") "__length_hint__" = pure none := by rw [typeLookup_type, builtinLookup_eq_fast]; kernel_rfl
section
variable {prog : Program} {w : World} {A : Around} {E : Value → Shared → Prop} {s : Shared} {z TI TO T : Addr} {f : Bool} {oT : Obj} {rs : List R} {c : Nat}
theorem pyNext_held {Q : Option Value → Shared → Prop} (S : Sep z TI TO rs) (hne : rs ≠ []) (hz : IsZipHeld s.heap z TI TO T f) (hT : s.heap.get? T = some oT) (hTI : IsTI s.heap TI rs) (ha : AllAt s.heap rs c) (hc : ∀ r ∈ rs, c < r.2.2.length) (hlen : rs.length ≤ 100)
    (hQ : ∀ h', IsZipHeld h' z TI TO T true → AllAt h' rs (c + 1) → h'.get? s.heap.objs.size = some { cls := .type "tuple", data := .seq (col c rs).toArray } → h'.objs.size = s.heap.objs.size + 1 →
      Keeps (fun b => b = z ∨ ∃ r ∈ rs, b = r.1) s.heap h' → Q (some (.ref s.heap.objs.size)) { s with heap := h' }) : wpAny (model prog w) A (pyNext (.ref z)) Q E s := by
  have hTy : s.TypeIs (.ref z) "zip" := ⟨_, hz, rfl⟩
  unfold pyNext
  exact wpAny_bind (wpAny_attempt (wpAny_callSpecial?_slot (name := Str.ofString "__next__") hTy F.slot_zip_next
    (wpAny_call_entry F.slot_zip_next hTy F.entry_zip_next (next_held S hne hz hT hTI ha hc hlen fun h' a1 a2 a3 a4 a5 => wpAny_pure (hQ h' a1 a2 a3 a4 a5)) (F.args_zip_next_1 _))))
theorem pyNext_first {Q : Option Value → Shared → Prop} {vs : List Value} (S : Sep z TI TO rs) (hne : rs ≠ []) (hz : IsZip s.heap z TI TO .none) (hTI : IsTI s.heap TI rs) (hTO : IsTO s.heap TO vs) (hvs : vs.length = rs.length) (ha : AllAt s.heap rs c) (hc : ∀ r ∈ rs, c < r.2.2.length) (hlen : rs.length ≤ 100)
    (hQ : ∀ h', IsZipHeld h' z TI TO s.heap.objs.size false → AllAt h' rs (c + 1) → IsTO h' TO (col c rs) → h'.get? s.heap.objs.size = some { cls := .type "tuple", data := .seq (col c rs).toArray } → h'.objs.size = s.heap.objs.size + 1 →
      Keeps (fun b => b = z ∨ b = TO ∨ ∃ r ∈ rs, b = r.1) s.heap h' → Q (some (.ref s.heap.objs.size)) { s with heap := h' }) : wpAny (model prog w) A (pyNext (.ref z)) Q E s := by
  have hTy : s.TypeIs (.ref z) "zip" := ⟨_, hz, rfl⟩
  unfold pyNext
  exact wpAny_bind (wpAny_attempt (wpAny_callSpecial?_slot (name := Str.ofString "__next__") hTy F.slot_zip_next
    (wpAny_call_entry F.slot_zip_next hTy F.entry_zip_next (next_first S hne hz hTI hTO hvs ha hc hlen fun h' a1 a2 aT a3 a4 a5 => wpAny_pure (hQ h' a1 a2 aT a3 a4 a5)) (F.args_zip_next_1 _))))
theorem pyNext_stop {Q : Option Value → Shared → Prop} (hh : A.handled = none) (S : Sep z TI TO rs) (hne : rs ≠ []) (hz : IsZipHeld s.heap z TI TO T f) (hT : s.heap.get? T = some oT) (hTI : IsTI s.heap TI rs) (ha : AllAt s.heap rs c) (hc : ∀ r ∈ rs, r.2.2.length = c)
    (hQ : ∀ h', Keeps (fun b => b = z ∨ ∃ r ∈ rs, b = r.1) s.heap h' → Q none { s with heap := h' }) : wpAny (model prog w) A (pyNext (.ref z)) Q E s := by
  have hTy : s.TypeIs (.ref z) "zip" := ⟨_, hz, rfl⟩
  unfold pyNext
  refine wpAny_bind (wpAny_attempt (wpAny_callSpecial?_slot (name := Str.ofString "__next__") hTy F.slot_zip_next
    (wpAny_call_entry F.slot_zip_next hTy F.entry_zip_next (stop_held hh S hne hz hT hTI ha hc fun h' e hk he => ?_) (F.args_zip_next_1 _))))
  obtain ⟨o, ho, hcl⟩ := he
  refine wpAny_bind (wpAny_isInstance (T := "StopIteration") (b := true) ⟨o, ho, hcl⟩ isSubtype_stop ?_)
  exact wpAny_pure (hQ _ hk)
theorem pyNext_end {Q : Option Value → Shared → Prop} (hh : A.handled = none) (S : Sep z TI TO rs) (hne : rs ≠ []) (hz : IsZip s.heap z TI TO .none) (hTI : IsTI s.heap TI rs) (ha : AllAt s.heap rs c) (hc : ∀ r ∈ rs, r.2.2.length = c)
    (hQ : ∀ h', Keeps (fun b => b = z ∨ ∃ r ∈ rs, b = r.1) s.heap h' → Q none { s with heap := h' }) : wpAny (model prog w) A (pyNext (.ref z)) Q E s := by
  have hTy : s.TypeIs (.ref z) "zip" := ⟨_, hz, rfl⟩
  unfold pyNext
  refine wpAny_bind (wpAny_attempt (wpAny_callSpecial?_slot (name := Str.ofString "__next__") hTy F.slot_zip_next
    (wpAny_call_entry F.slot_zip_next hTy F.entry_zip_next (stop_first hh S hne hz hTI ha hc fun h' e hk he => ?_) (F.args_zip_next_1 _))))
  obtain ⟨o, ho, hcl⟩ := he
  refine wpAny_bind (wpAny_isInstance (T := "StopIteration") (b := true) ⟨o, ho, hcl⟩ isSubtype_stop ?_)
  exact wpAny_pure (hQ _ hk)
end
/-- the list at L while it is filled: ts are the tuples so far -/
structure St (N : Nat) (h : Heap) (z TI TO L : Addr) (rs : List R) (ts : List Addr) : Prop where
  nd : ts.Nodup
  ge : ∀ t ∈ ts, N ≤ t ∧ t < h.objs.size
  zz : ∃ T oT f, IsZipHeld h z TI TO T f ∧ h.get? T = some oT ∧ T ≠ z ∧ T ≠ L ∧ ∀ r ∈ rs, T ≠ r.1
  ti : IsTI h TI rs
  at_ : AllAt h rs ts.length
  l : ∃ cap, h.get? L = some { cls := .type "list", dict := none, data := .seq (ts.map Value.ref).toArray cap, slots := #[] }
  tt : ∀ j t, ts[j]? = some t → h.get? t = some { cls := .type "tuple", data := .seq (col j rs).toArray } ∧ t ≠ z ∧ t ≠ L ∧ ∀ r ∈ rs, t ≠ r.1
/-- the list at L, filled -/
structure Done (N : Nat) (h : Heap) (L : Addr) (rs : List R) (ts : List Addr) : Prop where
  nd : ts.Nodup
  ge : ∀ t ∈ ts, N ≤ t
  ne : ∀ t ∈ ts, t ≠ L
  l : ∃ cap, h.get? L = some { cls := .type "list", dict := none, data := .seq (ts.map Value.ref).toArray cap, slots := #[] }
  tt : ∀ j t, ts[j]? = some t → h.get? t = some { cls := .type "tuple", data := .seq (col j rs).toArray }
structure LSep (z TI TO L : Addr) (rs : List R) : Prop where
  lz : L ≠ z
  lTI : L ≠ TI
  lTO : L ≠ TO
  it : ∀ r ∈ rs, L ≠ r.1 ∧ L ≠ r.2.1
section
variable {prog : Program} {w : World} {A : Around} {R' : Result → Shared → Prop} {z TI TO L : Addr} {rs : List R} {m : Nat}
/-- one tuple more -/
theorem St.more {N : Nat} {h h' : Heap} {ts : List Addr} {T : Addr} {oT : Obj} {f : Bool} {T0 : Addr} (x : St N h z TI TO L rs ts) (hN : N ≤ T) (hge : h.objs.size ≤ T) (hlt : T < h'.objs.size) (S : Sep z TI TO rs) (D : LSep z TI TO L rs) (hz : IsZipHeld h' z TI TO T0 f) (hT0 : h'.get? T0 = some oT) (t1 : T0 ≠ z) (t2 : T0 ≠ L) (t3 : ∀ r ∈ rs, T0 ≠ r.1) (ha : AllAt h' rs (ts.length + 1))
    (hT : h'.get? T = some { cls := .type "tuple", data := .seq (col ts.length rs).toArray }) (hTz : T ≠ z) (hTL : T ≠ L) (hTr : ∀ r ∈ rs, T ≠ r.1) (k : Keeps (fun b => b = z ∨ b = TO ∨ ∃ r ∈ rs, b = r.1) h h') (nTO : ∀ t ∈ ts, t ≠ TO) :
    ∃ cap, h'.get? L = some { cls := .type "list", dict := none, data := .seq (ts.map Value.ref).toArray cap, slots := #[] } ∧ ∀ h'' cap2, h''.get? L = some { cls := .type "list", dict := none, data := .seq ((ts.map Value.ref).toArray.push (.ref T)) cap2, slots := #[] } → Heap.SameBut L h' h'' → St N h'' z TI TO L rs (ts ++ [T]) := by
  obtain ⟨cap, hl⟩ := x.l
  have nL : ¬ (L = z ∨ L = TO ∨ ∃ r ∈ rs, L = r.1) := fun q => by
    rcases q with q | q | ⟨r, hr, q⟩
    · exact D.lz q
    · exact D.lTO q
    · exact (D.it r hr).1 q
  refine ⟨cap, k _ _ nL hl, fun h'' cap2 hl2 sb => ⟨?_, ?_, ⟨T0, oT, f, sb.extBut _ _ D.lz.symm hz, sb.extBut _ _ t2 hT0, t1, t2, t3⟩, sb.extBut _ _ D.lTI.symm (k _ _ (fun q => ?_) x.ti), ?_, ⟨cap2, ?_⟩, fun j t hj => ?_⟩⟩
  · rw [List.nodup_append]
    refine ⟨x.nd, by simp, fun a ha b hb e => ?_⟩
    rw [List.mem_singleton.mp hb] at e
    have := (x.ge a ha).2
    rw [e] at this
    exact Nat.lt_irrefl _ (Nat.lt_of_lt_of_le this hge)
  · intro t ht
    rw [sb.1]
    rcases List.mem_append.mp ht with ht | ht
    · exact ⟨(x.ge t ht).1, Nat.lt_trans (Nat.lt_of_lt_of_le (x.ge t ht).2 hge) hlt⟩
    · rw [List.mem_singleton.mp ht]
      exact ⟨hN, hlt⟩
  · rcases q with q | q | ⟨r, hr, q⟩
    · exact S.zTI q.symm
    · exact S.TITO q
    · exact (S.it r hr).2.1 q.symm
  · rw [List.length_append]
    exact fun r hr => (ha r hr).keep (fun o e => sb.extBut _ _ (D.it r hr).1.symm e) (fun o e => sb.extBut _ _ (D.it r hr).2.symm e)
  · rw [hl2]
    simp
  · by_cases q : j < ts.length
    · rw [List.getElem?_append_left q] at hj
      obtain ⟨a1, a2, a3, a4⟩ := x.tt j t hj
      refine ⟨sb.extBut _ _ a3 (k _ _ (fun q => ?_) a1), a2, a3, a4⟩
      rcases q with q | q | ⟨r, hr, q⟩
      · exact a2 q
      · exact nTO t (List.mem_of_getElem? hj) q
      · exact a4 r hr q
    · rw [List.getElem?_append_right (by omega)] at hj
      have hj0 : j - ts.length = 0 := by
        cases e : j - ts.length with
        | zero => rfl
        | succ n => rw [e] at hj; cases hj
      rw [hj0] at hj
      cases hj
      have : j = ts.length := by omega
      subst this
      exact ⟨sb.extBut _ _ hTL hT, hTz, hTL, hTr⟩
theorem ext_loop {N : Nat} (hh : A.handled = none) (S : Sep z TI TO rs) (D : LSep z TI TO L rs) (hne : rs ≠ []) (hm : ∀ r ∈ rs, r.2.2.length = m) (hm100 : m ≤ 100) (hlen : rs.length ≤ 100) (res : Value) :
    ∀ (k : Nat) (ts : List Addr) (s : Shared), ts.length + k = m → 1 ≤ ts.length → TO < s.heap.objs.size → N ≤ s.heap.objs.size → St N s.heap z TI TO L rs ts → (∀ t ∈ ts, t ≠ TO) →
      (∀ h' ts', ts'.length = m → Done N h' L rs ts' → Keeps (fun b => b = z ∨ b = L ∨ b = TO ∨ ∃ r ∈ rs, b = r.1) s.heap h' → R' (.ok (.ret res)) { s with heap := h' }) →
      codeAny (model prog w) A (.builtin "list.extend.loop" ⟨[.ref L, .ref z, res], []⟩) R' s := by
  intro k
  induction k with
  | zero =>
    intro ts s hk h1 lTO hN st nTO hR
    obtain ⟨T, oT, f, hz, hT, t1, t2, t3⟩ := st.zz
    refine codeAny_builtin F.entry_extend_loop ?_
    rw [Around.under_plainId F.plain_extend_loop _]
    show wpAny _ A.in1 (pyNext (.ref z) >>= _) _ _ s
    refine wpAny_bind (pyNext_stop (A := A.in1) (c := ts.length) hh S hne hz hT st.ti st.at_ (fun r hr => by rw [hm r hr]; omega) fun h' hk' => ?_)
    have nL : ¬ (L = z ∨ ∃ r ∈ rs, L = r.1) := fun q => by
      rcases q with q | ⟨r, hr, q⟩
      · exact D.lz q
      · exact (D.it r hr).1 q
    refine wpAny_pure (hR h' ts (by omega) ⟨st.nd, fun t ht => (st.ge t ht).1, fun t ht => by
      obtain ⟨j, hj, e⟩ := List.getElem_of_mem ht
      exact (st.tt j t (by rw [List.getElem?_eq_getElem hj, e])).2.2.1, ?_, fun j t hj => ?_⟩ fun b o nb e => hk' b o (fun q => nb ?_) e)
    · obtain ⟨cap, hl⟩ := st.l
      exact ⟨cap, hk' _ _ nL hl⟩
    · obtain ⟨b1, b2, b3, b4⟩ := st.tt j t hj
      refine hk' _ _ (fun q => ?_) b1
      rcases q with q | ⟨r, hr, q⟩
      · exact b2 q
      · exact b4 r hr q
    · rcases q with q | q
      · exact .inl q
      · exact .inr (.inr (.inr q))
  | succ k ih =>
    intro ts s hk h1 lTO hN st nTO hR
    obtain ⟨T, oT, f, hz, hT, t1, t2, t3⟩ := st.zz
    refine codeAny_builtin F.entry_extend_loop ?_
    rw [Around.under_plainId F.plain_extend_loop _]
    show wpAny _ A.in1 (pyNext (.ref z) >>= _) _ _ s
    refine wpAny_bind (pyNext_held (A := A.in1) (c := ts.length) S hne hz hT st.ti st.at_ (fun r hr => by rw [hm r hr]; omega) hlen fun h' a1 a2 a3 a4 a5 => ?_)
    have fresh : ∀ {b o}, s.heap.get? b = some o → s.heap.objs.size ≠ b := fun {b o} e => Nat.ne_of_gt (Heap.lt_size e)
    obtain ⟨cap0, hl0⟩ := st.l
    have a5' : Keeps (fun b => b = z ∨ b = TO ∨ ∃ r ∈ rs, b = r.1) s.heap h' := fun b o nb e => a5 b o (fun q => nb (by
      rcases q with q | q
      · exact .inl q
      · exact .inr (.inr q))) e
    have hT' : h'.get? T = some oT := a5 _ _ (fun q => by
      rcases q with q | ⟨r, hr, q⟩
      · exact t1 q
      · exact t3 r hr q) hT
    obtain ⟨cap, hl, more⟩ := st.more (T := s.heap.objs.size) hN (Nat.le_refl _) (by rw [a4]; exact Nat.lt_succ_self _) S D a1 hT' t1 t2 t3 a2 a3 (fresh hz) (fresh hl0) (fun r hr => Nat.ne_of_gt (st.at_ r hr).lt.1) a5' nTO
    have ltm : ts.length < m := by omega
    show wpAny _ A.in1 (updateSeq L (·.push (.ref s.heap.objs.size)) >>= _) _ _ _
    refine wpAny_bind (wpAny_updateSeq hl rfl (wpAny_pure ⟨plainId_quiet F.plain_extend_loop _, ?_⟩) (by show (ts.map Value.ref).toArray.size ≤ sizeLine; rw [List.size_toArray, List.length_map, sizeLine_eq]; omega) (by show ((ts.map Value.ref).toArray.push _).size ≤ sizeLine + 1; rw [Array.size_push, List.size_toArray, List.length_map, sizeLine_eq]; omega))
    have st' := more (h'.update L (Obj.mapSeq (·.push (.ref s.heap.objs.size)))) _ (Heap.get?_update_self _ hl rfl) (Heap.SameBut.update ..)
    refine ih (ts ++ [s.heap.objs.size]) _ (by rw [List.length_append]; show ts.length + 1 + k = m; omega) (by rw [List.length_append]; show 1 ≤ ts.length + 1; omega) (by show TO < (h'.update L _).objs.size; rw [(Heap.SameBut.update ..).1, a4]; exact Nat.lt_succ_of_lt lTO) (by show N ≤ (h'.update L _).objs.size; rw [(Heap.SameBut.update ..).1, a4]; exact Nat.le_succ_of_le hN) st' (fun t ht => ?_) fun h'' ts' e1 e2 e3 => hR h'' ts' e1 e2 fun b o nb e => e3 b o nb ?_
    · rcases List.mem_append.mp ht with ht | ht
      · exact nTO t ht
      · rw [List.mem_singleton.mp ht]
        exact Nat.ne_of_gt lTO
    · exact (Heap.SameBut.update ..).extBut _ _ (fun q => nb (.inr (.inl q))) (a5' b o (fun q => nb (by
        rcases q with q | q | q
        · exact .inl q
        · exact .inr (.inr (.inl q))
        · exact .inr (.inr (.inr q)))) e)
end
end ZN

namespace ZN
open PySem
open PySem.Sem (wp)
section
variable {prog : Program} {w : World} {A : Around} {R' : Result → Shared → Prop} {E : Value → Shared → Prop} {s : Shared} {z TI TO L : Addr} {rs : List R} {m N : Nat} {vs : List Value}
/-- the zip at z is new -/
structure New (h : Heap) (z TI TO : Addr) (rs : List R) (vs : List Value) : Prop where
  zz : IsZip h z TI TO .none
  ti : IsTI h TI rs
  to : IsTO h TO vs
  vl : vs.length = rs.length
  at_ : AllAt h rs 0
theorem New.keep {h h' : Heap} (x : New h z TI TO rs vs) (k : ∀ b o, (b = z ∨ b = TI ∨ b = TO ∨ ∃ r ∈ rs, b = r.1 ∨ b = r.2.1) → h.get? b = some o → h'.get? b = some o) : New h' z TI TO rs vs :=
  ⟨k _ _ (.inl rfl) x.zz, k _ _ (.inr (.inl rfl)) x.ti, k _ _ (.inr (.inr (.inl rfl))) x.to, x.vl, fun r hr => (x.at_ r hr).keep (fun o e => k _ _ (.inr (.inr (.inr ⟨r, hr, .inl rfl⟩))) e) (fun o e => k _ _ (.inr (.inr (.inr ⟨r, hr, .inr rfl⟩))) e)⟩
theorem LSep.off (D : LSep z TI TO L rs) {b : Addr} (h : b = z ∨ b = TI ∨ b = TO ∨ ∃ r ∈ rs, b = r.1 ∨ b = r.2.1) : b ≠ L := by
  rcases h with h | h | h | ⟨r, hr, h | h⟩
  · rw [h]; exact D.lz.symm
  · rw [h]; exact D.lTI.symm
  · rw [h]; exact D.lTO.symm
  · rw [h]; exact (D.it r hr).1.symm
  · rw [h]; exact (D.it r hr).2.symm
theorem ext_first (hh : A.handled = none) (S : Sep z TI TO rs) (D : LSep z TI TO L rs) (hne : rs ≠ []) (hm : ∀ r ∈ rs, r.2.2.length = m) (hm1 : 1 ≤ m) (hm100 : m ≤ 100) (hlen : rs.length ≤ 100) (res : Value) (cap : Nat) (x : New s.heap z TI TO rs vs) (hN : N ≤ s.heap.objs.size)
    (hL : s.heap.get? L = some { cls := .type "list", dict := none, data := .seq #[] cap, slots := #[] })
    (hR : ∀ h' ts', ts'.length = m → Done N h' L rs ts' → Keeps (fun b => b = z ∨ b = L ∨ b = TO ∨ ∃ r ∈ rs, b = r.1) s.heap h' → R' (.ok (.ret res)) { s with heap := h' }) :
    codeAny (model prog w) A (.builtin "list.extend.loop" ⟨[.ref L, .ref z, res], []⟩) R' s := by
  refine codeAny_builtin F.entry_extend_loop ?_
  rw [Around.under_plainId F.plain_extend_loop _]
  show wpAny _ A.in1 (pyNext (.ref z) >>= _) _ _ s
  refine wpAny_bind (pyNext_first (A := A.in1) (c := 0) S hne x.zz x.ti x.to x.vl x.at_ (fun r hr => by rw [hm r hr]; omega) hlen fun h' a1 a2 _ a3 a4 a5 => ?_)
  have fresh : ∀ {b o}, s.heap.get? b = some o → s.heap.objs.size ≠ b := fun {b o} e => Nat.ne_of_gt (Heap.lt_size e)
  have nL : ¬ (L = z ∨ L = TO ∨ ∃ r ∈ rs, L = r.1) := fun q => by
    rcases q with q | q | ⟨r, hr, q⟩
    · exact D.lz q
    · exact D.lTO q
    · exact (D.it r hr).1 q
  have hL' := a5 _ _ nL hL
  have lTO : TO < s.heap.objs.size := Heap.lt_size x.to
  show wpAny _ A.in1 (updateSeq L (·.push (.ref s.heap.objs.size)) >>= _) _ _ _
  refine wpAny_bind (wpAny_updateSeq hL' rfl (wpAny_pure ⟨plainId_quiet F.plain_extend_loop _, ?_⟩) (by show (#[] : Array Value).size ≤ sizeLine; exact Nat.zero_le _) (by show ((#[] : Array Value).push _).size ≤ sizeLine + 1; rw [Array.size_push]; exact Nat.le_add_left _ _))
  have sb := Heap.SameBut.update h' L (Obj.mapSeq (·.push (Value.ref s.heap.objs.size)))
  have gL := Heap.get?_update_self (Obj.mapSeq (·.push (Value.ref s.heap.objs.size))) hL' rfl
  generalize h'.update L (Obj.mapSeq (·.push (Value.ref s.heap.objs.size))) = h2 at sb gL ⊢
  have nT : s.heap.objs.size ≠ L := fresh hL
  have g2T : h2.get? s.heap.objs.size = some { cls := .type "tuple", data := .seq (col 0 rs).toArray } := sb.extBut _ _ nT a3
  have st : St N h2 z TI TO L rs [s.heap.objs.size] := by
    refine ⟨by simp, fun t ht => ?_, ⟨s.heap.objs.size, _, false, sb.extBut _ _ D.lz.symm a1, g2T, fresh x.zz, nT, fun r hr => Nat.ne_of_gt (x.at_ r hr).lt.1⟩, sb.extBut _ _ D.lTI.symm (a5 _ _ (fun q => ?_) x.ti), fun r hr => (a2 r hr).keep (fun o e => sb.extBut _ _ (D.it r hr).1.symm e) (fun o e => sb.extBut _ _ (D.it r hr).2.symm e), ⟨_, gL⟩, fun j t hj => ?_⟩
    · rw [List.mem_singleton.mp ht]
      refine ⟨hN, ?_⟩
      rw [sb.1, a4]
      exact Nat.lt_succ_self _
    · rcases q with q | q | ⟨r, hr, q⟩
      · exact S.zTI q.symm
      · exact S.TITO q
      · exact (S.it r hr).2.1 q.symm
    · cases j with
      | zero =>
        cases hj
        exact ⟨g2T, fresh x.zz, nT, fun r hr => Nat.ne_of_gt (x.at_ r hr).lt.1⟩
      | succ j => cases hj
  refine ext_loop hh S D hne hm hm100 hlen res (m - 1) [s.heap.objs.size] _ (by show 1 + (m - 1) = m; omega) (Nat.le_refl 1) (by show TO < h2.objs.size; rw [sb.1, a4]; exact Nat.lt_succ_of_lt lTO) (by show N ≤ h2.objs.size; rw [sb.1, a4]; exact Nat.le_succ_of_le hN) st (fun t ht => by rw [List.mem_singleton.mp ht]; exact Nat.ne_of_gt lTO) fun h3 ts' e1 e2 e3 => hR h3 ts' e1 e2 fun b o nb e => e3 b o nb ?_
  exact sb.extBut _ _ (fun q => nb (.inr (.inl q))) (a5 b o (fun q => nb (by
    rcases q with q | q | q
    · exact .inl q
    · exact .inr (.inr (.inl q))
    · exact .inr (.inr (.inr q)))) e)
theorem list_init_zip (hh : A.handled = none) (S : Sep z TI TO rs) (D : LSep z TI TO L rs) (hne : rs ≠ []) (hm : ∀ r ∈ rs, r.2.2.length = m) (hm1 : 1 ≤ m) (hm100 : m ≤ 100) (hlen : rs.length ≤ 100) (x : New s.heap z TI TO rs vs) (hN : N ≤ s.heap.objs.size)
    (hL : s.heap.get? L = some { cls := .type "list", data := .seq #[] })
    (hR : ∀ h' ts', ts'.length = m → Done N h' L rs ts' → Keeps (fun b => b = z ∨ b = L ∨ b = TO ∨ ∃ r ∈ rs, b = r.1) s.heap h' → R' (.ok (.ret .none)) { s with heap := h' }) :
    wpAny (model prog w) A.in1 (Builtin.«list.__init__» ⟨[.ref L, .ref z], []⟩)
      (fun fin s' => match fin with | .done f => R' (.ok f) s' | .again c' => c'.quiet = true ∧ codeAny (model prog w) A c' R' s') (fun e s' => R' (.error e) s') s := by
  show wpAny _ A.in1 (do let old ← Builtin.List.listItems (.ref L); Builtin.List.listUpdate (.ref L) (fun _ => #[]); letGo old.toList.reverse; Builtin.List.listExtendWith (.ref L) (.ref z) .none) _ _ s
  refine wpAny_bind ?_
  unfold Builtin.List.listItems
  refine wpAny_bind (wpAny_seqItems hL rfl (wpAny_pure ?_))
  show wpAny _ A.in1 (updateSeq L (fun _ => #[]) >>= fun _ => letGo (#[] : Array Value).toList.reverse >>= fun _ => Builtin.List.listExtendWith (.ref L) (.ref z) .none) _ _ s
  refine wpAny_bind (wpAny_updateSeq hL rfl ?_)
  have hL2 := Heap.get?_update_self (Obj.mapSeq (fun _ => (#[] : Array Value))) hL rfl
  have sb2 := Heap.SameBut.update s.heap L (Obj.mapSeq (fun _ => (#[] : Array Value)))
  generalize s.heap.update L (Obj.mapSeq (fun _ => (#[] : Array Value))) = h2 at hL2 sb2 ⊢
  have x2 : New h2 z TI TO rs vs := x.keep fun b o q e => sb2.extBut _ _ (D.off q) e
  refine wpAny_bind (wpAny_letGo ?_)
  have hT2 : ({ s with heap := h2 } : Shared).TypeIs (.ref z) "zip" := ⟨_, x2.zz, rfl⟩
  unfold Builtin.List.listExtendWith
  refine wpAny_bind (wpAny_typeOf hT2 ?_)
  have q1 : Builtin.List.listSameRef (.ref L) (.ref z) = false := by simp [Builtin.List.listSameRef, D.lz]
  have q2 : (Value.type "zip" == Value.type "list") = false := by decide
  have q3 : (Value.type "zip" == Value.type "tuple") = false := by decide
  simp only [q1, q2, q3, Bool.or_false, Bool.false_eq_true, if_false]
  refine wpAny_bind (wpAny_pyIter_zip x2.zz ?_)
  refine wpAny_bind (wpAny_holding ?_)
  unfold Builtin.List.listLengthHint
  refine wpAny_bind (wpAny_specialOf hT2 zip_no_len ?_)
  show wpAny _ A.in1 (specialOf (Value.ref z) (Str.ofString "__length_hint__") >>= _) _ _ _
  refine wpAny_bind (wpAny_specialOf hT2 zip_no_hint ?_)
  refine wpAny_pure ?_
  show wpAny _ A.in1 (rule "list.extend.makes-room" >>= fun _ => Builtin.List.listTouch (.ref L) >>= fun _ =>
    again (.builtin "list.extend.loop" ⟨[.ref L, .ref z, .none], []⟩)) _ _ _
  refine wpAny_bind (wpAny_rule ?_)
  refine wpAny_bind ?_
  show wpAny _ A.in1 (updateSeq L (·.push .none) >>= fun _ => updateSeq L (·.pop)) _ _ _
  refine wpAny_bind (wpAny_updateSeq hL2 rfl ?_)
  have hL3 := Heap.get?_update_self (Obj.mapSeq (·.push Value.none)) hL2 rfl
  have sb3 := Heap.SameBut.update h2 L (Obj.mapSeq (·.push Value.none))
  generalize h2.update L (Obj.mapSeq (·.push Value.none)) = h3 at hL3 sb3 ⊢
  refine wpAny_updateSeq (hz := by seq_fits) hL3 rfl ?_
  have hL4 := Heap.get?_update_self (Obj.mapSeq (·.pop)) hL3 rfl
  have sb4 := Heap.SameBut.update h3 L (Obj.mapSeq (·.pop))
  generalize h3.update L (Obj.mapSeq (·.pop)) = h4 at hL4 sb4 ⊢
  have x4 : New h4 z TI TO rs vs := x2.keep fun b o q e => sb4.extBut _ _ (D.off q) (sb3.extBut _ _ (D.off q) e)
  refine wpAny_pure ⟨plainId_quiet F.plain_extend_loop _, ext_first (N := N) hh S D hne hm hm1 hm100 hlen .none _ x4 (by show N ≤ h4.objs.size; rw [sb4.1, sb3.1, sb2.1]; exact hN) hL4 fun h' ts' e1 e2 e3 => hR h' ts' e1 e2 fun b o nb e => e3 b o nb ?_⟩
  have nb' : b ≠ L := fun q => nb (.inr (.inl q))
  exact sb4.extBut _ _ nb' (sb3.extBut _ _ nb' (sb2.extBut _ _ nb' e))
theorem call_list_zip {Q : Value → Shared → Prop} (hh : A.handled = none) (S : Sep z TI TO rs) (hne : rs ≠ []) (hm : ∀ r ∈ rs, r.2.2.length = m) (hm1 : 1 ≤ m) (hm100 : m ≤ 100) (hlen : rs.length ≤ 100) (x : New s.heap z TI TO rs vs)
    (hQ : ∀ h' ts', ts'.length = m → Done s.heap.objs.size h' s.heap.objs.size rs ts' → Keeps (fun b => b = z ∨ b = TO ∨ ∃ r ∈ rs, b = r.1) s.heap h' → Q (.ref s.heap.objs.size) { s with heap := h' }) :
    wpAny (model prog w) A (call (.type "list") [.ref z]) Q E s := by
  refine callType_codes (Q₁ := fun obj s₁ => obj = .ref s.heap.objs.size ∧ s₁ = { s with heap := s.heap.push { cls := .type "list", data := .seq #[] } }) F.called_list (F.typeCall_list_1 _) F.entry_list_init
    (code_list_new _ ⟨rfl, rfl⟩) fun obj s₁ h₁ => ?_
  obtain ⟨rfl, rfl⟩ := h₁
  have hS : (s.heap.push { cls := .type "list", data := .seq #[] }).get? s.heap.objs.size = some { cls := .type "list", data := .seq #[] } := Heap.get?_push_size _ rfl
  have up : ∀ b o, s.heap.get? b = some o → (s.heap.push { cls := .type "list", data := .seq #[] }).get? b = some o := fun b o e => Heap.get?_push_of_some _ e
  have D : LSep z TI TO s.heap.objs.size rs := ⟨Nat.ne_of_gt (Heap.lt_size x.zz), Nat.ne_of_gt (Heap.lt_size x.ti), Nat.ne_of_gt (Heap.lt_size x.to), fun r hr => ⟨Nat.ne_of_gt (x.at_ r hr).lt.1, Nat.ne_of_gt (x.at_ r hr).lt.2⟩⟩
  refine ⟨⟨_, hS, rfl⟩, F.args_list_init_2 _ _, list_init_zip (A := A.in1) (N := s.heap.objs.size) hh S D hne hm hm1 hm100 hlen (x.keep fun b o _ e => up b o e) (by show s.heap.objs.size ≤ (s.heap.push _).objs.size; rw [Heap.size_push]; exact Nat.le_succ _) hS fun h' ts' e1 e2 e3 => ?_⟩
  refine ⟨rfl, hQ h' ts' e1 e2 fun b o nb e => e3 b o (fun q => ?_) (up b o e)⟩
  rcases q with q | q | q
  · exact nb (.inl q)
  · exact Nat.ne_of_lt (Heap.lt_size e) q
  · exact nb (.inr q)
end
/-! ### zip(..) of any number -/
def SeqAt (h : Heap) (l : Addr) (vs : List Value) : Prop := h.IsList l vs.toArray ∨ h.IsTuple l vs.toArray
def rsOf : Nat → List (Addr × List Value) → List R
  | _, [] => []
  | b, p :: ls => (b, p.1, p.2) :: rsOf (b + 1) ls
theorem rsOf_snoc : ∀ (b : Nat) (ls : List (Addr × List Value)) (p : Addr × List Value), rsOf b (ls ++ [p]) = rsOf b ls ++ [(b + ls.length, p.1, p.2)]
  | b, [], p => rfl
  | b, q :: ls, p => by
    show (b, q.1, q.2) :: rsOf (b + 1) (ls ++ [p]) = (b, q.1, q.2) :: (rsOf (b + 1) ls ++ [(b + (ls.length + 1), p.1, p.2)])
    rw [rsOf_snoc (b + 1) ls p, show b + 1 + ls.length = b + (ls.length + 1) from by omega]
theorem rsOf_mem : ∀ (b : Nat) (ls : List (Addr × List Value)) (r : R), r ∈ rsOf b ls → b ≤ r.1 ∧ r.1 < b + ls.length ∧ (r.2.1, r.2.2) ∈ ls
  | b, [], r, h => by cases h
  | b, p :: ls, r, h => by
    rcases List.mem_cons.mp h with rfl | h
    · exact ⟨Nat.le_refl _, by rw [List.length_cons]; exact Nat.lt_add_of_pos_right (Nat.succ_pos _), List.mem_cons_self⟩
    · obtain ⟨h1, h2, h3⟩ := rsOf_mem (b + 1) ls r h
      exact ⟨Nat.le_of_succ_le h1, by rw [List.length_cons]; exact Nat.lt_of_lt_of_eq h2 (by omega), List.mem_cons_of_mem _ h3⟩
theorem rsOf_len : ∀ (b : Nat) (ls : List (Addr × List Value)), (rsOf b ls).length = ls.length
  | _, [] => rfl
  | b, p :: ls => by rw [rsOf, List.length_cons, List.length_cons, rsOf_len (b + 1) ls]
theorem rsOf_nd : ∀ (b : Nat) (ls : List (Addr × List Value)), ((rsOf b ls).map (·.1)).Nodup
  | _, [] => List.nodup_nil
  | b, p :: ls => by
    rw [rsOf, List.map_cons, List.nodup_cons]
    refine ⟨fun h => ?_, rsOf_nd (b + 1) ls⟩
    obtain ⟨r, hr, e⟩ := List.mem_map.mp h
    have := (rsOf_mem (b + 1) ls r hr).1
    rw [e] at this
    exact Nat.not_succ_le_self _ this
theorem newClass_zip (us : List Value) : Builtin.SmallTypes.newClass "zip" ⟨.type "zip" :: us, []⟩ = pure (.type "zip", us) := by
  unfold Builtin.SmallTypes.newClass
  simp only [isType, sub_zip, pure_bind, Bool.not_true, Bool.false_eq_true, if_false]
theorem typeCall_zip : ∀ us : List Value, us.length ≤ 6 → checkTypeCall "zip" ⟨us, []⟩ = pure ()
  | [], _ => by kernel_rfl
  | [_], _ => by kernel_rfl
  | [_, _], _ => by kernel_rfl
  | [_, _, _], _ => by kernel_rfl
  | [_, _, _, _], _ => by kernel_rfl
  | [_, _, _, _, _], _ => by kernel_rfl
  | [_, _, _, _, _, _], _ => by kernel_rfl
  | _ :: _ :: _ :: _ :: _ :: _ :: _ :: _, h => by simp at h
theorem newCall_zip : ∀ us : List Value, us.length ≤ 6 → checkBuiltinCall "zip.__new__" ⟨.type "zip" :: us, []⟩ = pure ()
  | [], _ => by kernel_rfl
  | [_], _ => by kernel_rfl
  | [_, _], _ => by kernel_rfl
  | [_, _, _], _ => by kernel_rfl
  | [_, _, _, _], _ => by kernel_rfl
  | [_, _, _, _, _], _ => by kernel_rfl
  | [_, _, _, _, _, _], _ => by kernel_rfl
  | _ :: _ :: _ :: _ :: _ :: _ :: _ :: _, h => by simp at h
theorem args_init_zip : ∀ us : List Value, us.length ≤ 6 → ∀ obj, argsOk "object.__init__" ⟨obj :: us, []⟩
  | [], _, o => by unfold argsOk; rw [signature?_of (id := "object.__init__") (n := ['_', '_', 't', 'i', 'n', 'i', '_', '_']) (o := ['t', 'c', 'e', 'j', 'b', 'o']) (by kernel_rfl) F.owner_object]; kernel_rfl
  | [_], _, o => by unfold argsOk; rw [signature?_of (id := "object.__init__") (n := ['_', '_', 't', 'i', 'n', 'i', '_', '_']) (o := ['t', 'c', 'e', 'j', 'b', 'o']) (by kernel_rfl) F.owner_object]; kernel_rfl
  | [_, _], _, o => by unfold argsOk; rw [signature?_of (id := "object.__init__") (n := ['_', '_', 't', 'i', 'n', 'i', '_', '_']) (o := ['t', 'c', 'e', 'j', 'b', 'o']) (by kernel_rfl) F.owner_object]; kernel_rfl
  | [_, _, _], _, o => by unfold argsOk; rw [signature?_of (id := "object.__init__") (n := ['_', '_', 't', 'i', 'n', 'i', '_', '_']) (o := ['t', 'c', 'e', 'j', 'b', 'o']) (by kernel_rfl) F.owner_object]; kernel_rfl
  | [_, _, _, _], _, o => by unfold argsOk; rw [signature?_of (id := "object.__init__") (n := ['_', '_', 't', 'i', 'n', 'i', '_', '_']) (o := ['t', 'c', 'e', 'j', 'b', 'o']) (by kernel_rfl) F.owner_object]; kernel_rfl
  | [_, _, _, _, _], _, o => by unfold argsOk; rw [signature?_of (id := "object.__init__") (n := ['_', '_', 't', 'i', 'n', 'i', '_', '_']) (o := ['t', 'c', 'e', 'j', 'b', 'o']) (by kernel_rfl) F.owner_object]; kernel_rfl
  | [_, _, _, _, _, _], _, o => by unfold argsOk; rw [signature?_of (id := "object.__init__") (n := ['_', '_', 't', 'i', 'n', 'i', '_', '_']) (o := ['t', 'c', 'e', 'j', 'b', 'o']) (by kernel_rfl) F.owner_object]; kernel_rfl
  | _ :: _ :: _ :: _ :: _ :: _ :: _ :: _, h, _ => by simp at h
end ZN

namespace ZN
open PySem
open PySem.Sem (wp)
theorem SeqAt.keep {h h' : Heap} {l : Addr} {vs : List Value} (x : SeqAt h l vs) (k : ∀ o, h.get? l = some o → h'.get? l = some o) : SeqAt h' l vs := by
  rcases x with ⟨o, a, b⟩ | ⟨o, a, b⟩
  · exact .inl ⟨o, k _ a, b⟩
  · exact .inr ⟨o, k _ a, b⟩
theorem SeqAt.lt {h : Heap} {l : Addr} {vs : List Value} (x : SeqAt h l vs) : l < h.objs.size := by
  rcases x with ⟨o, a, b⟩ | ⟨o, a, b⟩ <;> exact Heap.lt_size a
section
variable {prog : Program} {w : World} {A : Around} {E : Value → Shared → Prop} {s : Shared}
theorem iter_seq {l : Addr} {vs : List Value} {Q : Value → Shared → Prop} (x : SeqAt s.heap l vs) (hQ : ∀ h', ItAt h' s.heap.objs.size l 0 vs → h'.objs.size = s.heap.objs.size + 1 → (∀ b o, s.heap.get? b = some o → h'.get? b = some o) → Q (.ref s.heap.objs.size) { s with heap := h' }) :
    wpAny (model prog w) A (pyIter (.ref l)) Q E s := by
  have ne : l ≠ s.heap.objs.size := Nat.ne_of_lt x.lt
  rcases x with a | a
  · exact wpAny_pyIter_list a (hQ _ ⟨ne, .inl ⟨⟨_, Heap.get?_push_size _ rfl, rfl, rfl⟩, a.push _⟩⟩ (Heap.size_push ..) fun b o e => Heap.get?_push_of_some _ e)
  · exact wpAny_pyIter_tuple a (hQ _ ⟨ne, .inr ⟨⟨_, Heap.get?_push_size _ rfl, rfl, rfl⟩, a.push _⟩⟩ (Heap.size_push ..) fun b o e => Heap.get?_push_of_some _ e)
theorem iterAll_seq {ls : List (Addr × List Value)} {Q : List Value → Shared → Prop} (x : ∀ p ∈ ls, SeqAt s.heap p.1 p.2)
    (hQ : ∀ h', AllAt h' (rsOf s.heap.objs.size ls) 0 → h'.objs.size = s.heap.objs.size + ls.length → (∀ b o, s.heap.get? b = some o → h'.get? b = some o) → Q ((rsOf s.heap.objs.size ls).map fun r => .ref r.1) { s with heap := h' }) :
    wpAny (model prog w) A (Builtin.SmallTypes.iterAll (ls.map fun p => Value.ref p.1)) Q E s := by
  unfold Builtin.SmallTypes.iterAll
  refine wpAny_bind ?_
  refine wpAny_forIn_list _ (fun rest its s' => ∃ (l1 l2 : List (Addr × List Value)) (h' : Heap), ls = l1 ++ l2 ∧ rest = l2.map (fun p => Value.ref p.1) ∧ its = ((rsOf s.heap.objs.size l1).map fun r => Value.ref r.1).toArray ∧ s' = { s with heap := h' } ∧ AllAt h' (rsOf s.heap.objs.size l1) 0 ∧ h'.objs.size = s.heap.objs.size + l1.length ∧ ∀ b o, s.heap.get? b = some o → h'.get? b = some o) _ ?turn ?fin _ _ ⟨[], ls, s.heap, rfl, rfl, rfl, rfl, (fun r hr => by cases hr), rfl, fun b o e => e⟩
  case turn =>
    rintro v rest its s' ⟨l1, l2, h', rfl, e2, rfl, rfl, b1, b2, b3⟩
    cases l2 with
    | nil => cases e2
    | cons p l2 =>
      cases e2
      have hp : p ∈ l1 ++ p :: l2 := List.mem_append_right _ List.mem_cons_self
      refine wpAny_bind (wpAny_holding (iter_seq (s := { s with heap := h' }) ((x p hp).keep fun o e => b3 _ _ e) fun h2 c1 c2 c3 => wpAny_pure ?_))
      refine ⟨l1 ++ [p], l2, h2, by simp, rfl, ?_, rfl, fun r hr => ?_, ?_, fun b o e => c3 _ _ (b3 _ _ e)⟩
      · show ((List.map (fun r => Value.ref r.1) (rsOf s.heap.objs.size l1)).toArray.push (Value.ref h'.objs.size)) = _
        rw [rsOf_snoc, List.map_append, b2]
        simp
      · rw [rsOf_snoc] at hr
        rcases List.mem_append.mp hr with hr | hr
        · exact (b1 r hr).keep (fun o e => c3 _ _ e) (fun o e => c3 _ _ e)
        · rw [List.mem_singleton.mp hr, ← b2]
          exact c1
      · rw [c2, List.length_append]
        show h'.objs.size + 1 = _
        rw [b2]
        exact Nat.add_assoc _ _ _
  case fin =>
    rintro its s' ⟨l1, l2, h', e1, e2, rfl, rfl, b1, b2, b3⟩
    have : l2 = [] := by
      cases l2 with
      | nil => rfl
      | cons p l2 => cases e2
    subst this
    rw [List.append_nil] at e1
    subst e1
    exact wpAny_pure (by simpa using hQ h' b1 b2 b3)
end
theorem sep_rsOf {h : Heap} {ls : List (Addr × List Value)} (x : ∀ p ∈ ls, SeqAt h p.1 p.2) : Sep (h.objs.size + ls.length + 2) (h.objs.size + ls.length) (h.objs.size + ls.length + 1) (rsOf h.objs.size ls) := by
  have key : ∀ r ∈ rsOf h.objs.size ls, r.1 < h.objs.size + ls.length ∧ r.2.1 < h.objs.size ∧ h.objs.size ≤ r.1 := fun r hr => by
    obtain ⟨h1, h2, h3⟩ := rsOf_mem _ _ r hr
    exact ⟨h2, (x _ h3).lt, h1⟩
  have ge : h.objs.size ≤ h.objs.size + ls.length := Nat.le_add_right _ _
  generalize h.objs.size + ls.length = M at key ge ⊢
  have a1 : M < M + 1 := Nat.lt_succ_self _
  have a2 : M + 1 < M + 2 := Nat.lt_succ_self _
  refine ⟨rsOf_nd _ _, Nat.ne_of_gt (Nat.lt_trans a1 a2), Nat.ne_of_gt a2, Nat.ne_of_lt a1, fun r hr => ?_, fun r hr => ?_, fun r hr q hq => ?_⟩
  · have k := (key r hr).1
    exact ⟨Nat.ne_of_lt (Nat.lt_trans k (Nat.lt_trans a1 a2)), Nat.ne_of_lt k, Nat.ne_of_lt (Nat.lt_trans k a1)⟩
  · have k := Nat.lt_of_lt_of_le (key r hr).2.1 ge
    exact ⟨Nat.ne_of_lt (Nat.lt_trans k (Nat.lt_trans a1 a2)), Nat.ne_of_lt k, Nat.ne_of_lt (Nat.lt_trans k a1)⟩
  · exact Nat.ne_of_lt (Nat.lt_of_lt_of_le (key r hr).2.1 (key q hq).2.2)
theorem meets_zipN (ls : List (Addr × List Value)) (hlen : ls.length ≤ 100) : Meets (Builtin.«zip.__new__» ⟨.type "zip" :: ls.map fun p => Value.ref p.1, []⟩) (fun _ R s => (∀ p ∈ ls, SeqAt s.heap p.1 p.2) ∧
    ∀ h', New h' (s.heap.objs.size + ls.length + 2) (s.heap.objs.size + ls.length) (s.heap.objs.size + ls.length + 1) (rsOf s.heap.objs.size ls) (List.replicate ls.length Value.none) → h'.objs.size = s.heap.objs.size + ls.length + 3 → (∀ b o, s.heap.get? b = some o → h'.get? b = some o) →
      R (.ok (.ret (.ref (s.heap.objs.size + ls.length + 2)))) { s with heap := h' }) :=
  .of_wp fun prog w A R s h => by
    obtain ⟨hx, h⟩ := h
    unfold Builtin.«zip.__new__»
    refine wpAny_bind (wpAny_of_eq (newClass_zip _) ?_)
    show wpAny _ _ (Builtin.SmallTypes.iterAll (ls.map fun p => Value.ref p.1) >>= fun its => newTuple its >>= fun t1 => newTuple (its.map fun _ => Value.none) >>= fun t2 => Builtin.SmallTypes.newRecord (.type "zip") (Builtin.SmallTypes.ownedTupleFields ++ [.bool false, t1, t2]) >>= fun r => ret r) _ _ _
    refine wpAny_bind (iterAll_seq hx fun h1 b1 b2 b3 => ?_)
    have lr : ((rsOf s.heap.objs.size ls).map fun r => Value.ref r.1).length = ls.length := by rw [List.length_map, rsOf_len]
    refine wpAny_bind (wpAny_newTuple ?_ (by rw [lr, sizeLine_eq]; omega))
    refine wpAny_bind (wpAny_newTuple ?_ (by rw [List.length_map, lr, sizeLine_eq]; omega))
    have er : (((rsOf s.heap.objs.size ls).map fun r => Value.ref r.1).map fun _ => Value.none) = List.replicate ls.length Value.none := by
      rw [List.map_map]
      show (rsOf s.heap.objs.size ls).map (fun _ => Value.none) = _
      rw [List.map_const', rsOf_len]
    rw [er]
    have u1 : ∀ b o, h1.get? b = some o → (h1.push { cls := .type "tuple", data := .seq ((rsOf s.heap.objs.size ls).map fun r => Value.ref r.1).toArray }).get? b = some o := fun b o e => Heap.get?_push_of_some _ e
    have g1 : (h1.push { cls := .type "tuple", data := .seq ((rsOf s.heap.objs.size ls).map fun r => Value.ref r.1).toArray }).get? h1.objs.size = some { cls := .type "tuple", data := .seq ((rsOf s.heap.objs.size ls).map fun r => Value.ref r.1).toArray } := Heap.get?_push_size _ rfl
    have z1 : (h1.push { cls := .type "tuple", data := .seq ((rsOf s.heap.objs.size ls).map fun r => Value.ref r.1).toArray }).objs.size = h1.objs.size + 1 := Heap.size_push ..
    show wpAny _ _ (Builtin.SmallTypes.newRecord (.type "zip") (Builtin.SmallTypes.ownedTupleFields ++ [.bool false, .ref h1.objs.size, .ref (h1.push { cls := .type "tuple", data := .seq ((rsOf s.heap.objs.size ls).map fun r => Value.ref r.1).toArray }).objs.size]) >>= fun r => ret r) _ _ { s with heap := (h1.push { cls := .type "tuple", data := .seq ((rsOf s.heap.objs.size ls).map fun r => Value.ref r.1).toArray }).push { cls := .type "tuple", data := .seq (List.replicate ls.length Value.none).toArray } }
    generalize (h1.push { cls := .type "tuple", data := .seq ((rsOf s.heap.objs.size ls).map fun r => Value.ref r.1).toArray }) = h2 at u1 g1 z1 ⊢
    have u2 : ∀ b o, h2.get? b = some o → (h2.push { cls := .type "tuple", data := .seq (List.replicate ls.length Value.none).toArray }).get? b = some o := fun b o e => Heap.get?_push_of_some _ e
    have g2 : (h2.push { cls := .type "tuple", data := .seq (List.replicate ls.length Value.none).toArray }).get? h2.objs.size = some { cls := .type "tuple", data := .seq (List.replicate ls.length Value.none).toArray } := Heap.get?_push_size _ rfl
    have z2 : (h2.push { cls := .type "tuple", data := .seq (List.replicate ls.length Value.none).toArray }).objs.size = h2.objs.size + 1 := Heap.size_push ..
    generalize (h2.push { cls := .type "tuple", data := .seq (List.replicate ls.length Value.none).toArray }) = h3 at u2 g2 z2 ⊢
    unfold Builtin.SmallTypes.newRecord
    refine wpAny_bind (wpAny_newObj_type (wpAny_pure ⟨_, rfl, ?_⟩) (by show (5 : Nat) ≤ sizeLine + 2; decide))
    have e3 : h3.objs.size = s.heap.objs.size + ls.length + 2 := by rw [z2, z1, b2]
    have e2 : h2.objs.size = s.heap.objs.size + ls.length + 1 := by rw [z1, b2]
    have g := h (h3.push { cls := .type "zip", data := .fields #[Value.none, Value.bool false, Value.bool false, Value.ref h1.objs.size, Value.ref h2.objs.size] }) ⟨?_, ?_, ?_, by rw [List.length_replicate, rsOf_len], fun r hr => ?_⟩ (by rw [Heap.size_push, e3]) (fun b o e => Heap.get?_push_of_some _ (u2 _ _ (u1 _ _ (b3 _ _ e))))
    · rw [← e3] at g
      exact g
    · rw [← e3, ← e2, ← b2]
      exact Heap.get?_push_size _ rfl
    · rw [← b2]
      exact Heap.get?_push_of_some _ (u2 _ _ g1)
    · rw [← e2]
      exact Heap.get?_push_of_some _ g2
    · exact (b1 r hr).keep (fun o e => Heap.get?_push_of_some _ (u2 _ _ (u1 _ _ e))) (fun o e => Heap.get?_push_of_some _ (u2 _ _ (u1 _ _ e)))
section
variable {prog : Program} {w : World} {A : Around} {E : Value → Shared → Prop} {s : Shared}
theorem call_zipN {ls : List (Addr × List Value)} {Q : Value → Shared → Prop} (hlen : ls.length ≤ 6) (x : ∀ p ∈ ls, SeqAt s.heap p.1 p.2)
    (h : ∀ h', New h' (s.heap.objs.size + ls.length + 2) (s.heap.objs.size + ls.length) (s.heap.objs.size + ls.length + 1) (rsOf s.heap.objs.size ls) (List.replicate ls.length Value.none) → h'.objs.size = s.heap.objs.size + ls.length + 3 → (∀ b o, s.heap.get? b = some o → h'.get? b = some o) →
      Q (.ref (s.heap.objs.size + ls.length + 2)) { s with heap := h' }) :
    wpAny (model prog w) A (call (.type "zip") (ls.map fun p => Value.ref p.1)) Q E s := by
  have hl : (ls.map fun p => Value.ref p.1).length ≤ 6 := by rw [List.length_map]; exact hlen
  refine callType_new F.called_zip (by decide) (typeCall_zip _ hl) (newCall_zip _ hl) (args_init_zip _ hl) F.entry_zip_new (meets_zipN ls (by omega)) ⟨x, fun h' a1 a2 a3 => ?_⟩
  show _ ∧ _
  exact ⟨⟨_, a1.zz, rfl⟩, h h' a1 a2 a3⟩
/-- list(zip(..)) of lists or tuples of one length -/
theorem list_zip {ls : List (Addr × List Value)} {m : Nat} {Q : Value → Shared → Prop} (hh : A.handled = none) (hlen : ls.length ≤ 6) (hne : ls ≠ []) (hm : ∀ p ∈ ls, p.2.length = m) (hm1 : 1 ≤ m) (hm100 : m ≤ 100) (x : ∀ p ∈ ls, SeqAt s.heap p.1 p.2)
    (hQ : ∀ h' L (ts : List Addr), ts.length = m → ts.Nodup → (∀ t ∈ ts, s.heap.objs.size ≤ t ∧ t ≠ L) → s.heap.objs.size ≤ L → (∃ cap, h'.get? L = some { cls := .type "list", dict := none, data := .seq (ts.map Value.ref).toArray cap, slots := #[] }) →
      (∀ (j : Nat) (t : Addr), ts[j]? = some t → h'.get? t = some { cls := .type "tuple", data := .seq (ls.map fun p => (p.2[j]?).getD .none).toArray }) → (∀ b o, s.heap.get? b = some o → h'.get? b = some o) → Q (.ref L) { s with heap := h' }) :
    wpAny (model prog w) A (call (.type "zip") (ls.map fun p => Value.ref p.1)) (fun v s1 => wpAny (model prog w) A (call (.type "list") [v]) Q E s1) E s := by
  refine call_zipN hlen x fun h1 n1 z1 k1 => ?_
  have S := sep_rsOf x
  refine call_list_zip (s := { s with heap := h1 }) hh S (fun e => ?_) (fun r hr => hm _ (rsOf_mem _ _ r hr).2.2) hm1 hm100 (by rw [rsOf_len]; omega) n1 fun h' ts e1 e2 e3 => ?_
  · cases ls with
    | nil => exact hne rfl
    | cons p ls => cases e
  · have le : s.heap.objs.size ≤ h1.objs.size := by rw [z1]; exact Nat.le_trans (Nat.le_add_right _ _) (Nat.le_add_right _ _)
    refine hQ h' _ ts e1 e2.nd (fun t ht => ⟨Nat.le_trans le (e2.ge t ht), e2.ne t ht⟩) le e2.l (fun j t hj => ?_) fun b o e => e3 b o (fun q => ?_) (k1 b o e)
    · rw [e2.tt j t hj]
      congr 3
      unfold col
      have : ∀ (b : Nat) (ls : List (Addr × List Value)), (rsOf b ls).map (fun r => (r.2.2[j]?).getD .none) = ls.map fun p => (p.2[j]?).getD .none := by
        intro b ls
        induction ls generalizing b with
        | nil => rfl
        | cons p ls ih => rw [rsOf, List.map_cons, List.map_cons, ih]
      rw [this]
    · have lb := Heap.lt_size e
      rcases q with q | q | ⟨r, hr, q⟩
      · rw [q] at lb
        exact absurd lb (by have : s.heap.objs.size ≤ s.heap.objs.size + ls.length + 2 := Nat.le_trans (Nat.le_add_right _ _) (Nat.le_add_right _ _); exact Nat.not_lt.mpr this)
      · rw [q] at lb
        exact absurd lb (by have : s.heap.objs.size ≤ s.heap.objs.size + ls.length + 1 := Nat.le_trans (Nat.le_add_right _ _) (Nat.le_add_right _ _); exact Nat.not_lt.mpr this)
      · rw [q] at lb
        exact absurd lb (Nat.not_lt.mpr (rsOf_mem _ _ r hr).1)
end
end ZN

namespace ZN
open PySem PySem.Spec PyProof.Rows L2 U
section
variable {X : Cx} {pins : List (Addr × Obj)} {σ : L2.St} {H : Hp} {s : Shared}
/-- several new objects of one heap -/
theorem lay_objs {h' : Heap} (I : Inv X pins σ H s) (k : ∀ b o, s.heap.get? b = some o → h'.get? b = some o) : ∀ (ps : List (Addr × HO)), (ps.map (·.1)).Nodup → (∀ p ∈ ps, s.heap.objs.size ≤ p.1 ∧ ∀ (Hm : Hp) (g : Heap), g.get? p.1 = h'.get? p.1 → ObjOk X.prog X.w Hm g p.1 p.2) →
    ∃ (H' : Hp) (G : Heap), Inv X pins σ H' { s with heap := G } ∧ (∀ b o, s.heap.get? b = some o → G.get? b = some o) ∧ (∀ b o, G.get? b = some o → h'.get? b = some o) ∧ (∀ b, s.heap.objs.size ≤ b → b ∉ ps.map (·.1) → G.get? b = none) ∧ Same H H' ∧ (∀ p ∈ ps, H p.1 = none ∧ H' p.1 = some p.2)
  | [], _, _ => ⟨H, s.heap, I, fun b o e => e, k, fun b hb _ => by
      cases e : s.heap.get? b with
      | none => rfl
      | some o => exact absurd (Heap.lt_size e) (Nat.not_lt.mpr hb), Same.refl H, fun p hp => by cases hp⟩
  | p :: ps, nd, hp => by
    rw [List.map_cons, List.nodup_cons] at nd
    obtain ⟨H1, G, I1, a1, a2, a3, a4, a5⟩ := lay_objs I k ps nd.2 fun q hq => hp q (List.mem_cons_of_mem _ hq)
    obtain ⟨b1, b2⟩ := hp p List.mem_cons_self
    have gp : G.get? p.1 = none := a3 p.1 b1 nd.1
    obtain ⟨G2, c1, c2⟩ := restrict h' fun b => decide ((G.get? b).isSome = true ∨ b = p.1)
    have up : ∀ b o, G.get? b = some o → G2.get? b = some o := fun b o e => by
      rw [c1 b (decide_eq_true (.inl (by rw [e]; rfl)))]
      exact a2 b o e
    have down : ∀ b o, G2.get? b = some o → h'.get? b = some o := fun b o e => by
      by_cases q : (G.get? b).isSome = true ∨ b = p.1
      · rw [← c1 b (decide_eq_true q)]
        exact e
      · rw [c2 b (decide_eq_false q)] at e
        cases e
    have g2 : G2.get? p.1 = h'.get? p.1 := c1 p.1 (decide_eq_true (.inr rfl))
    have hn : H1 p.1 = none := I1.hok.gone gp
    have I2 := I1.laidN (h' := G2) (t' := s.toks) up gp hn (b2 _ _ g2)
    have hn0 : H p.1 = none := by
      cases e : H p.1 with
      | none => rfl
      | some o => rw [a4 _ _ e] at hn; cases hn
    refine ⟨upd H1 p.1 p.2, G2, I2, fun b o e => up _ _ (a1 b o e), down, fun b hb nb => ?_, a4.trans (same_upd hn), fun q hq => ?_⟩
    · rw [List.map_cons, List.mem_cons, not_or] at nb
      refine c2 b (decide_eq_false fun q => ?_)
      rcases q with q | q
      · rw [a3 b hb nb.2] at q
        cases q
      · exact nb.1 q
    · rcases List.mem_cons.mp hq with rfl | hq
      · exact ⟨hn0, upd_same⟩
      · refine ⟨(a5 q hq).1, ?_⟩
        rw [upd_ne (fun e => nd.1 (by rw [← e]; exact List.mem_map_of_mem hq))]
        exact (a5 q hq).2
/-- rows as the heap has them -/
theorem rows_at (I : Inv X pins σ H s) : ∀ (qs : List (Addr × List V)), (∀ q ∈ qs, SqT X.K H q.1 q.2 ∨ SqL X.K H q.1 q.2) →
    ∃ ls : List (Addr × List Value), ls.map (·.1) = qs.map (·.1) ∧ (∀ p ∈ ls, SeqAt s.heap p.1 p.2) ∧ (∀ m, (∀ q ∈ qs, q.2.length = m) → ∀ p ∈ ls, p.2.length = m) ∧ ∀ j : Nat, Vals (qs.map fun q => (q.2[j]?).getD .non) (ls.map fun p => (p.2[j]?).getD .none)
  | [], _ => ⟨[], rfl, (fun p hp => by cases hp), (fun m _ p hp => by cases hp), fun j => .nil⟩
  | q :: qs, h => by
    obtain ⟨ls, e1, e2, e3, e4⟩ := rows_at I qs fun r hr => h r (List.mem_cons_of_mem _ hr)
    have key : ∃ its : List Value, Vals q.2 its ∧ SeqAt s.heap q.1 its := by
      rcases h q List.mem_cons_self with hq | hq
      · obtain ⟨its, r, p, _⟩ := I.tuple hq
        exact ⟨its, r, .inr p⟩
      · obtain ⟨its, r, p, _⟩ := I.list hq
        exact ⟨its, r, .inl p.isList⟩
    obtain ⟨its, r, sq⟩ := key
    refine ⟨(q.1, its) :: ls, by rw [List.map_cons, List.map_cons, e1], fun p hp => ?_, fun m hm p hp => ?_, fun j => ?_⟩
    · rcases List.mem_cons.mp hp with rfl | hp
      · exact sq
      · exact e2 p hp
    · rcases List.mem_cons.mp hp with rfl | hp
      · exact r.length.symm.trans (hm q List.mem_cons_self)
      · exact e3 m (fun r hr => hm r (List.mem_cons_of_mem _ hr)) p hp
    · rw [List.map_cons, List.map_cons]
      refine .cons ?_ (e4 j)
      have l := r.length
      cases hx : q.2[j]? with
      | none =>
        rw [List.getElem?_eq_none_iff] at hx
        rw [List.getElem?_eq_none (show its.length ≤ j from by omega)]
        exact rfl
      | some x =>
        obtain ⟨u, hu, ru⟩ := r.get hx
        show RelV x ((its[j]?).getD .none)
        rw [hu]
        exact ru
end
/-- list(zip(*e)) -/
def tLZ (K : PySem.W.Frag) (te : TE) : TE := fun σ H Q => te σ H fun y H1 => ∃ (a : Addr) (qs : List (Addr × List V)) (m : Nat), y = .ref a ∧ (SqT K H1 a (qs.map fun q => V.ref q.1) ∨ SqL K H1 a (qs.map fun q => V.ref q.1)) ∧ (∀ q ∈ qs, SqT K H1 q.1 q.2 ∨ SqL K H1 q.1 q.2) ∧ (∀ q ∈ qs, q.2.length = m) ∧ 1 ≤ m ∧ m ≤ 100 ∧ 1 ≤ qs.length ∧ qs.length ≤ 6 ∧
  ∀ (H' : Hp) (L : Addr) (ts : List Addr), Same H1 H' → H1 L = none → H' L = some (.lst (ts.map V.ref)) → ts.length = m → (∀ (j : Nat) (t : Addr), ts[j]? = some t → H1 t = none ∧ H' t = some (.tup (qs.map fun q => (q.2[j]?).getD .non))) → Q (.ref L) H'
theorem vals_refs {qs : List (Addr × List V)} : ∀ {us : List Value}, Vals (qs.map fun q => V.ref q.1) us → us = qs.map fun q => Value.ref q.1 := by
  induction qs with
  | nil => intro us r; cases r; rfl
  | cons q qs ih =>
    intro us r
    cases r with
    | cons r1 rr =>
      rw [List.map_cons, ← ih rr]
      cases r1
      rfl
theorem pe_listZip {X : Cx} (K : PySem.W.Frag) {e : Expr} {te : TE} {p1 p2 sp pos1 pos2 : Pos} (he : PE X e te) (hgl : Gl X "list") (hml : X.mg "list" = none) (hgz : Gl X "zip") (hmz : X.mg "zip" = none) (hc : X.calm = true := by rfl) (h : X.K = K := by rfl)
    (hst : starEach [.Starred e sp] X.env = [(true, eval e X.env)] := by rfl) (hs : starEach [.Call (.Name "zip" p2) [.Starred e sp] [] pos2] X.env = [(false, eval (.Call (.Name "zip" p2) [.Starred e sp] [] pos2) X.env)] := by rfl) :
    PE X (.Call (.Name "list" p1) [.Call (.Name "zip" p2) [.Starred e sp] [] pos2] [] pos1) (tLZ K te) := by
  subst h
  constructor
  intro pins s σ H Q I h
  refine Call_ (ld_blt I hgl hml PyProof.Rows.boot_list ?_)
  refine PyProof.Rows.callWith_type1 ?_ hs rfl
  rw [hs]
  show wpAny _ _ (spliced ((false, eval (.Call (.Name "zip" p2) [.Starred e sp] [] pos2) X.env) :: backTo pos1 (starEach [] X.env))) _ _ s
  refine Calls.spliced_cons ?_
  refine Call_ (ld_blt I hgz hmz PyProof.Rows.boot_zip ?_)
  rw [hst]
  refine PySem.W.ks_call (P := fun _ => True) rfl (fun _ _ => ⟨.machine, .inr (.inl rfl), fun A Q E s k q => wpAny_pure q⟩) (PySem.W.ks_lone ?_)
  refine thn (he.run pins s σ H _ I h) fun v s1 hh => ?_
  obtain ⟨y, H1, I1, ry, a, qs, m, rfl, hsq, hq, hm, hm1, hm100, hq1, hq6, k⟩ := hh
  cases ry
  refine StX.star_any I1 hsq fun us s2 I2 rv => ⟨trivial, ?_⟩
  have eu := vals_refs rv
  subst eu
  obtain ⟨ls, e1, e2, e3, e4⟩ := rows_at I2 qs hq
  have ll : ls.length = qs.length := by
    have := congrArg List.length e1
    rwa [List.length_map, List.length_map] at this
  have em : (qs.map fun q => Value.ref q.1) = ls.map fun p => Value.ref p.1 := by
    have := congrArg (List.map Value.ref) e1
    rw [List.map_map, List.map_map] at this
    exact this.symm
  show wpAny _ _ (call (.type "zip") (qs.map fun q => Value.ref q.1)) _ _ _
  rw [em]
  refine wpAny_mono (list_zip (Q := EP X pins σ Q) (E := X.xe) (I2.ok.hd hc) (by omega) (fun z => by rw [z] at ll; simp at ll; omega) (e3 m hm) hm1 hm100 e2 fun h' L ts l1 nd ge geL hL ht kp => ?_) (fun v s3 hv => Calls.spliced_nil hv) fun _ _ z => z
  obtain ⟨cap, hL⟩ := hL
  have hobj : ∀ p ∈ ((L, HO.lst (ts.map V.ref)) :: (ts.zipIdx.map fun tj => (tj.1, HO.tup (qs.map fun q => (q.2[tj.2]?).getD .non)))), s2.heap.objs.size ≤ p.1 ∧ ∀ (Hm : Hp) (g : Heap), g.get? p.1 = h'.get? p.1 → ObjOk X.prog X.w Hm g p.1 p.2 := by
    intro p hp
    rcases List.mem_cons.mp hp with rfl | hp
    · refine ⟨geL, fun Hm g eg => ?_⟩
      have vr : ∀ l : List Addr, Vals (l.map V.ref) (l.map Value.ref) := fun l => by
        induction l with
        | nil => exact .nil
        | cons x l ih => exact .cons rfl ih
      exact ⟨by rw [List.length_map, l1, sizeLine_eq]; omega, ts.map Value.ref, cap, vr ts, eg.trans hL⟩
    · obtain ⟨tj, htj, rfl⟩ := List.mem_map.mp hp
      obtain ⟨t, j⟩ := tj
      have hj : ts[j]? = some t := by
        have := List.mem_zipIdx_iff_getElem?.mp htj
        simpa using this
      refine ⟨(ge t (List.mem_of_getElem? hj)).1, fun Hm g eg => ?_⟩
      exact ⟨by rw [List.length_map, sizeLine_eq]; omega, _, e4 j, ⟨_, eg.trans (ht j t hj), rfl, _, rfl⟩⟩
  have hnd : (((L, HO.lst (ts.map V.ref)) :: (ts.zipIdx.map fun tj => (tj.1, HO.tup (qs.map fun q => (q.2[tj.2]?).getD .non)))).map (·.1)).Nodup := by
    rw [List.map_cons, List.map_map]
    have ez : (ts.zipIdx.map ((fun p : Addr × HO => p.1) ∘ fun tj => (tj.1, HO.tup (qs.map fun q => (q.2[tj.2]?).getD .non)))) = ts := by
      show ts.zipIdx.map (fun tj => tj.1) = ts
      simp
    rw [ez, List.nodup_cons]
    exact ⟨fun q => (ge L q).2 rfl, nd⟩
  obtain ⟨H', G, I3, b1, b2, b3, b4, b5⟩ := lay_objs I2 kp _ hnd hobj
  have I4 : Inv X pins σ H' { s2 with heap := h' } := I3.kept (t' := s2.toks) b2
  obtain ⟨n1, n2⟩ := b5 _ List.mem_cons_self
  refine ⟨.ref L, H', I4, rfl, k H' L ts b4 n1 n2 l1 fun j t hj => ?_⟩
  exact b5 (t, HO.tup (qs.map fun q => (q.2[j]?).getD .non)) (List.mem_cons_of_mem _ (List.mem_map.mpr ⟨(t, j), List.mem_zipIdx_iff_getElem?.mpr (by simpa using hj), rfl⟩))
end ZN

namespace U
open PySem L2 PySem.Spec PyProof.Rows RZ
/-! ### zip of two tuples, walked -/
theorem walk_zipT {K : PySem.W.Frag} {a b : Addr} {xs ys : List V} {n : Nat} (h1 : n = xs.length) (h2 : n = ys.length) : Walk (ItzT K a b) n (fun H => SqT K H a xs ∧ SqT K H b ys) (YPair (fun i => xs[i]?) (fun i => ys[i]?)) := by
  refine ⟨fun i _ hi q => ⟨xs, ys, xs[i]'(by omega), ys[i]'(by omega), q.1, q.2, List.getElem?_eq_getElem _, List.getElem?_eq_getElem _⟩, fun _ q => ⟨xs, ys, q.1, q.2, .inl (by omega)⟩, fun i H v H' _ q y => ?_⟩
  obtain ⟨T, x, z, e1, e2, e3, e4, e5⟩ := y
  exact ⟨T, x, z, e1, e2, e3, e4 xs q.1, e5 ys q.2⟩
theorem zipQ (K : PySem.W.Frag) {X : Cx} {e e2 : Expr} {ta : TA} {p pos tpos : Pos} {elts : List Expr} {kk : Nat} (hg : Gl X "zip") (hm : X.mg "zip" = none) (ha : PA X [e, e2] ta) (h : X.K = K := by rfl)
    (hs : starEach [e, e2] X.env = (false, eval e X.env) :: starEach [e2] X.env := by rfl) (hpl : (backTo pos (starEach [e2] X.env)).any (·.1) = false := by rfl) :
    PI X (.Tuple elts kk tpos) (.Call (.Name "zip" p) [e, e2] [] pos) (iZipA K ta) := by
  subst h
  exact pi_zipA hg hm ha hs hpl
/-- a, b as a target within a comprehension's block -/
theorem pgT (K : PySem.W.Frag) (n : Nat) {X : Cx} {es : List Expr} {k : Nat} {t : TGs} {pos : Pos} (h : PGs X es t) (hc : X.calm = true := by rfl) (hK : X.K = K := by rfl) (hn : (assignEach es X.env).length = n := by rfl) (hst : (assignEach es X.env).findIdx? (·.1) = none := by rfl) :
    PG X (.Tuple es k pos) (gTup K n t) := by
  subst hK
  exact pg_tup hc h hn hst
end U

namespace ZN
open PySem PySem.Spec PyProof.Rows L2 U
/-! ### zip of a tuple and a list, walked -/
def ItzTL (K : PySem.W.Frag) (a b : Addr) : It :=
  ⟨fun i H => ∃ (xs ys : List V), SqT K H a xs ∧ SqL K H b ys ∧ i < xs.length ∧ i < ys.length,
    fun i H v H' => ∃ T x y, v = .ref T ∧ H T = none ∧ H' = upd H T (.tup [x, y]) ∧ (∀ xs, SqT K H a xs → xs[i]? = some x) ∧ ∀ ys, SqL K H b ys → ys[i]? = some y,
    fun i H => ∃ (xs ys : List V), SqT K H a xs ∧ SqL K H b ys ∧ xs.length = i ∧ ys.length = i⟩
theorem sep_vals {z TI TO i1 i2 a b : Addr} {u1 u2 v1 v2 : List Value} (S : Sep z TI TO [(i1, a, u1), (i2, b, u2)]) : Sep z TI TO [(i1, a, v1), (i2, b, v2)] := by
  have h1 := S.it (i1, a, u1) List.mem_cons_self
  have h2 := S.it (i2, b, u2) (List.mem_cons_of_mem _ List.mem_cons_self)
  have l1 := S.l (i1, a, u1) List.mem_cons_self
  have l2 := S.l (i2, b, u2) (List.mem_cons_of_mem _ List.mem_cons_self)
  have x11 := S.x (i1, a, u1) List.mem_cons_self (i1, a, u1) List.mem_cons_self
  have x12 := S.x (i1, a, u1) List.mem_cons_self (i2, b, u2) (List.mem_cons_of_mem _ List.mem_cons_self)
  have x21 := S.x (i2, b, u2) (List.mem_cons_of_mem _ List.mem_cons_self) (i1, a, u1) List.mem_cons_self
  have x22 := S.x (i2, b, u2) (List.mem_cons_of_mem _ List.mem_cons_self) (i2, b, u2) (List.mem_cons_of_mem _ List.mem_cons_self)
  refine ⟨S.nd, S.zTI, S.zTO, S.TITO, fun r hr => ?_, fun r hr => ?_, fun r hr q hq => ?_⟩
  · rcases List.mem_cons.mp hr with rfl | hr
    · exact h1
    · rw [List.mem_singleton.mp hr]; exact h2
  · rcases List.mem_cons.mp hr with rfl | hr
    · exact l1
    · rw [List.mem_singleton.mp hr]; exact l2
  · rcases List.mem_cons.mp hr with rfl | hr <;> rcases List.mem_cons.mp hq with rfl | hq
    · exact x11
    · rw [List.mem_singleton.mp hq]; exact x12
    · rw [List.mem_singleton.mp hr]; exact x21
    · rw [List.mem_singleton.mp hr, List.mem_singleton.mp hq]; exact x22
/-- the cells of such a zip -/
structure Zst (h : Heap) (z TI TO i1 i2 a b : Addr) (i : Nat) : Prop where
  zz : IsZip h z TI TO .none
  ti : h.get? TI = some { cls := .type "tuple", data := .seq #[.ref i1, .ref i2] }
  to : ∃ x y, h.get? TO = some { cls := .type "tuple", data := .seq #[x, y] }
  i1 : h.IsTupleIter i1 a i
  i2 : h.IsListIter i2 b i
theorem turn_zipTL {P : Program} {w : World} {K : PySem.W.Frag} {elts : List Expr} {kk : Nat} {tpos : Pos} {a b z TI TO i1 i2 : Addr} (S0 : Sep z TI TO [(i1, a, []), (i2, b, [])]) :
    Turn P w K (.Tuple elts kk tpos) (ItzTL K a b) [z, TI, TO, i1, i2] z (fun i h => Zst h z TI TO i1 i2 a b i) where
  mem := by simp
  obj := fun i h st c hc => by
    obtain ⟨hz, hTI, ⟨x, y, hTO⟩, ⟨o1, e1, _, d1⟩, ⟨o2, e2, _, d2⟩⟩ := st
    have e' : c = z ∨ c = TI ∨ c = TO ∨ c = i1 ∨ c = i2 := by simpa using hc
    rcases e' with q | q | q | q | q
    · rw [q]; exact ⟨_, hz, fun v q => nomatch q⟩
    · rw [q]; exact ⟨_, hTI, fun v q => nomatch q⟩
    · rw [q]; exact ⟨_, hTO, fun v q => nomatch q⟩
    · rw [q]; exact ⟨o1, e1, fun v q => by rw [d1] at q; cases q⟩
    · rw [q]; exact ⟨o2, e2, fun v q => by rw [d2] at q; cases q⟩
  keep := fun i h h' st k => by
    obtain ⟨hz, hTI, ⟨x, y, hTO⟩, h1, h2⟩ := st
    exact ⟨k z (by simp) _ hz, k TI (by simp) _ hTI, ⟨x, y, k TO (by simp) _ hTO⟩, h1.at fun o q => k i1 (by simp) o q, h2.at fun o q => k i2 (by simp) o q⟩
  item := by
    intro X hP hw hK hc i pins s σ H E I hf st hg
    subst hP hw hK
    obtain ⟨hz, hTI, ⟨x0, y0, hTO⟩, h1, h2⟩ := st
    obtain ⟨xs, ys, hqx, hqy, hx, hy⟩ := hg
    obtain ⟨its, rv, p, _⟩ := I.tuple hqx
    obtain ⟨its2, rv2, p2, _⟩ := I.list hqy
    have S : Sep z TI TO [(i1, a, its), (i2, b, its2)] := sep_vals S0
    have n1 : a ≠ i1 := S0.x (i1, a, []) List.mem_cons_self (i1, a, []) List.mem_cons_self
    have n2 : b ≠ i2 := S0.x (i2, b, []) (List.mem_cons_of_mem _ List.mem_cons_self) (i2, b, []) (List.mem_cons_of_mem _ List.mem_cons_self)
    obtain ⟨u, hu, ru⟩ := rv.get (List.getElem?_eq_getElem hx)
    obtain ⟨u2, hu2, ru2⟩ := rv2.get (List.getElem?_eq_getElem hy)
    have l1 := rv.length
    have l2 := rv2.length
    have hzl : z < s.heap.objs.size := Heap.lt_size hz
    have at0 : AllAt s.heap [(i1, a, its), (i2, b, its2)] i := fun r hr => by
      rcases List.mem_cons.mp hr with rfl | hr
      · exact ⟨n1, .inr ⟨h1, p⟩⟩
      · rw [List.mem_singleton.mp hr]
        exact ⟨n2, .inl ⟨h2, p2.isList⟩⟩
    refine pyNext_first (vs := [x0, y0]) S (by simp) hz hTI hTO rfl at0 (fun r hr => ?_) (by show 2 ≤ 100; decide) fun h' z' a' to' hT hsz hk => ?_
    · rcases List.mem_cons.mp hr with rfl | hr
      · show i < its.length
        omega
      · rw [List.mem_singleton.mp hr]
        show i < its2.length
        omega
    have ecol : col i [(i1, a, its), (i2, b, its2)] = [u, u2] := by
      show [(its[i]?).getD .none, (its2[i]?).getD .none] = _
      rw [hu, hu2]
      rfl
    rw [ecol] at hT to'
    refine ⟨_, rfl, wpAny_letOwnedTupleGo_zip (s := { s with heap := h' }) z' fun h'' z'' sb => ?_⟩
    have hT2 : h''.get? s.heap.objs.size = some { cls := .type "tuple", data := .seq #[u, u2] } := (sb.2 _ (Nat.ne_of_gt hzl)).trans hT
    have new : ObjOk X.prog X.w (upd H s.heap.objs.size (.tup [xs[i], ys[i]])) h'' s.heap.objs.size (.tup [xs[i], ys[i]]) :=
      ⟨by show 2 ≤ sizeLine; decide, [u, u2], .cons ru (.cons ru2 .nil), ⟨_, hT2, rfl, _, rfl⟩⟩
    have off : ∀ c o, c ∉ [z, TI, TO, i1, i2] → s.heap.get? c = some o → h''.get? c = some o := fun c o hb q => by
      have hb' : ¬ (c = z ∨ c = TI ∨ c = TO ∨ c = i1 ∨ c = i2) := fun q' => hb (by simpa using q')
      refine (sb.2 c (fun q' => hb' (.inl q'))).trans (hk c o (fun q' => ?_) q)
      rcases q' with q' | q' | ⟨r, hr, q'⟩
      · exact hb' (.inl q')
      · exact hb' (.inr (.inr (.inl q')))
      · rcases List.mem_cons.mp hr with rfl | hr
        · exact hb' (.inr (.inr (.inr (.inl q'))))
        · rw [List.mem_singleton.mp hr] at q'
          exact hb' (.inr (.inr (.inr (.inr q'))))
    have I1 : Inv X pins σ (upd H s.heap.objs.size (.tup [xs[i], ys[i]])) { s with heap := h'' } :=
      I.turnedNew (t' := s.toks) (ch := [z, TI, TO, i1, i2]) off hf (Nat.le_refl _) new
    have zTI := S0.zTI
    have zTO := S0.zTO
    have i1z := (S0.it (i1, a, []) List.mem_cons_self).1
    have i2z := (S0.it (i2, b, []) (List.mem_cons_of_mem _ List.mem_cons_self)).1
    have tiK : h'.get? TI = some { cls := .type "tuple", data := .seq #[.ref i1, .ref i2] } := hk _ _ (fun q' => by
      rcases q' with q' | q' | ⟨r, hr, q'⟩
      · exact zTI q'.symm
      · exact S0.TITO q'
      · rcases List.mem_cons.mp hr with rfl | hr
        · exact (S0.it (i1, a, []) List.mem_cons_self).2.1 q'.symm
        · rw [List.mem_singleton.mp hr] at q'
          exact (S0.it (i2, b, []) (List.mem_cons_of_mem _ List.mem_cons_self)).2.1 q'.symm) hTI
    have g1 := a' (i1, a, its) List.mem_cons_self
    have g2 := a' (i2, b, its2) (List.mem_cons_of_mem _ List.mem_cons_self)
    have t1 : h'.IsTupleIter i1 a (i + 1) := by
      rcases g1.2 with ⟨_, q⟩ | ⟨q, _⟩
      · obtain ⟨o, ho, hc1, _⟩ := q
        exfalso
        have pa : h'.IsTuple a its.toArray ∨ True := .inr trivial
        obtain ⟨oa, hoa, hca, _⟩ := p
        have : h'.get? a = some oa := hk _ _ (fun q' => by
          rcases q' with q' | q' | ⟨r, hr, q'⟩
          · exact (S0.l (i1, a, []) List.mem_cons_self).1 q'
          · exact (S0.l (i1, a, []) List.mem_cons_self).2.2 q'
          · rcases List.mem_cons.mp hr with rfl | hr
            · exact n1 q'
            · rw [List.mem_singleton.mp hr] at q'
              exact S0.x (i1, a, []) List.mem_cons_self (i2, b, []) (List.mem_cons_of_mem _ List.mem_cons_self) q') hoa
        rw [this] at ho
        cases ho
        rw [hca] at hc1
        simp at hc1
      · exact q
    have t2 : h'.IsListIter i2 b (i + 1) := by
      rcases g2.2 with ⟨q, _⟩ | ⟨_, q⟩
      · exact q
      · obtain ⟨o, ho, hc1, _⟩ := q
        exfalso
        obtain ⟨oa, hoa, hca, _⟩ := p2.isList
        have : h'.get? b = some oa := hk _ _ (fun q' => by
          rcases q' with q' | q' | ⟨r, hr, q'⟩
          · exact (S0.l (i2, b, []) (List.mem_cons_of_mem _ List.mem_cons_self)).1 q'
          · exact (S0.l (i2, b, []) (List.mem_cons_of_mem _ List.mem_cons_self)).2.2 q'
          · rcases List.mem_cons.mp hr with rfl | hr
            · exact S0.x (i2, b, []) (List.mem_cons_of_mem _ List.mem_cons_self) (i1, a, []) List.mem_cons_self q'
            · rw [List.mem_singleton.mp hr] at q'
              exact n2 q') hoa
        rw [this] at ho
        cases ho
        rw [hca] at hc1
        simp at hc1
    refine ⟨.ref s.heap.objs.size, _, I1, rfl, ⟨_, xs[i], ys[i], rfl, I.hok.fresh (Nat.le_refl _), rfl, fun l hl => by rw [I.tuple_inj hl hqx]; exact List.getElem?_eq_getElem hx, fun l hl => by rw [I.list_inj hl hqy]; exact List.getElem?_eq_getElem hy⟩, ⟨z'', ?_, ⟨u, u2, ?_⟩, ?_, ?_⟩, fun c hcm => ?_⟩
    · exact (sb.2 _ zTI.symm).trans tiK
    · exact (sb.2 _ zTO.symm).trans to'
    · exact t1.at fun o q => (sb.2 _ i1z).trans q
    · exact t2.at fun o q => (sb.2 _ i2z).trans q
    · have hlt : c < s.heap.objs.size := by
        have e' : c = z ∨ c = TI ∨ c = TO ∨ c = i1 ∨ c = i2 := by simpa using hcm
        rcases e' with q | q | q | q | q
        · rw [q]; exact hzl
        · rw [q]; exact Heap.lt_size hTI
        · rw [q]; exact Heap.lt_size hTO
        · rw [q]; obtain ⟨_, e1, _⟩ := h1; exact Heap.lt_size e1
        · rw [q]; obtain ⟨_, e2, _⟩ := h2; exact Heap.lt_size e2
      rw [upd_ne (Nat.ne_of_lt hlt)]
      exact (hf c hcm).1
  done := by
    intro X hP hw hK hc i pins s σ H E I hf st hg
    subst hP hw hK
    obtain ⟨hz, hTI, ⟨x0, y0, hTO⟩, h1, h2⟩ := st
    obtain ⟨xs, ys, hqx, hqy, ex, ey⟩ := hg
    obtain ⟨its, rv, p, _⟩ := I.tuple hqx
    obtain ⟨its2, rv2, p2, _⟩ := I.list hqy
    have l1 := rv.length
    have l2 := rv2.length
    have S : Sep z TI TO [(i1, a, its), (i2, b, its2)] := sep_vals S0
    have n1 : a ≠ i1 := S0.x (i1, a, []) List.mem_cons_self (i1, a, []) List.mem_cons_self
    have n2 : b ≠ i2 := S0.x (i2, b, []) (List.mem_cons_of_mem _ List.mem_cons_self) (i2, b, []) (List.mem_cons_of_mem _ List.mem_cons_self)
    have at0 : AllAt s.heap [(i1, a, its), (i2, b, its2)] i := fun r hr => by
      rcases List.mem_cons.mp hr with rfl | hr
      · exact ⟨n1, .inr ⟨h1, p⟩⟩
      · rw [List.mem_singleton.mp hr]
        exact ⟨n2, .inl ⟨h2, p2.isList⟩⟩
    refine pyNext_end (I.ok.hd hc) S (by simp) hz hTI at0 (fun r hr => ?_) fun h' hk => ⟨rfl, I.turnedL (t' := s.toks) (ch := [z, TI, TO, i1, i2]) (fun c o hb q => hk c o (fun q' => ?_) q) hf⟩
    · rcases List.mem_cons.mp hr with rfl | hr
      · show its.length = i
        omega
      · rw [List.mem_singleton.mp hr]
        show its2.length = i
        omega
    · rcases q' with q' | ⟨r, hr, q'⟩
      · exact hb (by simp [q'])
      · rcases List.mem_cons.mp hr with rfl | hr
        · exact hb (by simp [q'])
        · rw [List.mem_singleton.mp hr] at q'
          exact hb (by simp [q'])
  self := fun A i s Q E st h => wpAny_pyIter_zip st.zz h
def iZipTL (K : PySem.W.Frag) (ta : TA) : TI := fun σ H R => ta σ H fun vs H1 => ∃ a b xs ys, vs = [.ref a, .ref b] ∧ SqT K H1 a xs ∧ SqL K H1 b ys ∧ R (ItzTL K a b) H1
theorem zipTL (K : PySem.W.Frag) {X : Cx} {e e2 : Expr} {ta : TA} {p pos tpos : Pos} {elts : List Expr} {kk : Nat} (hg : Gl X "zip") (hm : X.mg "zip" = none) (ha : PA X [e, e2] ta) (h : X.K = K := by rfl)
    (hs : starEach [e, e2] X.env = (false, eval e X.env) :: starEach [e2] X.env := by rfl) (hpl : (backTo pos (starEach [e2] X.env)).any (·.1) = false := by rfl) :
    PI X (.Tuple elts kk tpos) (.Call (.Name "zip" p) [e, e2] [] pos) (iZipTL K ta) := by
  subst h
  refine ⟨fun pins s σ H R I h => ?_⟩
  refine Call_ (ld_blt I hg hm PyProof.Rows.boot_zip (PyProof.Rows.callWith_type1 (thn (ha.run pos pins s σ H _ I h) fun us s1 ⟨vs, H1, I1, r1, q1⟩ => ?_) hs hpl))
  obtain ⟨a, b, xs, ys, ex, hqx, hqy, q⟩ := q1
  subst ex
  cases r1 with
  | cons r rr =>
    cases rr with
    | cons r' rr =>
      cases rr
      cases r
      cases r'
      obtain ⟨its, rv, p1, _⟩ := I1.tuple hqx
      obtain ⟨its2, rv2, p2, _⟩ := I1.list hqy
      have sq : ∀ p ∈ [(a, its), (b, its2)], SeqAt s1.heap p.1 p.2 := fun p hp => by
        rcases List.mem_cons.mp hp with rfl | hp
        · exact .inr p1
        · rw [List.mem_singleton.mp hp]; exact .inl p2.isList
      have S := sep_rsOf sq
      refine call_zipN (ls := [(a, its), (b, its2)]) (by show 2 ≤ 6; decide) sq fun h' n hsz hk => wpAny_pyIter_zip n.zz ?_
      have I2 : Inv X pins σ H1 { s1 with heap := h' } := I1.kept (t' := s1.toks) hk
      refine ⟨_, [s1.heap.objs.size + 2 + 2, s1.heap.objs.size + 2, s1.heap.objs.size + 2 + 1, s1.heap.objs.size, s1.heap.objs.size + 1], _, _, H1, rfl, I2, turn_zipTL (sep_vals S), ⟨n.zz, n.ti, ⟨.none, .none, n.to⟩, ?_, ?_⟩, fun c hcm => ?_, q⟩
      · have g := n.at_ (s1.heap.objs.size, a, its) List.mem_cons_self
        rcases g.2 with ⟨_, o, ho, hc1, _⟩ | ⟨q, _⟩
        · exfalso
          obtain ⟨oa, hoa, hca, _⟩ := p1
          rw [hk _ _ hoa] at ho
          cases ho
          rw [hca] at hc1
          simp at hc1
        · exact q
      · have g := n.at_ (s1.heap.objs.size + 1, b, its2) (List.mem_cons_of_mem _ List.mem_cons_self)
        rcases g.2 with ⟨q, _⟩ | ⟨_, o, ho, hc1, _⟩
        · exact q
        · exfalso
          obtain ⟨oa, hoa, hca, _⟩ := p2.isList
          rw [hk _ _ hoa] at ho
          cases ho
          rw [hca] at hc1
          simp at hc1
      · have hle : s1.heap.objs.size ≤ c := by
          have e' : c = s1.heap.objs.size + 2 + 2 ∨ c = s1.heap.objs.size + 2 ∨ c = s1.heap.objs.size + 2 + 1 ∨ c = s1.heap.objs.size ∨ c = s1.heap.objs.size + 1 := by simpa using hcm
          rcases e' with z | z | z | z | z
          · rw [z]; exact Nat.le_trans (Nat.le_add_right _ _) (Nat.le_add_right _ _)
          · rw [z]; exact Nat.le_add_right _ _
          · rw [z]; exact Nat.le_trans (Nat.le_add_right _ _) (Nat.le_add_right _ _)
          · rw [z]; exact Nat.le_refl _
          · rw [z]; exact Nat.le_add_right _ _
        exact I1.fpOk hle (I1.hok.fresh hle)
theorem walk_zipTL {K : PySem.W.Frag} {a b : Addr} {xs ys : List V} {n : Nat} (h1 : n = xs.length) (h2 : n = ys.length) : Walk (ItzTL K a b) n (fun H => SqT K H a xs ∧ SqL K H b ys) (YPair (fun i => xs[i]?) (fun i => ys[i]?)) := by
  refine ⟨fun i _ hi q => ⟨xs, ys, q.1, q.2, by omega, by omega⟩, fun _ q => ⟨xs, ys, q.1, q.2, h1.symm, h2.symm⟩, fun i H v H' _ q y => ?_⟩
  obtain ⟨T, x, z, e1, e2, e3, e4, e5⟩ := y
  exact ⟨T, x, z, e1, e2, e3, e4 xs q.1, e5 ys q.2⟩
end ZN

namespace U
open PySem L2 PySem.Spec PyProof.Rows
/-! ### math.lcm -/
theorem log_lt6 {n : Nat} (h : n < 2 ^ 6000) : n.log2 ≤ 5999 := by
  by_cases z : n = 0
  · rw [z]; decide
  · have := (Nat.log2_lt z).mpr h
    omega
def rLcm : List V → Hp → VK → Prop := fun vs H Q => ∃ a b : Int, vs = [.int a, .int b] ∧ a.natAbs < 2 ^ 6000 ∧ b.natAbs < 2 ^ 6000 ∧ Q (.int ((Nat.lcm a.natAbs b.natAbs : Nat) : Int)) H
theorem cr_lcm {X : Cx} : CallR X (.builtin "math.lcm") rLcm := by
  intro pins s σ H vs us Q I r h
  obtain ⟨a, b, rfl, ha, hb, q⟩ := h
  obtain ⟨t, u, rfl⟩ := Vals.int2 r
  have one : (1 : Nat) < 2 ^ 6000 := Nat.one_lt_two_pow (by decide)
  have h1 : (max 1 a.natAbs).log2 ≤ 5999 := log_lt6 (Nat.max_lt.mpr ⟨one, ha⟩)
  have h2 : (max a.natAbs b.natAbs).log2 ≤ 5999 := log_lt6 (Nat.max_lt.mpr ⟨ha, hb⟩)
  have e : (Nat.lcm 1 a.natAbs).lcm b.natAbs = Nat.lcm a.natAbs b.natAbs := by rw [PySem.W.mc_lcm_one]
  have hl : (Nat.lcm a.natAbs b.natAbs).log2 < bitsLine := PySem.W.mc_size (k := 188) (Nat.le_trans (PySem.W.mc_lcm_le _ _) (Nat.le_trans (Nat.mul_le_mul (Nat.le_of_lt ha) (Nat.le_of_lt hb)) (by rw [← Nat.pow_add]; exact Nat.pow_le_pow_right (by decide) (by decide)))) (by decide)
  refine call_function_meets PySem.W.MGF.kind_lcm PySem.W.MGF.plain_lcm PySem.W.MGF.entry_lcm (PySem.W.MGF.args_lcm _ _) (PySem.W.mg_run_lcm a t b u (by omega) (by omega) (by rw [e]; exact hl)).meets ?_
  rw [e]
  exact ⟨.int _, H, I.tok _, ⟨_, rfl⟩, q⟩
end U

namespace M
open PySem L2 U ZN
/-- lists of ints -/
inductive RL (H : Hp) : List V → List (List Int) → Prop
  | nil : RL H [] []
  | cons {a : Addr} {r : List Int} {vs : List V} {M : List (List Int)} (h : H a = some (.lst (r.map V.int))) (t : RL H vs M) : RL H (.ref a :: vs) (r :: M)
theorem RL.same {H H' : Hp} (s : Same H H') : ∀ {vs : List V} {M : List (List Int)}, RL H vs M → RL H' vs M
  | _, _, .nil => .nil
  | _, _, .cons h t => .cons (s _ _ h) (RL.same s t)
theorem RL.length {H : Hp} : ∀ {vs : List V} {M : List (List Int)}, RL H vs M → vs.length = M.length
  | _, _, .nil => rfl
  | _, _, .cons _ t => by rw [List.length_cons, List.length_cons, RL.length t]
theorem RL.get {H : Hp} : ∀ {vs : List V} {M : List (List Int)} {i : Nat} {v : V}, RL H vs M → vs[i]? = some v → ∃ a r, v = .ref a ∧ M[i]? = some r ∧ H a = some (.lst (r.map V.int))
  | _, _, _, _, .nil, e => by simp at e
  | _, _, 0, _, .cons (a := a) (r := r) h _, e => by
    rw [List.getElem?_cons_zero] at e
    cases e
    exact ⟨a, r, rfl, rfl, h⟩
  | _, _, i + 1, _, .cons _ t, e => by
    rw [List.getElem?_cons_succ] at e
    rw [List.getElem?_cons_succ]
    exact RL.get t e
theorem RL.snoc {H : Hp} {a : Addr} {r : List Int} (h : H a = some (.lst (r.map V.int))) : ∀ {vs : List V} {M : List (List Int)}, RL H vs M → RL H (vs ++ [.ref a]) (M ++ [r])
  | _, _, .nil => .cons h .nil
  | _, _, .cons h' t => .cons h' (RL.snoc h t)
theorem RL.off {H : Hp} {D : Addr} {o : HO} : ∀ {us : List V} {M : List (List Int)}, (∀ v ∈ us, v ≠ .ref D) → RL H us M → RL (upd H D o) us M
  | _, _, _, .nil => .nil
  | _, _, n, .cons h t => .cons (by rw [upd_ne (fun q => n _ List.mem_cons_self (by rw [q]))]; exact h) (RL.off (fun v hv => n v (List.mem_cons_of_mem _ hv)) t)
def idRow (n i : Nat) : List Int := (List.range n).map fun j => if j = i then 1 else 0
def idM (n : Nat) : List (List Int) := (List.range n).map (idRow n)
def dot (r c : List Int) : Int := ((r.zip c).map fun p => p.1 * p.2).sum
def gcdF (l : List Int) : Nat := l.foldl (fun c x => Nat.gcd c x.natAbs) 0
def wd (r : List Int) : List Int := r.map fun x => x / (gcdF r : Int)
theorem gcdF_snoc (l : List Int) (x : Int) : gcdF (l ++ [x]) = Nat.gcd (gcdF l) x.natAbs := by
  unfold gcdF
  rw [List.foldl_append]
  rfl
theorem gcdF_dvd : ∀ (l : List Int) (x : Int), x ∈ l → (gcdF l : Int) ∣ x := by
  have key : ∀ (l : List Int) (c : Nat), (l.foldl (fun c x => Nat.gcd c x.natAbs) c) ∣ c ∧ ∀ x ∈ l, (l.foldl (fun c x => Nat.gcd c x.natAbs) c) ∣ x.natAbs := by
    intro l
    induction l with
    | nil => intro c; exact ⟨Nat.dvd_refl _, fun x h => by cases h⟩
    | cons y l ih =>
      intro c
      obtain ⟨h1, h2⟩ := ih (Nat.gcd c y.natAbs)
      refine ⟨Nat.dvd_trans h1 (Nat.gcd_dvd_left _ _), fun x hx => ?_⟩
      rcases List.mem_cons.mp hx with rfl | hx
      · exact Nat.dvd_trans h1 (Nat.gcd_dvd_right _ _)
      · exact h2 x hx
  intro l x hx
  exact Int.natAbs_dvd_natAbs.mp ((key l 0).2 x hx)
/-- a row of not too great ints, not all 0 -/
structure RowW (r : List Int) : Prop where
  n : r.length ≤ 6
  b : ∀ x ∈ r, 0 ≤ x ∧ x ≤ 1000000000
  p : ∃ x ∈ r, 0 < x
theorem RowW.gcd {r : List Int} (h : RowW r) : 0 < gcdF r ∧ gcdF r ≤ 1000000000 := by
  obtain ⟨x, hx, h0⟩ := h.p
  have d := gcdF_dvd r x hx
  have b := (h.b x hx).2
  have h1 : gcdF r ∣ x.natAbs := Int.natAbs_dvd_natAbs.mpr d
  have h2 : 0 < x.natAbs := by omega
  exact ⟨Nat.pos_of_dvd_of_pos h1 h2, by have := Nat.le_of_dvd h2 h1; omega⟩
theorem log_small {z : Int} (h0 : 0 ≤ z) (h : z < 2 ^ 64) : z.natAbs.log2 < 9000 := by
  by_cases q : z.natAbs = 0
  · rw [q]; decide
  · have : z.natAbs < 2 ^ 64 := by omega
    have := (Nat.log2_lt q).mpr this
    omega
/-- a word -/
def dWord (q : List Nat) : PyData := .tuple (q.map fun (i : Nat) => PyData.int (i : Int))
def lcmF (l : List Int) : Nat := l.foldl (fun c x => Nat.lcm c x.natAbs) 1
theorem lcmF_snoc (l : List Int) (x : Int) : lcmF (l ++ [x]) = Nat.lcm (lcmF l) x.natAbs := by
  unfold lcmF
  rw [List.foldl_append]
  rfl
theorem lcmF_key : ∀ (l : List Int) (c : Nat), c ∣ (l.foldl (fun c x => Nat.lcm c x.natAbs) c) ∧ ∀ x ∈ l, x.natAbs ∣ (l.foldl (fun c x => Nat.lcm c x.natAbs) c) := by
  intro l
  induction l with
  | nil => intro c; exact ⟨Nat.dvd_refl _, fun x h => by cases h⟩
  | cons y l ih =>
    intro c
    obtain ⟨h1, h2⟩ := ih (Nat.lcm c y.natAbs)
    refine ⟨Nat.dvd_trans (Nat.dvd_lcm_left _ _) h1, fun x hx => ?_⟩
    rcases List.mem_cons.mp hx with rfl | hx
    · exact Nat.dvd_trans (Nat.dvd_lcm_right _ _) h1
    · exact h2 x hx
theorem lcmF_dvd {l : List Int} {x : Int} (hx : x ∈ l) (h0 : 0 ≤ x) : x ∣ (lcmF l : Int) := by
  have := (lcmF_key l 1).2 x hx
  exact Int.natAbs_dvd_natAbs.mp (by rw [Int.natAbs_natCast]; exact this)
theorem lcmF_le {B : Nat} : ∀ (l : List Int) (c : Nat), 0 < c → (∀ x ∈ l, 0 < x ∧ x ≤ B) → 0 < l.foldl (fun c x => Nat.lcm c x.natAbs) c ∧ l.foldl (fun c x => Nat.lcm c x.natAbs) c ≤ c * B ^ l.length
  | [], c, h0, _ => ⟨h0, by rw [List.length_nil, Nat.pow_zero, Nat.mul_one]; exact Nat.le_refl _⟩
  | y :: l, c, h0, h => by
    have hy := h y List.mem_cons_self
    have p : 0 < Nat.lcm c y.natAbs := Nat.lcm_pos h0 (by omega)
    obtain ⟨h1, h2⟩ := lcmF_le (B := B) l (Nat.lcm c y.natAbs) p fun x hx => h x (List.mem_cons_of_mem _ hx)
    refine ⟨h1, Nat.le_trans h2 ?_⟩
    have e : Nat.lcm c y.natAbs ≤ c * B := Nat.le_trans (PySem.W.mc_lcm_le _ _) (Nat.mul_le_mul_left _ (by omega))
    rw [List.length_cons, Nat.pow_succ, Nat.mul_comm (B ^ l.length) B, ← Nat.mul_assoc]
    exact Nat.mul_le_mul_right _ e
def evM (M : List (List Int)) : List (List Int) := (M.map wd).map fun p => p.map fun x => x * ((lcmF ((M.map wd).map List.sum) : Int) / p.sum)
theorem sum_le_len {B : Int} : ∀ (l : List Int), (∀ x ∈ l, 0 ≤ x ∧ x ≤ B) → 0 ≤ l.sum ∧ l.sum ≤ l.length * B
  | [], _ => ⟨Int.le_refl 0, by simp⟩
  | y :: l, h => by
    obtain ⟨h1, h2⟩ := sum_le_len l fun x hx => h x (List.mem_cons_of_mem _ hx)
    have hy := h y List.mem_cons_self
    rw [List.sum_cons, List.length_cons]
    refine ⟨by omega, ?_⟩
    have : ((l.length + 1 : Nat) : Int) * B = l.length * B + B := by rw [Int.natCast_add, Int.add_mul]; simp
    rw [this]
    omega
theorem wd_row {r : List Int} (h : RowW r) : (∀ x ∈ wd r, 0 ≤ x ∧ x ≤ 1000000000) ∧ 0 < (wd r).sum ∧ (wd r).sum ≤ 6000000000 := by
  have hg := h.gcd
  have b : ∀ x ∈ wd r, 0 ≤ x ∧ x ≤ 1000000000 := fun x hx => by
    unfold wd at hx
    obtain ⟨z, hz, rfl⟩ := List.mem_map.mp hx
    have hz := h.b z hz
    refine ⟨Int.ediv_nonneg hz.1 (by omega), Int.le_trans (Int.ediv_le_self _ hz.1) hz.2⟩
  have l6 : (wd r).length ≤ 6 := by unfold wd; rw [List.length_map]; exact h.n
  obtain ⟨s1, s2⟩ := sum_le_len (B := 1000000000) (wd r) b
  refine ⟨b, ?_, ?_⟩
  · obtain ⟨x, hx, h0⟩ := h.p
    have d := gcdF_dvd r x hx
    have : 0 < x / (gcdF r : Int) := Int.ediv_pos_of_pos_of_dvd h0 (by omega) d
    refine sum_pos (x := x / (gcdF r : Int)) (fun y hy => (b y hy).1) ?_ this
    unfold wd
    exact List.mem_map_of_mem hx
  · have : ((wd r).length : Int) * 1000000000 ≤ 6 * 1000000000 := by omega
    omega
def RlS (H : Hp) (D : Addr) (M : List (List Int)) (i : Nat) (H1 : Hp) : Prop := ∃ us : List V, H1 D = some (.lst us) ∧ RL H1 us (M.take i) ∧ (∀ v ∈ us, v ≠ .ref D) ∧ Same H H1
theorem rls0 {H : Hp} {D : Addr} {M : List (List Int)} (hD : H D = none) : RlS H D M 0 (upd H D (.lst [])) := ⟨[], upd_same, .nil, (fun v hv => by cases hv), same_upd hD⟩
theorem rls1 {H H1 H2 : Hp} {D L : Addr} {M : List (List Int)} {i : Nat} {r : List Int} (hD : H D = none) (h : RlS H D M i H1) (s2 : Same H1 H2) (n2 : L ≠ D) (h2 : H2 L = some (.lst (r.map V.int))) (hM : M.length ≤ 1000) (hr : M[i]? = some r) :
    ∃ acc : List V, H2 D = some (.lst acc) ∧ acc.length < sizeLine ∧ RlS H D M (i + 1) (upd H2 D (.lst (acc ++ [.ref L]))) := by
  obtain ⟨us, hD1, rl, no, s1⟩ := h
  have no' : ∀ v ∈ us ++ [V.ref L], v ≠ .ref D := fun v hv => by
    rcases List.mem_append.mp hv with hv | hv
    · exact no v hv
    · rw [List.mem_singleton.mp hv]
      exact fun q => n2 (by injection q)
  have vl : us.length ≤ 1000 := by
    have := rl.length
    rw [List.length_take] at this
    omega
  refine ⟨us, s2 _ _ hD1, small1000 vl, us ++ [.ref L], upd_same, ?_, no', fun b o e => ?_⟩
  · rw [List.take_succ, hr]
    exact RL.off no' (RL.snoc h2 (rl.same s2))
  · rw [upd_ne (ne_of_none e hD)]
    exact s2 _ _ (s1 _ _ e)
theorem rlsE {H H1 : Hp} {D : Addr} {M : List (List Int)} {n : Nat} (h : RlS H D M n H1) (hn : M.length = n) : ∃ us : List V, Same H H1 ∧ H1 D = some (.lst us) ∧ RL H1 us M := by
  obtain ⟨us, hD1, rl, no, s1⟩ := h
  rw [← hn, List.take_length] at rl
  exact ⟨us, s1, hD1, rl⟩
theorem ne_fresh {H : Hp} {D L : Addr} {o : HO} (h : H D = some o) (n : H L = none) : L ≠ D := fun q => by rw [q, h] at n; cases n
theorem pos_of_sum : ∀ (l : List Int), (∀ x ∈ l, 0 ≤ x) → 0 < l.sum → ∃ x ∈ l, 0 < x
  | [], _, h => by simp at h
  | y :: l, h, hs => by
    by_cases q : 0 < y
    · exact ⟨y, List.mem_cons_self, q⟩
    · rw [List.sum_cons] at hs
      have := h y List.mem_cons_self
      obtain ⟨x, hx, h0⟩ := pos_of_sum l (fun x hx => h x (List.mem_cons_of_mem _ hx)) (by omega)
      exact ⟨x, List.mem_cons_of_mem _ hx, h0⟩
theorem rowOk_w {n : Nat} {r : List Int} (h : RowOk n r) (hn : n ≤ 6) : RowW r := ⟨by have := h.1; omega, h.2.1, pos_of_sum r (fun x hx => (h.2.1 x hx).1) h.2.2⟩
theorem dot_cons (x c : Int) (r cs : List Int) : dot (x :: r) (c :: cs) = x * c + dot r cs := by
  unfold dot
  rw [List.zip_cons_cons, List.map_cons, List.sum_cons]
theorem dot_id : ∀ (r : List Int) (s j : Nat), dot r ((List.range' s r.length).map fun k => if k = j then (1 : Int) else 0) = if s ≤ j then (r[j - s]?).getD 0 else 0
  | [], s, j => by
    show (0 : Int) = _
    split <;> rfl
  | x :: r, s, j => by
    rw [List.length_cons, List.range'_succ, List.map_cons, dot_cons, dot_id r (s + 1) j]
    by_cases q : s = j
    · subst q
      rw [if_pos rfl, if_neg (by omega), if_pos (Nat.le_refl _), Nat.sub_self, List.getElem?_cons_zero, Int.mul_one, Int.add_zero]
      rfl
    · rw [if_neg q, Int.mul_zero, Int.zero_add]
      by_cases h : s ≤ j
      · rw [if_pos h, if_pos (by omega)]
        have : j - s = (j - (s + 1)) + 1 := by omega
        rw [this, List.getElem?_cons_succ]
      · rw [if_neg h, if_neg (by omega)]
theorem dot_idRow {n j : Nat} {r : List Int} {x : Int} (hn : r.length = n) (h : r[j]? = some x) : dot r (idRow n j) = x := by
  unfold idRow
  rw [List.range_eq_range', ← hn, dot_id, if_pos (Nat.zero_le _), Nat.sub_zero, h]
  rfl
theorem idRow_col {n j : Nat} (hj : j < n) : ((idM n).map fun r => ((r.map V.int)[j]?).getD .non) = (idRow n j).map V.int := by
  unfold idM
  rw [List.map_map]
  conv => rhs; unfold idRow
  rw [List.map_map]
  refine List.map_congr_left fun k _ => ?_
  show (((idRow n k).map V.int)[j]?).getD .non = V.int (if k = j then 1 else 0)
  unfold idRow
  rw [List.getElem?_map, List.getElem?_map, List.getElem?_range hj]
  show V.int (if j = k then 1 else 0) = _
  by_cases q : j = k
  · rw [if_pos q, if_pos q.symm]
  · rw [if_neg q, if_neg fun z => q z.symm]
theorem RL.qs {H : Hp} : ∀ {us : List V} {M : List (List Int)}, RL H us M → ∃ qs : List (Addr × List V), us = qs.map (fun q => V.ref q.1) ∧ qs.map (·.2) = M.map (·.map V.int) ∧ ∀ q ∈ qs, H q.1 = some (.lst q.2)
  | _, _, .nil => ⟨[], rfl, rfl, fun q h => by cases h⟩
  | _, _, .cons (a := a) (r := r) h t => by
    obtain ⟨qs, e1, e2, e3⟩ := RL.qs t
    refine ⟨(a, r.map V.int) :: qs, by rw [e1]; rfl, by rw [List.map_cons, List.map_cons, e2], fun q hq => ?_⟩
    rcases List.mem_cons.mp hq with rfl | hq
    · exact h
    · exact e3 q hq
end M

namespace M
open PySem L2 U ZN
abbrev Fr := Int × Int
def dFr (f : Fr) : PyData := .tuple [.int f.1, .int f.2]
def low (t b : Int) : Fr := (t / (Nat.gcd t.natAbs b.natAbs : Nat), b / (Nat.gcd t.natAbs b.natAbs : Nat))
structure FrOk (f : Fr) : Prop where
  p : 0 < f.2
  g : Nat.gcd f.1.natAbs f.2.natAbs = 1
theorem low_ok {t b : Int} (h : 0 < b) : FrOk (low t b) ∧ (low t b).1 * b = t * (low t b).2 ∧ (low t b).2 ∣ b := by
  have gp : 0 < Nat.gcd t.natAbs b.natAbs := Nat.gcd_pos_of_pos_right _ (by omega)
  have d1 : ((Nat.gcd t.natAbs b.natAbs : Nat) : Int) ∣ t := Int.natAbs_dvd_natAbs.mp (by rw [Int.natAbs_natCast]; exact Nat.gcd_dvd_left _ _)
  have d2 : ((Nat.gcd t.natAbs b.natAbs : Nat) : Int) ∣ b := Int.natAbs_dvd_natAbs.mp (by rw [Int.natAbs_natCast]; exact Nat.gcd_dvd_right _ _)
  have n1 : (t / (Nat.gcd t.natAbs b.natAbs : Nat)).natAbs = t.natAbs / Nat.gcd t.natAbs b.natAbs := by rw [Int.natAbs_ediv_of_dvd d1, Int.natAbs_natCast]
  have n2 : (b / (Nat.gcd t.natAbs b.natAbs : Nat)).natAbs = b.natAbs / Nat.gcd t.natAbs b.natAbs := by rw [Int.natAbs_ediv_of_dvd d2, Int.natAbs_natCast]
  unfold low
  refine ⟨⟨Int.ediv_pos_of_pos_of_dvd h (by omega) d2, ?_⟩, ?_, ?_⟩
  · show Nat.gcd (t / _).natAbs (b / _).natAbs = 1
    rw [n1, n2]
    exact Nat.gcd_div_gcd_div_gcd_of_pos_right (by omega)
  · show t / _ * b = t * (b / _)
    have gp' : (0 : Int) < ((Nat.gcd t.natAbs b.natAbs : Nat) : Int) := by omega
    obtain ⟨c, hc⟩ := d1
    obtain ⟨e, he⟩ := d2
    generalize ((Nat.gcd t.natAbs b.natAbs : Nat) : Int) = g at *
    have g0 : g ≠ 0 := by omega
    have q1 : t / g = c := by rw [hc]; exact Int.mul_ediv_cancel_left _ g0
    have q2 : b / g = e := by rw [he]; exact Int.mul_ediv_cancel_left _ g0
    rw [q1, q2, he, hc]
    rw [Int.mul_left_comm, Int.mul_assoc]
  · exact Int.ediv_dvd_of_dvd d2
/-- equal fractions in lowest terms are the same -/
theorem fr_eq {f e : Fr} (hf : FrOk f) (he : FrOk e) (h : f.1 * e.2 = e.1 * f.2) : f = e := by
  have c1 : Nat.Coprime f.2.natAbs f.1.natAbs := by rw [Nat.coprime_comm]; exact hf.g
  have c2 : Nat.Coprime e.2.natAbs e.1.natAbs := by rw [Nat.coprime_comm]; exact he.g
  have h' : f.1.natAbs * e.2.natAbs = e.1.natAbs * f.2.natAbs := by rw [← Int.natAbs_mul, ← Int.natAbs_mul, h]
  have d1 : f.2.natAbs ∣ e.2.natAbs := c1.dvd_of_dvd_mul_left (by rw [h']; exact Nat.dvd_mul_left _ _)
  have d2 : e.2.natAbs ∣ f.2.natAbs := c2.dvd_of_dvd_mul_left (by rw [← h']; exact Nat.dvd_mul_left _ _)
  have e2 : f.2.natAbs = e.2.natAbs := Nat.dvd_antisymm d1 d2
  have p1 := hf.p
  have p2 := he.p
  have e3 : f.2 = e.2 := by omega
  rw [e3] at h
  have e1 : f.1 = e.1 := Int.eq_of_mul_eq_mul_right (by omega) h
  exact Prod.ext e1 e3
theorem low_eq {t b t' b' : Int} (h : 0 < b) (h' : 0 < b') (e : t * b' = t' * b) : low t b = low t' b' := by
  obtain ⟨o1, r1, _⟩ := low_ok (t := t) h
  obtain ⟨o2, r2, _⟩ := low_ok (t := t') h'
  refine fr_eq o1 o2 ?_
  refine Int.eq_of_mul_eq_mul_right (a := b * b') (Int.ne_of_gt (Int.mul_pos h h')) ?_
  generalize low t b = f at *
  generalize low t' b' = g at *
  calc f.1 * g.2 * (b * b') = (f.1 * b) * (g.2 * b') := by ac_rfl
    _ = (t * f.2) * (g.2 * b') := by rw [r1]
    _ = (t * b') * (f.2 * g.2) := by ac_rfl
    _ = (t' * b) * (f.2 * g.2) := by rw [e]
    _ = (t' * g.2) * (f.2 * b) := by ac_rfl
    _ = (g.1 * b') * (f.2 * b) := by rw [r2]
    _ = g.1 * f.2 * (b * b') := by ac_rfl
theorem low_self {f : Fr} (h : FrOk f) : low f.1 f.2 = f := by
  obtain ⟨o1, r1, _⟩ := low_ok (t := f.1) h.p
  exact fr_eq o1 h r1
/-! means -/
structure PartsOk (B : Int) (ps : List Fr) : Prop where
  p : 0 < B
  b : B < 2 ^ 4000
  f : ∀ f ∈ ps, FrOk f ∧ f.2 ∣ B ∧ f.1.natAbs ≤ 2 ^ 200 * f.2.natAbs
def tops (B : Int) (ps : List Fr) : List Int := ps.map fun f => f.1 * (B / f.2)
def meanF (B : Int) (ps : List Fr) (r : List Int) : Fr := low (dot r (tops B ps)) (B * r.sum)
theorem lg {x : Int} {k : Nat} (h : x.natAbs < 2 ^ k) (hk : 0 < k) : x.natAbs.log2 < k := by
  by_cases q : x.natAbs = 0
  · rw [q]
    have e : Nat.log2 0 = 0 := by decide
    omega
  · exact (Nat.log2_lt q).mpr h
theorem top_bound {B : Int} {f : Fr} (hB : 0 < B) (hf : FrOk f) (hd : f.2 ∣ B) (h : f.1.natAbs ≤ 2 ^ 200 * f.2.natAbs) : (f.1 * (B / f.2)).natAbs ≤ 2 ^ 200 * B.natAbs := by
  obtain ⟨c, rfl⟩ := hd
  have h2 := hf.p
  rw [Int.mul_ediv_cancel_left _ (Int.ne_of_gt h2), Int.natAbs_mul, Int.natAbs_mul, ← Nat.mul_assoc]
  exact Nat.mul_le_mul_right _ h
theorem dot_nil (c : List Int) : dot [] c = 0 := rfl
theorem dot_bound {M : Nat} : ∀ (r c : List Int), (∀ x ∈ r, 0 ≤ x ∧ x ≤ 1000000000) → (∀ y ∈ c, y.natAbs ≤ M) → (dot r c).natAbs ≤ r.length * (1000000000 * M)
  | [], c, _, _ => by rw [dot_nil]; exact Nat.zero_le _
  | x :: r, [], _, _ => by
    have : dot (x :: r) [] = 0 := rfl
    rw [this]; exact Nat.zero_le _
  | x :: r, y :: c, h, g => by
    rw [dot_cons, List.length_cons]
    have ih := dot_bound r c (fun z hz => h z (List.mem_cons_of_mem _ hz)) (fun z hz => g z (List.mem_cons_of_mem _ hz))
    have hx := h x List.mem_cons_self
    have hy := g y List.mem_cons_self
    have e : (x * y).natAbs ≤ 1000000000 * M := by
      rw [Int.natAbs_mul]
      exact Nat.mul_le_mul (by omega) hy
    have := Int.natAbs_add_le (x * y) (dot r c)
    rw [Nat.add_mul, Nat.one_mul]
    omega
theorem dot_snoc : ∀ (r c : List Int) (x y : Int), r.length = c.length → dot (r ++ [x]) (c ++ [y]) = dot r c + x * y
  | [], [], x, y, _ => by
    show dot [x] [y] = dot [] [] + x * y
    rw [dot_cons, dot_nil, Int.add_zero, Int.zero_add]
  | [], _ :: _, _, _, h => by simp at h
  | _ :: _, [], _, _, h => by simp at h
  | a :: r, b :: c, x, y, h => by
    show dot (a :: (r ++ [x])) (b :: (c ++ [y])) = _
    rw [dot_cons, dot_cons, dot_snoc r c x y (by simpa using h), Int.add_assoc]
theorem dot_take {r c : List Int} {k : Nat} {x y : Int} (h1 : r[k]? = some x) (h2 : c[k]? = some y) : dot (r.take (k + 1)) (c.take (k + 1)) = dot (r.take k) (c.take k) + x * y := by
  have l1 := (List.getElem?_eq_some_iff.mp h1).1
  have l2 := (List.getElem?_eq_some_iff.mp h2).1
  rw [List.take_succ, List.take_succ, h1, h2]
  exact dot_snoc _ _ _ _ (by rw [List.length_take, List.length_take]; omega)
theorem mix_step {f g : Fr} {B S bot top x : Int} (hf : FrOk f) (hg : 0 < g.2) (hb : 0 < bot) (hd : bot ∣ B) (h : f.1 * B = f.2 * S) (hg1 : g.1 * (f.2 * bot) = (f.1 * bot + top * x * f.2) * g.2) : g.1 * B = g.2 * (S + x * (top * (B / bot))) := by
  obtain ⟨c, rfl⟩ := hd
  rw [Int.mul_ediv_cancel_left _ (Int.ne_of_gt hb)]
  have hp := hf.p
  refine Int.eq_of_mul_eq_mul_right (a := f.2 * bot) (Int.ne_of_gt (Int.mul_pos hp hb)) ?_
  grind
theorem im_fr {H : Hp} {v : V} {f : Fr} (h : Im H v (dFr f)) : ∃ a, v = .ref a ∧ Tu H a [.int f.1, .int f.2] := by
  obtain ⟨a, xs, rfl, ha, hall⟩ := h.tuple
  cases hall with
  | cons i1 t1 =>
    cases t1 with
    | cons i2 t2 =>
      cases t2
      cases i1
      cases i2
      exact ⟨a, rfl, ha⟩
theorem fr_bound {f : Fr} {B S : Int} (hf : FrOk f) (hB : 0 < B) (h : f.1 * B = f.2 * S) : f.2 ∣ B ∧ f.2 ≤ B ∧ f.1.natAbs ≤ S.natAbs := by
  have c1 : Nat.Coprime f.2.natAbs f.1.natAbs := by rw [Nat.coprime_comm]; exact hf.g
  have h' : f.1.natAbs * B.natAbs = f.2.natAbs * S.natAbs := by rw [← Int.natAbs_mul, ← Int.natAbs_mul, h]
  have d1 : f.2.natAbs ∣ B.natAbs := c1.dvd_of_dvd_mul_left (by rw [h']; exact Nat.dvd_mul_right _ _)
  have hp := hf.p
  have hle := Nat.le_of_dvd (by omega) d1
  refine ⟨Int.natAbs_dvd_natAbs.mp d1, by omega, ?_⟩
  refine Nat.le_of_mul_le_mul_right (c := B.natAbs) ?_ (by omega)
  rw [h', Nat.mul_comm]
  exact Nat.mul_le_mul_left _ hle
theorem S_bound {B : Int} {n k : Nat} {ps : List Fr} {r : List Int} (po : PartsOk B ps) (ro : RowOk n r) (n6 : n ≤ 6) : (dot (r.take k) ((tops B ps).take k)).natAbs < 2 ^ 4300 := by
  have h := dot_bound (M := 2 ^ 200 * B.natAbs) (r.take k) ((tops B ps).take k) (fun x hx => ro.2.1 x (List.mem_of_mem_take hx)) fun y hy => by
    have hy := List.mem_of_mem_take hy
    unfold tops at hy
    obtain ⟨f, hf, rfl⟩ := List.mem_map.mp hy
    obtain ⟨h1, h2, h3⟩ := po.f f hf
    exact top_bound po.p h1 h2 h3
  have l6 : (r.take k).length ≤ 6 := by rw [List.length_take]; have := ro.1; omega
  have hb : B.natAbs < 2 ^ 4000 := by
    have := po.b
    have := po.p
    have e : ((2 : Int) ^ 4000) = ((2 ^ 4000 : Nat) : Int) := by rw [Int.natCast_pow]; rfl
    omega
  have h2 := Nat.mul_le_mul_right (1000000000 * (2 ^ 200 * B.natAbs)) l6
  generalize (r.take k).length * (1000000000 * (2 ^ 200 * B.natAbs)) = z at *
  have e : (6 : Nat) * (1000000000 * (2 ^ 200 * B.natAbs)) ≤ 6 * (1000000000 * (2 ^ 200 * 2 ^ 4000)) := Nat.mul_le_mul_left _ (Nat.mul_le_mul_left _ (Nat.mul_le_mul_left _ (Nat.le_of_lt hb)))
  have e2 : (6 : Nat) * (1000000000 * (2 ^ 200 * 2 ^ 4000)) < 2 ^ 4300 := by decide +kernel
  exact Nat.lt_of_le_of_lt (Nat.le_trans h (Nat.le_trans h2 e)) e2
theorem mulW {i j : Int} {a b : Nat} (h1 : i.natAbs < 2 ^ a) (h2 : j.natAbs < 2 ^ b) (ha : 0 < a) (hb : 0 < b) (h : a + b ≤ 1000000) : CMulW i j := by
  have := lg h1 ha
  have := lg h2 hb
  show i.natAbs.log2 + j.natAbs.log2 < 1000000
  omega
theorem mulB {i j : Int} {a b : Nat} (h1 : i.natAbs < 2 ^ a) (h2 : j.natAbs < 2 ^ b) : (i * j).natAbs < 2 ^ (a + b) := by
  rw [Int.natAbs_mul, Nat.pow_add]
  exact Nat.mul_lt_mul'' h1 h2
theorem natB {B : Int} {k : Nat} (h0 : 0 < B) (h : B < 2 ^ k) : B.natAbs < 2 ^ k := by
  have e : ((2 : Int) ^ k) = ((2 ^ k : Nat) : Int) := by rw [Int.natCast_pow]; rfl
  omega
theorem upB {i : Int} {a b : Nat} (h : i.natAbs < 2 ^ a) (hab : a ≤ b) : i.natAbs < 2 ^ b := Nat.lt_of_lt_of_le h (Nat.pow_le_pow_right (by decide) hab)
theorem at0' {α : Type} {xs : List α} {i : Nat} {v : α} (h : xs[i]? = some v) : atI xs (0 + (i : Int)) = some v := by rw [Int.zero_add]; exact atI_nat h
abbrev sCut : Stmt := top 52
abbrev nCut : List Str := ["_law_top", "_law_bottom", "_law_one", "_law_other"]
abbrev pCut : List Str := ["_law_top", "_law_bottom"]
theorem scCut : FnScope nCut pCut (defScope sCut) := ⟨rfl, rfl, rfl, by decide +kernel, rfl, by decide +kernel, by decide +kernel⟩
def spLow : Sp := fun vs H Q _ => ∃ (t b : Int), vs = [.int t, .int b] ∧ 0 < b ∧ b.natAbs.log2 < 9000 ∧ ∀ (H' : Hp) (p : Addr), Same H H' → H p = none → Im H' (.ref p) (dFr (low t b)) → Q (.ref p) H'
section
variable {P : Program} {w : World} {K : PySem.W.Frag} {mg : Str → Option Value} {base : Heap}
theorem ok_cut {f : Addr} {fd : FuncData} (F : Fun K "_law_cut" "_law_cut" sCut f fd) (T : Bt mg) : FnOk P w K mg base CX0 1 f fd pCut spLow := by
  refine F.ok scCut (fun vs H Q E h => ?_) (fun cdv A outer s H vs Q E hr h => ?_)
  · obtain ⟨t, b, rfl, _⟩ := h
    rfl
  · obtain ⟨t, b, rfl, hb, hl, k⟩ := h
    refine ⟨_, (pss_cons (ps_par (i := 2) (j := 3) (by rfl) scCut.nd rfl rfl (by decide) rfl rfl (pa_cons (pe_callB call_abs (by rfl) T.abs (by decide +kernel) (pa_cons (pv 0) pa_nil)) (pa_cons (pv 1) pa_nil)) (by rfl))
      (pss_cons (ps_while PassesOwn.never (pt_cmpR op_ne (pv 3) pe_int (nomark _))
        (pss_one (ps_par (i := 2) (j := 3) (by rfl) scCut.nd rfl rfl (by decide) rfl rfl (pa_cons (pv 3) (pa_cons (pe_op op_mod (pe_callTy call_int1 (by rfl) T.int (by decide +kernel) (pa_cons (pv 2) pa_nil)) (pv 3)) pa_nil)) (by rfl))))
      (pss_one (ps_ret (pe_tup (pa_cons (pe_op op_fdivW (pv 0) (pv 2)) (pa_cons (pe_op op_fdivW (pv 1) (pv 2)) pa_nil))))))), ?_⟩
    have e0 : (if t < 0 then -t else t) = ((t.natAbs : Nat) : Int) := by split <;> omega
    have eb : b = ((b.natAbs : Nat) : Int) := by omega
    refine ⟨_, rfl, _, rfl, _, rfl, _, _, rfl, ?_⟩
    rw [e0]
    refine while_by (fun σ G => ∃ o u : Nat, σ = [some (.int t), some (.int b), some (.int (o : Nat)), some (.int (u : Nat))] ∧ (0 < o ∨ 0 < u) ∧ Nat.gcd o u = Nat.gcd t.natAbs b.natAbs ∧ G = H)
      (fun σ _ => match σ[3]? with | some (some (V.int z)) => z.toNat | _ => 0) ⟨t.natAbs, b.natAbs, by rw [← eb]; rfl, by omega, rfl, rfl⟩ ?_ (fun σ H Q Q' hq h => ?_)
    · rintro σ G ⟨o, u, rfl, ho, hg, rfl⟩
      refine ⟨_, rfl, rfl, _, rfl, ite2 (fun hz => ?_) (fun hz => ?_)⟩
      · have hu : 0 < u := by
          rcases Nat.eq_zero_or_pos u with z | z
          · rw [z] at hz; exact absurd hz (by decide)
          · exact z
        refine ⟨_, rfl, _, rfl, .inl ⟨_, rfl, _, rfl, _, _, rfl, rfl, by omega, _, _, rfl, ⟨u, o % u, ?_, .inl hu, ?_, rfl⟩, ?_⟩⟩
        · rw [Int.natCast_emod]; rfl
        · rw [← hg, Nat.gcd_comm o u, Nat.gcd_rec u o, Nat.gcd_comm]
        · show ((o : Int) % (u : Int)).toNat < (u : Int).toNat
          have := Nat.mod_lt o hu
          rw [← Int.natCast_emod]
          omega
      · have hu : u = 0 := by
          rcases Nat.eq_zero_or_pos u with z | z
          · exact z
          · refine absurd ?_ hz
            have : ¬ V.int (u : Int) = V.int 0 := fun e => by injection e with e; omega
            rw [decide_eq_false this]; rfl
        subst hu
        rw [Nat.gcd_zero_right] at hg
        subst hg
        have hd : Nat.gcd t.natAbs b.natAbs ∣ b.natAbs := Nat.gcd_dvd_right _ _
        have hle := Nat.le_of_dvd (by omega) hd
        have hlog : ((Nat.gcd t.natAbs b.natAbs : Nat) : Int).natAbs.log2 < 9000 := by
          rw [Int.natAbs_natCast]
          refine Nat.lt_of_le_of_lt ?_ hl
          exact (Nat.le_log2 (by omega)).mpr (Nat.le_trans (Nat.log2_self_le (by omega)) hle)
        refine ⟨_, rfl, _, rfl, _, _, rfl, rfl, ⟨by omega, hlog⟩, _, rfl, _, rfl, _, _, rfl, rfl, ⟨by omega, hlog⟩, by show 2 ≤ sizeLine; decide, fun p np => ?_⟩
        exact k _ p (same_upd np) np (.tup Tu.up (.cons (.int _) (.cons (.int _) .nil)))
    · obtain ⟨y, e, sc, kk, e3, q⟩ := h
      exact ⟨y, e, sc, kk, e3, hq _ _ q⟩
end
end M

namespace M
open PySem L2 U ZN
abbrev sFra : Stmt := top 9
abbrev nFra : List Str := ["value", "top", "bottom"]
abbrev pFra : List Str := ["value"]
theorem scFra : FnScope nFra pFra (defScope sFra) := ⟨rfl, rfl, rfl, by decide +kernel, rfl, by decide +kernel, by decide +kernel⟩
abbrev sCkF : Stmt := top 34
abbrev nCkF : List Str := ["values", "at", "value"]
abbrev pCkF : List Str := ["values"]
theorem scCkF : FnScope nCkF pCkF (defScope sCkF) := ⟨rfl, rfl, rfl, by decide +kernel, rfl, by decide +kernel, by decide +kernel⟩
abbrev sCkT : Stmt := top 35
abbrev nCkT : List Str := ["council", "thoughts"]
abbrev pCkT : List Str := ["council", "thoughts"]
theorem scCkT : FnScope nCkT pCkT (defScope sCkT) := ⟨rfl, rfl, rfl, by decide +kernel, rfl, by decide +kernel, by decide +kernel⟩
abbrev sCkC : Stmt := top 27
abbrev nCkC : List Str := ["council"]
abbrev pCkC : List Str := ["council"]
theorem scCkC : FnScope nCkC pCkC (defScope sCkC) := ⟨rfl, rfl, rfl, by decide +kernel, rfl, by decide +kernel, by decide +kernel⟩
abbrev sLws : Stmt := top 36
abbrev nLws : List Str := ["top", "bottom", "common"]
abbrev pLws : List Str := ["top", "bottom"]
theorem scLws : FnScope nLws pLws (defScope sLws) := ⟨rfl, rfl, rfl, by decide +kernel, rfl, by decide +kernel, by decide +kernel⟩
abbrev sOob : Stmt := top 37
abbrev nOob : List Str := ["fractions", "common", "_", "bottom", "top"]
abbrev pOob : List Str := ["fractions"]
theorem scOob : FnScope nOob pOob (defScope sOob) := ⟨rfl, rfl, rfl, by decide +kernel, rfl, by decide +kernel, by decide +kernel⟩
abbrev sWgh : Stmt := top 38
abbrev nWgh : List Str := ["weights", "values", "weight", "value"]
abbrev pWgh : List Str := ["weights", "values"]
theorem scWgh : FnScope nWgh pWgh (defScope sWgh) := ⟨rfl, rfl, rfl, by decide +kernel, rfl, by decide +kernel, by decide +kernel⟩
abbrev sMno : Stmt := top 39
abbrev nMno : List Str := ["thoughts", "rows", "tops", "bottom", "row"]
abbrev pMno : List Str := ["thoughts", "rows"]
theorem scMno : FnScope nMno pMno (defScope sMno) := ⟨rfl, rfl, rfl, by decide +kernel, rfl, by decide +kernel, by decide +kernel⟩
def IvS (H : Hp) (D : Addr) (ds : List PyData) (i : Nat) (H1 : Hp) : Prop := ∃ vs : List V, H1 D = some (.lst vs) ∧ ImAll H1 vs (ds.take i) ∧ Same H H1
theorem ivs0 {H : Hp} {D : Addr} {ds : List PyData} (hD : H D = none) : IvS H D ds 0 (upd H D (.lst [])) := ⟨[], upd_same, .nil, same_upd hD⟩
theorem ivs1 {H H1 H2 : Hp} {D : Addr} {ds : List PyData} {i : Nat} {y : V} {d : PyData} (hD : H D = none) (h : IvS H D ds i H1) (s2 : Same H1 H2) (iy : Im H2 y d) (hM : ds.length ≤ 1000) (hr : ds[i]? = some d) :
    ∃ acc : List V, H2 D = some (.lst acc) ∧ acc.length < sizeLine ∧ IvS H D ds (i + 1) (upd H2 D (.lst (acc ++ [y]))) := by
  obtain ⟨vs, hD1, iv, s1⟩ := h
  have vl : vs.length ≤ 1000 := by
    have := iv.length
    rw [List.length_take] at this
    omega
  have hD2 := s2 _ _ hD1
  refine ⟨vs, hD2, small1000 vl, vs ++ [y], upd_same, ?_, fun b o e => ?_⟩
  · rw [List.take_succ, hr]
    exact ImAll.mono (TupS.lst hD2) _ _ (ImAll.snoc iy (ImAll.mono (Same.tups s2) _ _ iv))
  · rw [upd_ne (ne_of_none e hD)]
    exact s2 _ _ (s1 _ _ e)
theorem ivsE {H H1 : Hp} {D : Addr} {ds : List PyData} {n : Nat} (h : IvS H D ds n H1) (hn : ds.length = n) : ∃ vs : List V, Same H H1 ∧ H1 D = some (.lst vs) ∧ ImAll H1 vs ds := by
  obtain ⟨vs, hD1, iv, s1⟩ := h
  rw [← hn, List.take_length] at iv
  exact ⟨vs, s1, hD1, iv⟩
theorem natAbs_lt {x : Int} {k : Nat} (h0 : 0 ≤ x) (h : x < 2 ^ k) : x.natAbs < 2 ^ k := by
  have e : ((2 : Int) ^ k) = ((2 ^ k : Nat) : Int) := by rw [Int.natCast_pow]; rfl
  omega
def spCkC (C : Addr) : Sp := fun vs H Q _ => ∃ (a : Addr) (m wv : V) (ms : List Str) (ws : List (List (List Int))), vs = [.ref a] ∧ CouncilAt C H a m wv ms ws ∧ Q .non H
def spFra : Sp := fun vs H Q _ => ∃ (v : V) (f : Fr), vs = [v] ∧ Im H v (dFr f) ∧ FrOk f ∧ Q (.bl true) H
def spCkF : Sp := fun vs H Q _ => ∃ (v : V) (ps : List Fr), vs = [v] ∧ Im H v (.tuple (ps.map dFr)) ∧ (∀ f ∈ ps, FrOk f) ∧ ps.length ≤ 100 ∧ ∀ H', Same H H' → Q .non H'
def spCkT (C : Addr) : Sp := fun vs H Q _ => ∃ (a : Addr) (m wv v : V) (ms : List Str) (ws : List (List (List Int))) (ps : List Fr), vs = [.ref a, v] ∧ CouncilAt C H a m wv ms ws ∧ Im H v (.tuple (ps.map dFr)) ∧ (∀ f ∈ ps, FrOk f) ∧ ps.length = ms.length ∧ ∀ H', Same H H' → Q .non H'
def spLws : Sp := fun vs H Q _ => ∃ (t b : Int), vs = [.int t, .int b] ∧ 0 < b ∧ b.natAbs.log2 < 9000 ∧ ∀ (H' : Hp) (p : Addr), Same H H' → H p = none → Im H' (.ref p) (dFr (low t b)) → Q (.ref p) H'
/-- the least common bottom -/
def lcmB (ps : List Fr) : Int := (lcmF (ps.map (·.2)) : Nat)
def spOob : Sp := fun vs H Q _ => ∃ (v : V) (ps : List Fr) (B : Int), vs = [v] ∧ Im H v (.tuple (ps.map dFr)) ∧ PartsOk B ps ∧ ps.length ≤ 100 ∧ ∀ (H' : Hp) (p L : Addr), Same H H' → H p = none → H' p = some (.tup [.ref L, .int (lcmB ps)]) → H' L = some (.lst ((tops (lcmB ps) ps).map V.int)) → Q (.ref p) H'
def spWgh : Sp := fun vs H Q _ => ∃ (a b : Addr) (r c : List Int), vs = [.ref a, .ref b] ∧ ((Tu H a (r.map V.int) ∧ Tu H b (c.map V.int)) ∨ (H a = some (.lst (r.map V.int)) ∧ H b = some (.lst (c.map V.int)))) ∧ r.length = c.length ∧ r.length ≤ 6 ∧ (∀ x ∈ r, x.natAbs < 2 ^ 4000) ∧ (∀ x ∈ c, x.natAbs < 2 ^ 5000) ∧ ∀ H', Same H H' → Q (.int (dot r c)) H'
section
variable {P : Program} {w : World} {K : PySem.W.Frag} {mg : Str → Option Value} {base : Heap}
theorem ok_ckc {f C : Addr} {fd : FuncData} (F : Fun K "check_council" "check_council" sCkC f fd) (T : Bt mg) (U : Cn K mg C) : FnOk P w K mg base CX0 1 f fd pCkC (spCkC C) := by
  refine F.ok scCkC (fun vs H Q E h => ?_) (fun cdv A outer s H vs Q E hr h => ?_)
  · obtain ⟨a, m, wv, ms, ws, rfl, _⟩ := h
    rfl
  · obtain ⟨a, m, wv, ms, ws, rfl, c, k⟩ := h
    refine ⟨_, (pss_one (ps_if (pt_not (pt_val (pe_callB (isiQ K) (by rfl) T.isinstance (by decide +kernel) (pa_cons (pv 0) (pa_cons (pe_globE U.g) pa_nil)))))
        (pss_one ps_never) pss_nil)), ?_⟩
    obtain ⟨⟨dx, h1⟩, h2, h3, h4, h5⟩ := c
    exact ⟨_, rfl, _, _, _, _, true, rfl, .own C, .base (.ins h1 U.cl U.c1 U.c2 U.c3 U.c5), U.c4, _, rfl, iteF k⟩
theorem ok_lws {f : Addr} {fd : FuncData} (F : Fun K "lowest" "lowest" sLws f fd) (T : Bt mg) (Tg : mg "gcd" = some (.builtin "math.gcd")) : FnOk P w K mg base CX0 1 f fd pLws spLws := by
  refine F.ok scLws (fun vs H Q E h => ?_) (fun cdv A outer s H vs Q E hr h => ?_)
  · obtain ⟨t, b, rfl, _⟩ := h
    rfl
  · obtain ⟨t, b, rfl, hb, hl, k⟩ := h
    refine ⟨_, (pss_cons (ps_set (i := 2) scLws.nd rfl (Or.inl rfl) (pe_callBfun cr_gcd (by rfl) Tg (pa_cons (pv 0) (pa_cons (pv 1) pa_nil))))
      (pss_one (ps_ret (pe_tup (pa_cons (pe_op op_fdivW (pv 0) (pv 2)) (pa_cons (pe_op op_fdivW (pv 1) (pv 2)) pa_nil)))))), ?_⟩
    have gp : 0 < Nat.gcd t.natAbs b.natAbs := Nat.gcd_pos_of_pos_right _ (by omega)
    have hd : Nat.gcd t.natAbs b.natAbs ∣ b.natAbs := Nat.gcd_dvd_right _ _
    have hle := Nat.le_of_dvd (by omega) hd
    have hlog : ((Nat.gcd t.natAbs b.natAbs : Nat) : Int).natAbs.log2 < 9000 := by
      rw [Int.natAbs_natCast]
      refine Nat.lt_of_le_of_lt ?_ hl
      exact (Nat.le_log2 (by omega)).mpr (Nat.le_trans (Nat.log2_self_le (by omega)) hle)
    refine ⟨_, rfl, _, rfl, _, _, rfl, ?_⟩
    refine ⟨_, rfl, _, rfl, _, _, rfl, rfl, ⟨by omega, hlog⟩, _, rfl, _, rfl, _, _, rfl, rfl, ⟨by omega, hlog⟩, by show 2 ≤ sizeLine; decide, fun p np => ?_⟩
    exact k _ p (same_upd np) np (.tup Tu.up (.cons (.int _) (.cons (.int _) .nil)))
theorem ok_fra {f : Addr} {fd : FuncData} (F : Fun K "is_fraction" "is_fraction" sFra f fd) (T : Bt mg) (Tg : mg "gcd" = some (.builtin "math.gcd")) (DI : DInt P w K mg base) : FnOk P w K mg base CX0 3 f fd pFra spFra := by
  refine F.ok scFra (fun vs H Q E h => ?_) (fun cdv A outer s H vs Q E hr h => ?_)
  · obtain ⟨v, e, rfl, _⟩ := h
    rfl
  · obtain ⟨v, e, rfl, ie, eo, k⟩ := h
    refine ⟨_, (pss_cons (ps_if (PW.pt (pw_or (pt_not (pt_val (pe_callB (isiQ K) (by rfl) T.isinstance (by decide +kernel) (pa_cons (pv 0) (pa_cons (pe_bltn (v := .ty "tuple") (u := .type "tuple") (by rfl) T.tuple (by decide +kernel) rfl) pa_nil))))) (pw_or1 (pt_cmpR op_ne (pe_callB (lenQ K) (by rfl) T.len (by decide +kernel) (pa_cons (pv 0) pa_nil)) pe_int (nomark _)))))
        (pss_one (ps_ret pe_bl)) pss_nil)
      (pss_cons (ps_asg (pv 0) (pg_tup (by rfl) (pgs_cons (pg_name (i := 1) scFra.nd rfl (Or.inl rfl)) (pgs_cons (pg_name (i := 2) scFra.nd rfl (Or.inl rfl)) pgs_nil))))
      (pss_one (ps_ret (pe_and (pe_fn DI hr (by decide) (pa_cons (pv 1) pa_nil)) (pe_and (pe_fn DI hr (by decide) (pa_cons (pv 2) pa_nil)) (pe_and (pe_cmpR op_ge (pv 2) pe_int (nomark _)) (pe_one (pe_cmpR op_eq (pe_callBfun cr_gcd (by rfl) Tg (pa_cons (pv 1) (pa_cons (pv 2) pa_nil))) pe_int (nomark _)))))))))), ?_⟩
    obtain ⟨a, rfl, ha⟩ := im_fr ie
    refine ⟨_, rfl, _, _, _, _, true, rfl, .ty _, ha.tyx, kit_ty (by decide +kernel), _, rfl, iteF ?_⟩
    refine ⟨_, rfl, a, _, rfl, .inr ha.sq, rfl, _, rfl, ?_⟩
    refine ite2 (fun z => ?_) (fun _ => ?_)
    · exfalso
      simp at z
    refine ⟨_, rfl, a, _, rfl, ha.sq, rfl, _, _, rfl, _, _, rfl, rfl, ?_⟩
    refine ⟨_, rfl, _, _, true, false, rfl, .base (.int e.1), kit_ty (by decide +kernel), kit_ty (by decide +kernel), _, rfl, iteT ?_⟩
    refine ⟨_, rfl, _, _, true, false, rfl, .base (.int e.2), kit_ty (by decide +kernel), kit_ty (by decide +kernel), _, rfl, iteT ?_⟩
    have ep := eo.p
    refine ⟨_, rfl, _, _, rfl, rfl, _, rfl, ?_⟩
    rw [decide_eq_true (show (1 : Int) ≤ e.2 by omega)]
    refine iteT ⟨_, rfl, _, rfl, _, _, rfl, ?_⟩
    rw [eo.g]
    exact ⟨rfl, by rw [decide_eq_true (show V.int ((1 : Nat) : Int) = V.int 1 from rfl)]; exact k⟩
theorem ok_ckf {f : Addr} {fd : FuncData} (F : Fun K "check_fractions" "check_fractions" sCkF f fd) (T : Bt mg) (DF : DefX P w K mg base 3 "is_fraction" pFra spFra) : FnOk P w K mg base CX0 5 f fd pCkF spCkF := by
  refine F.ok scCkF (fun vs H Q E h => ?_) (fun cdv A outer s H vs Q E hr h => ?_)
  · obtain ⟨v, ps, rfl, _⟩ := h
    rfl
  · obtain ⟨v, ps, rfl, iv, ok, pl, k⟩ := h
    refine ⟨_, (pss_one (ps_for PassesOwn.never rfl (pi_enumT K (by rfl) T.enumerate (pa_cons (pv 0) pa_nil)) (pg_tup (by rfl) (pgs_cons (pg_name (i := 1) scCkF.nd rfl (Or.inl rfl)) (pgs_cons (pg_name (i := 2) scCkF.nd rfl (Or.inl rfl)) pgs_nil)))
        (pss_one (ps_if (pt_not (pt_val (pe_fn DF hr (by decide) (pa_cons (pv 2) pa_nil))))
        (pss_one ps_never) pss_nil)))), ?_⟩
    obtain ⟨va, xs, rfl, hva, hxs⟩ := iv.tuple
    have xl : xs.length = ps.length := by rw [hxs.length, List.length_map]
    refine ⟨_, rfl, va, _, rfl, hva.sq, ?_⟩
    refine for_it (walk_enumT (K := K) (a := va) (xs := xs)) (fun i σ H1 => ∃ p q : Option V, σ = [some (.ref va), p, q] ∧ Same H H1) ⟨none, none, rfl, Same.refl H⟩ (fun i σ H1 _ ⟨_, _, _, s1⟩ => (hva.same s1).sq) ?_ ?_
    · rintro i y σ H1 _ hi ⟨p, q', rfl, s1⟩ ⟨T', x, rfl, hT, rfl, hx⟩
      obtain ⟨d, hd, ix⟩ := hxs.get hx
      rw [List.getElem?_map] at hd
      cases hz : ps[i]? with
      | none => rw [hz] at hd; cases hd
      | some z =>
        rw [hz] at hd
        cases hd
        refine ⟨T', _, rfl, SqT.of upd_same, rfl, _, _, rfl, _, _, rfl, rfl, ?_⟩
        have s2 := s1.trans (same_upd (o := HO.tup [V.int (i : Nat), x]) hT)
        refine ⟨_, rfl, x, z, rfl, Im.mono (Same.tups s2) _ _ ix, ok z (List.mem_of_getElem? hz), _, rfl, iteF ?_⟩
        exact ⟨_, _, rfl, s2⟩
    · rintro σ H1 ⟨p, q', rfl, s1⟩
      exact k H1 s1
theorem ok_ckt {f C : Addr} {fd : FuncData} (F : Fun K "check_thoughts" "check_thoughts" sCkT f fd) (T : Bt mg) (U : Cn K mg C) (le : SpN P w K mg base C "__len__" 1 (spCLe C)) (DF : DefX P w K mg base 5 "check_fractions" pCkF spCkF) : FnOk P w K mg base CX0 7 f fd pCkT (spCkT C) := by
  refine F.ok scCkT (fun vs H Q E h => ?_) (fun cdv A outer s H vs Q E hr h => ?_)
  · obtain ⟨a, m, wv, v, ms, ws, ps, rfl, _⟩ := h
    rfl
  · obtain ⟨a, m, wv, v, ms, ws, ps, rfl, c, iv, ok, pl, k⟩ := h
    refine ⟨_, (pss_cons (ps_if (PW.pt (pw_or (pt_not (pt_val (pe_callB (isiQ K) (by rfl) T.isinstance (by decide +kernel) (pa_cons (pv 1) (pa_cons (pe_bltn (v := .ty "tuple") (u := .type "tuple") (by rfl) T.tuple (by decide +kernel) rfl) pa_nil))))) (pw_or1 (pt_cmpR op_ne (pe_callB (lenQ K) (by rfl) T.len (by decide +kernel) (pa_cons (pv 1) pa_nil)) (pe_callB (lenI le.at hr (by decide)) (by rfl) T.len (by decide +kernel) (pa_cons (pv 0) pa_nil)) (nomark _)))))
        (pss_one ps_never) pss_nil)
      (pss_one (ps_expr (pe_fn DF hr (by decide) (pa_cons (pv 1) pa_nil))))), ?_⟩
    have cc := c
    obtain ⟨⟨dx, h1⟩, h2, h3, h4, h5⟩ := cc
    have m6 := h4.m6
    have iv' := iv
    obtain ⟨va, xs, rfl, hva, hxs⟩ := iv'.tuple
    have xl : xs.length = ps.length := by rw [hxs.length, List.length_map]
    refine ⟨_, rfl, _, _, _, _, true, rfl, .ty _, hva.tyx, kit_ty (by decide +kernel), _, rfl, iteF ?_⟩
    refine ⟨_, rfl, va, _, rfl, .inr hva.sq, _, rfl, a, dx, _, rfl, h1, a, m, wv, ms, ws, rfl, c, _, rfl, by omega, by omega, rfl, _, rfl, ?_⟩
    rw [xl, pl]
    refine ite2 (fun z => ?_) (fun _ => ?_)
    · exfalso
      simp at z
    exact ⟨_, rfl, .ref va, ps, rfl, iv, ok, by omega, fun H' s' => k H' s'⟩
theorem ok_wgh {f : Addr} {fd : FuncData} (F : Fun K "weighed" "weighed" sWgh f fd) (T : Bt mg) (Tz : mg "zip" = none) : FnOk P w K mg base CX0 1 f fd pWgh spWgh := by
  refine F.ok scWgh (fun vs H Q E h => ?_) (fun cdv A outer s H vs Q E hr h => ?_)
  · obtain ⟨a, b, r, c, rfl, _⟩ := h
    rfl
  · obtain ⟨a, b, r, c, rfl, hab, hl, h6, hx, hy, k⟩ := h
    refine ⟨_, (pss_one (ps_ret (pe_callB (sumL K) (by rfl) T.sum (by decide +kernel) (pa_cons (pe_lc (own := [("weight", 2), ("value", 3)]) (tt := tYes) rfl scWgh.nd (zipQ K (by rfl) Tz (pa_cons (pv 0) (pa_cons (pv 1) pa_nil))) (blkOk_by (own := [("weight", 2), ("value", 3)]) (N := nWgh) (sc := defScope sWgh) (by decide +kernel)) (fun _ _ _ _ _ => (pgT K 2 (pgs_cons (pg_name (i := 2) scWgh.nd rfl (Or.inl rfl)) (pgs_cons (pg_name (i := 3) scWgh.nd rfl (Or.inl rfl)) pgs_nil)))) (fun _ _ _ _ _ => pts_nil)
          (fun _ _ _ _ _ => (pe_op op_mulW (pv 2) (pv 3)))) pa_nil)))), ?_⟩
    have fin : ∀ (D : Addr) (G : Hp), PvS H D (((r.zip c).map fun p => p.1 * p.2).map V.int) r.length G → Same H G ∧ G D = some (.lst (((r.zip c).map fun p => p.1 * p.2).map V.int)) := fun D G h => pvsE h (by rw [List.length_map, List.length_map, List.length_zip]; omega)
    have step : ∀ (i : Nat) (hi : i < r.length) (y1 y2 : V), (r.map V.int)[i]? = some y1 → (c.map V.int)[i]? = some y2 → ∃ (x y : Int), y1 = .int x ∧ y2 = .int y ∧ CMulW x y ∧ (((r.zip c).map fun p => p.1 * p.2).map V.int)[i]? = some (.int (x * y)) := fun i hi y1 y2 e1 e2 => by
      rw [List.getElem?_map] at e1 e2
      have h1 : r[i]? = some (r[i]'hi) := List.getElem?_eq_getElem hi
      have h2 : c[i]? = some (c[i]'(by omega)) := List.getElem?_eq_getElem (by omega)
      rw [h1] at e1
      rw [h2] at e2
      cases e1
      cases e2
      refine ⟨_, _, rfl, rfl, mulW (hx _ (List.getElem_mem hi)) (hy _ (List.getElem_mem _)) (by decide) (by decide) (by decide), ?_⟩
      rw [List.getElem?_map, List.getElem?_map, (List.getElem?_zip_eq_some (z := (r[i]'hi, c[i]'(by omega)))).mpr ⟨h1, h2⟩]
      rfl
    refine ⟨_, rfl, _, rfl, a, b, r.map V.int, c.map V.int, rfl, ?_⟩
    rcases hab with ⟨ha, hb⟩ | ⟨ha, hb⟩
    · refine .inr ⟨ha.sq, hb.sq, ?_⟩
      refine fun D hD => lc_it (walk_zipT (K := K) (a := a) (b := b) (xs := r.map V.int) (ys := c.map V.int) (n := r.length) (by rw [List.length_map]) (by rw [List.length_map, hl])) (PvS H D (((r.zip c).map fun p => p.1 * p.2).map V.int))
        (pvs0 hD) (fun i G _ h => ⟨(ha.same h.1).sq, (hb.same h.1).sq⟩) ?_ (fun G h => ?_)
      · rintro i v G G' hi h ⟨T', y1, y2, rfl, hT, rfl, e1, e2⟩
        obtain ⟨x, y, rfl, rfl, cm, e3⟩ := step i hi y1 y2 e1 e2
        have sT : Same G (upd G T' (.tup [V.int x, V.int y])) := same_upd hT
        refine ⟨T', _, rfl, SqT.of upd_same, rfl, _, _, rfl, _, _, rfl, rfl, rfl, turnY ?_⟩
        refine ⟨_, rfl, _, rfl, _, _, rfl, rfl, cm, ?_⟩
        exact pvs1 hD h sT (by rw [List.length_map, List.length_map, List.length_zip]; omega) e3
      · obtain ⟨s1, hl1⟩ := fin D G h
        exact ⟨D, _, rfl, SqL.of hl1, k G s1⟩
    · refine .inl ⟨SqL.of ha, SqL.of hb, ?_⟩
      refine fun D hD => lc_it (walk_zip (K := K) (a := a) (b := b) (xs := r.map V.int) (ys := c.map V.int) (n := r.length) (by rw [List.length_map, List.length_map]; omega)) (PvS H D (((r.zip c).map fun p => p.1 * p.2).map V.int))
        (pvs0 hD) (fun i G _ h => ⟨SqL.of (h.1 _ _ ha), SqL.of (h.1 _ _ hb)⟩) ?_ (fun G h => ?_)
      · rintro i v G G' hi h ⟨T', y1, y2, rfl, hT, rfl, e1, e2⟩
        obtain ⟨x, y, rfl, rfl, cm, e3⟩ := step i hi y1 y2 e1 e2
        have sT : Same G (upd G T' (.tup [V.int x, V.int y])) := same_upd hT
        refine ⟨T', _, rfl, SqT.of upd_same, rfl, _, _, rfl, _, _, rfl, rfl, rfl, turnY ?_⟩
        refine ⟨_, rfl, _, rfl, _, _, rfl, rfl, cm, ?_⟩
        exact pvs1 hD h sT (by rw [List.length_map, List.length_map, List.length_zip]; omega) e3
      · obtain ⟨s1, hl1⟩ := fin D G h
        exact ⟨D, _, rfl, SqL.of hl1, k G s1⟩
end
theorem lcmB_ok {B : Int} {ps : List Fr} (po : PartsOk B ps) : lcmB ps ∣ B ∧ PartsOk (lcmB ps) ps := by
  have key : ∀ (l : List Int) (c : Nat), c ∣ B.natAbs → (∀ x ∈ l, x ∣ B) → (l.foldl (fun c x => Nat.lcm c x.natAbs) c) ∣ B.natAbs := by
    intro l
    induction l with
    | nil => intro c h _; exact h
    | cons y l ih => intro c h g; exact ih _ (Nat.lcm_dvd h (Int.natAbs_dvd_natAbs.mpr (g y List.mem_cons_self))) fun x hx => g x (List.mem_cons_of_mem _ hx)
  have d : (lcmF (ps.map (·.2)) : Nat) ∣ B.natAbs := key _ 1 (Nat.one_dvd _) fun x hx => by
    obtain ⟨f, hf, rfl⟩ := List.mem_map.mp hx
    exact (po.f f hf).2.1
  have hB := po.p
  have dI : lcmB ps ∣ B := Int.natAbs_dvd_natAbs.mp (by unfold lcmB; rw [Int.natAbs_natCast]; exact d)
  have pos : 0 < lcmF (ps.map (·.2)) := Nat.pos_of_dvd_of_pos d (by omega)
  have lp : 0 < lcmB ps := by unfold lcmB; omega
  have le := Int.le_of_dvd hB dI
  refine ⟨dI, lp, Int.lt_of_le_of_lt le po.b, fun f hf => ⟨(po.f f hf).1, ?_, (po.f f hf).2.2⟩⟩
  have hp := (po.f f hf).1.p
  exact lcmF_dvd (List.mem_map_of_mem hf) (by omega)
theorem lcmF_take_dvd {ps : List Fr} {B : Int} (po : PartsOk B ps) (i : Nat) : lcmF ((ps.map (·.2)).take i) < 2 ^ 4000 ∧ 0 < lcmF ((ps.map (·.2)).take i) := by
  have po' : PartsOk B (ps.take i) := ⟨po.p, po.b, fun f hf => po.f f (List.mem_of_mem_take hf)⟩
  have h := (lcmB_ok po').2
  have h1 := natB h.p h.b
  have h2 := h.p
  unfold lcmB at h1 h2
  rw [← List.map_take]
  rw [Int.natAbs_natCast] at h1
  exact ⟨h1, by omega⟩
section
variable {P : Program} {w : World} {K : PySem.W.Frag} {mg : Str → Option Value} {base : Heap}
theorem ok_oob {f : Addr} {fd : FuncData} (F : Fun K "over_one_bottom" "over_one_bottom" sOob f fd) (T : Bt mg) (Tl : mg "lcm" = some (.builtin "math.lcm")) : FnOk P w K mg base CX0 1 f fd pOob spOob := by
  refine F.ok scOob (fun vs H Q E h => ?_) (fun cdv A outer s H vs Q E hr h => ?_)
  · obtain ⟨v, ps, B, rfl, _⟩ := h
    rfl
  · obtain ⟨v, ps, B, rfl, iv, po, p6, k⟩ := h
    refine ⟨_, (pss_cons (ps_set (i := 1) scOob.nd rfl (Or.inr rfl) pe_int)
      (pss_cons (ps_for PassesOwn.never rfl (piT K (pv 0)) (pg_tup (by rfl) (pgs_cons (pg_name (i := 2) scOob.nd rfl (Or.inl rfl)) (pgs_cons (pg_name (i := 3) scOob.nd rfl (Or.inl rfl)) pgs_nil)))
        (pss_one (ps_set (i := 1) scOob.nd rfl (Or.inr rfl) (pe_callBfun cr_lcm (by rfl) Tl (pa_cons (pv 1) (pa_cons (pv 3) pa_nil))))))
      (pss_one (ps_ret (pe_tup (pa_cons (pe_lc (own := [("top", 4), ("bottom", 3)]) (tt := tYes) rfl scOob.nd (piT K (pv 0)) (blkOk_by (own := [("top", 4), ("bottom", 3)]) (N := nOob) (sc := defScope sOob) (by decide +kernel)) (fun _ _ _ _ _ => (pgT K 2 (pgs_cons (pg_name (i := 4) scOob.nd rfl (Or.inl rfl)) (pgs_cons (pg_name (i := 3) scOob.nd rfl (Or.inl rfl)) pgs_nil)))) (fun _ _ _ _ _ => pts_nil)
          (fun _ _ _ _ _ => (pe_op op_mulW (pv 4) (pe_op op_fdivW (pv 1) (pv 3))))) (pa_cons (pv 1) pa_nil))))))), ?_⟩
    obtain ⟨va, xs, rfl, hva, hxs⟩ := iv.tuple
    have xl : xs.length = ps.length := by rw [hxs.length, List.length_map]
    have bl : (ps.map (·.2)).length = ps.length := by rw [List.length_map]
    refine ⟨_, rfl, va, rfl, ⟨_, hva.sq⟩, for_tup (K := K) (a := va) (xs := xs) (fun i σ G => ∃ v2 v3 : Option V, σ = [some (.ref va), some (.int ((lcmF ((ps.map (·.2)).take i) : Nat) : Int)), v2, v3, none] ∧ Same H G) ⟨none, none, rfl, Same.refl H⟩ (fun i σ G _ ⟨_, _, _, sG⟩ => (hva.same sG).sq) ?_ ?_⟩
    · rintro i x σ G hx ⟨v2, v3, rfl, sG⟩
      obtain ⟨de, hde, ime⟩ := hxs.get hx
      rw [List.getElem?_map] at hde
      cases hz : ps[i]? with
      | none => rw [hz] at hde; cases hde
      | some e =>
        rw [hz] at hde
        cases hde
        obtain ⟨ea, rfl, hea⟩ := im_fr ime
        have hbz : (ps.map (·.2))[i]? = some e.2 := by rw [List.getElem?_map, hz]; rfl
        obtain ⟨eo, ed, eb⟩ := po.f e (List.mem_of_getElem? hz)
        have l4 := lcmF_take_dvd po i
        have ep := eo.p
        have hBb := natB po.p po.b
        have e2b : e.2.natAbs < 2 ^ 4000 := by have := Int.le_of_dvd po.p ed; omega
        refine ⟨ea, _, rfl, (hea.same sG).sq, rfl, _, _, rfl, _, _, rfl, rfl, ?_⟩
        refine ⟨_, rfl, _, rfl, _, _, rfl, by rw [Int.natAbs_natCast]; exact Nat.lt_of_lt_of_le l4.1 (Nat.pow_le_pow_right (by decide) (by decide)), Nat.lt_of_lt_of_le e2b (Nat.pow_le_pow_right (by decide) (by decide)), ?_⟩
        have el : lcmF ((ps.map (·.2)).take (i + 1)) = Nat.lcm (lcmF ((ps.map (·.2)).take i)) e.2.natAbs := by rw [List.take_succ, hbz]; exact lcmF_snoc _ _
        refine ⟨some (.int e.1), some (.int e.2), ?_, sG⟩
        rw [el, Int.natAbs_natCast]
        rfl
    · rintro σ G ⟨v2, v3, rfl, sG⟩
      rw [List.take_of_length_le (by omega)]
      have lo := (lcmB_ok po).2
      have lb := natB lo.p lo.b
      have tl : (tops (lcmB ps) ps).length = ps.length := by unfold tops; rw [List.length_map]
      refine ⟨_, rfl, va, rfl, ⟨_, (hva.same sG).sq⟩, fun D hD => ?_⟩
      refine lc_it (walk_tup (K := K) (a := va) (xs := xs)) (PvS G D ((tops (lcmB ps) ps).map V.int)) (pvs0 hD) (fun i G1 _ h => ((hva.same sG).same h.1).sq) ?_ (fun G1 h => ?_)
      · rintro i x _ G1 hi h ⟨rfl, hx⟩
        obtain ⟨de, hde, ime⟩ := hxs.get hx
        rw [List.getElem?_map] at hde
        cases hz : ps[i]? with
        | none => rw [hz] at hde; cases hde
        | some e =>
          rw [hz] at hde
          cases hde
          obtain ⟨ea, rfl, hea⟩ := im_fr ime
          obtain ⟨eo, ed, eb⟩ := lo.f e (List.mem_of_getElem? hz)
          have ep := eo.p
          have e2b : e.2.natAbs < 2 ^ 4000 := by have := Int.le_of_dvd lo.p ed; omega
          have e1b : e.1.natAbs < 2 ^ 4200 := by
            refine Nat.lt_of_le_of_lt eb ?_
            have := Nat.mul_lt_mul_of_pos_left (k := 2 ^ 200) e2b (by decide)
            rw [← Nat.pow_add] at this
            exact this
          have qb : (lcmB ps / e.2).natAbs < 2 ^ 4000 := by
            have h1 := Int.ediv_le_self e.2 (Int.le_of_lt lo.p)
            have h2 : 0 ≤ lcmB ps / e.2 := Int.ediv_nonneg (Int.le_of_lt lo.p) (Int.le_of_lt ep)
            omega
          refine ⟨ea, _, rfl, ((hea.same sG).same h.1).sq, rfl, _, _, rfl, _, _, rfl, rfl, rfl, turnY ?_⟩
          refine ⟨_, rfl, _, rfl, _, rfl, _, _, rfl, rfl, ⟨ep, Nat.lt_of_lt_of_le (lg e2b (by decide)) (by decide)⟩, _, _, rfl, rfl, mulW e1b qb (by decide) (by decide) (by decide), ?_⟩
          refine pvs1 hD h (Same.refl _) (by rw [List.length_map, tl]; omega) ?_
          rw [List.getElem?_map]
          unfold tops
          rw [List.getElem?_map, hz]
          rfl
      · obtain ⟨s1, hl1⟩ := pvsE h (by rw [List.length_map, tl, xl])
        refine ⟨_, rfl, by show 2 ≤ sizeLine; decide, fun p np => ?_⟩
        exact k _ p D ((sG.trans s1).trans (same_upd np)) ((sG.trans s1).free np) upd_same (same_upd np _ _ hl1)
/-- rows of shares: ints from 0 on, not all 0 -/
structure RowP (n : Nat) (r : List Int) : Prop where
  l : r.length = n
  b : ∀ x ∈ r, 0 ≤ x ∧ x < 2 ^ 3000
  s : 0 < r.sum
def spMno : Sp := fun vs H Q _ => ∃ (v : V) (Lr : Addr) (us : List V) (M : List (List Int)) (ps : List Fr) (B : Int), vs = [v, .ref Lr] ∧ Im H v (.tuple (ps.map dFr)) ∧ PartsOk B ps ∧ ps.length ≤ 6 ∧ M.length ≤ 6 ∧ H Lr = some (.lst us) ∧ RL H us M ∧ (∀ r ∈ M, RowP ps.length r) ∧
  ∀ (H' : Hp) (p : Addr), Same H H' → H p = none → Im H' (.ref p) (.tuple ((M.map (meanF (lcmB ps) ps)).map dFr)) → Q (.ref p) H'
theorem sum_lt {k : Nat} : ∀ (l : List Int), (∀ x ∈ l, 0 ≤ x ∧ x < 2 ^ k) → 0 ≤ l.sum ∧ l.sum ≤ l.length * 2 ^ k := fun l h => by
  have := sum_le_len (B := 2 ^ k) l fun x hx => ⟨(h x hx).1, Int.le_of_lt (h x hx).2⟩
  exact this
theorem RowP.sb {n : Nat} {r : List Int} (h : RowP n r) (n6 : n ≤ 6) : r.sum.natAbs < 2 ^ 3003 := by
  obtain ⟨s1, s2⟩ := sum_lt r h.b
  have e : ((2 : Int) ^ 3000) = ((2 ^ 3000 : Nat) : Int) := by rw [Int.natCast_pow]; rfl
  have l6 : r.length ≤ 6 := by have := h.l; omega
  have e2 : (2 : Nat) ^ 3003 = 8 * 2 ^ 3000 := by rw [show 3003 = 3 + 3000 from rfl, Nat.pow_add]
  have hp : 0 < (2 : Nat) ^ 3000 := Nat.pow_pos (by decide)
  rw [e2]
  rw [e] at s2
  have : r.sum ≤ ((r.length * 2 ^ 3000 : Nat) : Int) := by rw [Int.natCast_mul]; exact s2
  have h2 : r.length * 2 ^ 3000 ≤ 6 * 2 ^ 3000 := Nat.mul_le_mul_right _ l6
  generalize (2 : Nat) ^ 3000 = z at *
  omega
theorem ok_mno {f : Addr} {fd : FuncData} (F : Fun K "means_of" "means_of" sMno f fd) (T : Bt mg) (DO : DefX P w K mg base 1 "over_one_bottom" pOob spOob) (DL : DefX P w K mg base 1 "lowest" pLws spLws) (DW : DefX P w K mg base 1 "weighed" pWgh spWgh) : FnOk P w K mg base CX0 3 f fd pMno spMno := by
  refine F.ok scMno (fun vs H Q E h => ?_) (fun cdv A outer s H vs Q E hr h => ?_)
  · obtain ⟨v, Lr, us, M, ps, B, rfl, _⟩ := h
    rfl
  · obtain ⟨v, Lr, us, M, ps, B, rfl, iv, po, p6, M6, hL, rl, rp, k⟩ := h
    have hul := rl.length
    refine ⟨_, (pss_cons (ps_asg (pe_fn DO hr (by decide) (pa_cons (pv 0) pa_nil)) (pg_tup (by rfl) (pgs_cons (pg_name (i := 2) scMno.nd rfl (Or.inr rfl)) (pgs_cons (pg_name (i := 3) scMno.nd rfl (Or.inr rfl)) pgs_nil))))
      (pss_one (ps_ret (pe_callTy (tupO K) (by rfl) T.tuple (by decide +kernel) (pa_cons (pe_lc (own := [("row", 4)]) (g := gName 4) (tt := tYes) rfl scMno.nd (piL K (pv 1)) (blkOk_by (own := [("row", 4)]) (N := nMno) (sc := defScope sMno) (by decide +kernel)) (fun _ _ _ _ _ => (pg_name (i := 4) scMno.nd rfl (Or.inl rfl))) (fun _ _ _ _ _ => pts_nil)
          (fun _ _ _ _ _ => (pe_fn DL hr (by decide) (pa_cons (pe_fn DW hr (by decide) (pa_cons (pv 4) (pa_cons (pv 2) pa_nil))) (pa_cons (pe_op op_mulW (pv 3) (pe_callB (sumL K) (by rfl) T.sum (by decide +kernel) (pa_cons (pv 4) pa_nil))) pa_nil))))) pa_nil))))), ?_⟩
    have lo := (lcmB_ok po).2
    have lb := natB lo.p lo.b
    have tl : (tops (lcmB ps) ps).length = ps.length := by unfold tops; rw [List.length_map]
    refine ⟨_, rfl, v, ps, B, rfl, iv, po, by omega, fun H1 p1 L1 s1 n1 h1 hL1 => ?_⟩
    refine ⟨p1, _, rfl, SqT.of h1, rfl, _, _, rfl, _, _, rfl, rfl, ?_⟩
    refine ⟨_, rfl, Lr, rfl, ⟨_, SqL.of (s1 _ _ hL)⟩, fun D hD => ?_⟩
    refine lc_it (walk_list (K := K) (a := Lr) (xs := us)) (IvS H1 D ((M.map (meanF (lcmB ps) ps)).map dFr)) (ivs0 hD) (fun i G _ ⟨_, _, _, sG⟩ => SqL.of (sG _ _ (s1 _ _ hL))) ?_ (fun G h => ?_)
    · rintro i x _ G hi h ⟨rfl, hx⟩
      obtain ⟨ra, r, rfl, hr1, hra⟩ := rl.get hx
      obtain ⟨vs, hD1, iv1, sG⟩ := id h
      have hra1 := sG _ _ (s1 _ _ hra)
      have hL2 := sG _ _ hL1
      have rpi := rp r (List.mem_of_getElem? hr1)
      have sb := rpi.sb p6
      refine ⟨rfl, turnY ?_⟩
      refine ⟨_, rfl, _, rfl, ra, L1, r, _, rfl, .inr ⟨hra1, hL2⟩, by rw [tl]; exact rpi.l, by have := rpi.l; omega, fun x hx => ?_, fun y hy => ?_, fun G2 s2 => ?_⟩
      · have := rpi.b x hx
        exact upB (b := 4000) (natAbs_lt this.1 this.2) (by decide)
      · unfold tops at hy
        obtain ⟨e, he, rfl⟩ := List.mem_map.mp hy
        obtain ⟨q1, q2, q3⟩ := lo.f e he
        have tb := top_bound lo.p q1 q2 q3
        refine Nat.lt_of_le_of_lt tb ?_
        have := Nat.mul_lt_mul_of_pos_left (k := 2 ^ 200) lb (by decide)
        rw [← Nat.pow_add] at this
        exact Nat.lt_of_lt_of_le this (Nat.pow_le_pow_right (by decide) (by decide))
      have bp : 0 < lcmB ps * r.sum := Int.mul_pos lo.p rpi.s
      refine ⟨_, rfl, _, rfl, ra, r, rfl, SqL.of (s2 _ _ hra1), _, _, rfl, rfl, mulW lb sb (by decide) (by decide) (by decide), ?_⟩
      refine ⟨_, _, rfl, bp, Nat.lt_of_lt_of_le (lg (mulB lb sb) (by decide)) (by decide), fun G3 p3 s3 n3 im3 => ?_⟩
      exact ivs1 hD h (s2.trans s3) im3 (by rw [List.length_map, List.length_map]; omega) (by rw [List.getElem?_map, List.getElem?_map, hr1]; rfl)
    · obtain ⟨vs, sG, hD1, ivs⟩ := ivsE h (by rw [List.length_map, List.length_map]; omega)
      exact ⟨D, vs, rfl, .inl ⟨SqL.of hD1, fun p np => k _ p ((s1.trans sG).trans (same_upd np)) ((s1.trans sG).free np) (.tup Tu.up (ImAll.mono (TupS.new np) _ _ ivs))⟩⟩
end
end M

namespace M
open PySem L2 U ZN
structure RowG (r : List Int) : Prop where
  n : r.length ≤ 6
  b : ∀ x ∈ r, 0 ≤ x
  s : 0 < r.sum
  m : r.sum < 2 ^ 3000
theorem le_sum : ∀ {r : List Int} {x : Int}, (∀ x ∈ r, 0 ≤ x) → x ∈ r → x ≤ r.sum ∧ 0 ≤ r.sum
  | [], _, _, h => by cases h
  | y :: r, x, h, hx => by
    rw [List.sum_cons]
    have hy := h y List.mem_cons_self
    have h0 : 0 ≤ r.sum := by
      cases r with
      | nil => exact Int.le_refl 0
      | cons z r => exact (le_sum (x := z) (fun q hq => h q (List.mem_cons_of_mem _ hq)) List.mem_cons_self).2
    rcases List.mem_cons.mp hx with rfl | hx
    · exact ⟨by omega, by omega⟩
    · have := le_sum (fun q hq => h q (List.mem_cons_of_mem _ hq)) hx
      exact ⟨by omega, by omega⟩
theorem RowG.gcd {r : List Int} (h : RowG r) : 0 < gcdF r ∧ ((gcdF r : Nat) : Int) ≤ r.sum := by
  obtain ⟨x, hx, h0⟩ := pos_of_sum r h.b h.s
  have d := gcdF_dvd r x hx
  have h1 : gcdF r ∣ x.natAbs := Int.natAbs_dvd_natAbs.mpr d
  have h2 : 0 < x.natAbs := by omega
  have h3 := (le_sum h.b hx).1
  exact ⟨Nat.pos_of_dvd_of_pos h1 h2, by have := Nat.le_of_dvd h2 h1; omega⟩
theorem RowG.glog {r : List Int} (h : RowG r) : ((gcdF r : Nat) : Int).natAbs.log2 < 9000 := by
  have g := h.gcd
  have m := h.m
  exact Nat.lt_of_lt_of_le (lg (k := 3000) (natAbs_lt (by omega) (by omega)) (by decide)) (by decide)
theorem sum_div {g : Int} (hg : 0 < g) : ∀ (l : List Int), (∀ x ∈ l, g ∣ x) → (l.map fun x => x / g).sum * g = l.sum
  | [], _ => by rw [List.map_nil, List.sum_nil, Int.zero_mul]
  | y :: l, h => by
    rw [List.map_cons, List.sum_cons, List.sum_cons, Int.add_mul, sum_div hg l fun x hx => h x (List.mem_cons_of_mem _ hx), Int.ediv_mul_cancel (h y List.mem_cons_self)]
theorem RowG.wd {r : List Int} (h : RowG r) : (∀ x ∈ wd r, 0 ≤ x) ∧ 0 < (wd r).sum ∧ (wd r).sum ≤ r.sum ∧ (wd r).sum ∣ r.sum ∧ (wd r).sum * (gcdF r : Nat) = r.sum := by
  have g := h.gcd
  have e : (M.wd r).sum * (gcdF r : Nat) = r.sum := sum_div (by omega) r fun x hx => gcdF_dvd r x hx
  have p : 0 < (M.wd r).sum := by
    refine Int.not_le.mp fun q => ?_
    have := Int.mul_le_mul_of_nonneg_right q (show (0 : Int) ≤ (gcdF r : Nat) by omega)
    rw [e, Int.zero_mul] at this
    have := h.s
    omega
  refine ⟨fun x hx => ?_, p, ?_, ⟨_, e.symm⟩, e⟩
  · unfold M.wd at hx
    obtain ⟨z, hz, rfl⟩ := List.mem_map.mp hx
    exact Int.ediv_nonneg (h.b z hz) (by omega)
  · have := Int.mul_le_mul_of_nonneg_left (show (1 : Int) ≤ (gcdF r : Nat) by omega) (Int.le_of_lt p)
    rw [e, Int.mul_one] at this
    exact this
def spFiR : Sp := fun vs H Q _ => ∃ (n : Nat), vs = [.int n] ∧ n ≤ 6 ∧ ∀ (H' : Hp) (L : Addr) (us : List V), Same H H' → H L = none → H' L = some (.lst us) → RL H' us (idM n) → Q (.ref L) H'
def spWoG : Sp := fun vs H Q _ => ∃ (a : Addr) (r : List Int), vs = [.ref a] ∧ H a = some (.lst (r.map V.int)) ∧ RowG r ∧ ∀ (H' : Hp) (L : Addr), Same H H' → H L = none → H' L = some (.lst ((wd r).map V.int)) → Q (.ref L) H'
def spEvG : Sp := fun vs H Q _ => ∃ (a : Addr) (us : List V) (M : List (List Int)) (Bd : Int), vs = [.ref a] ∧ H a = some (.lst us) ∧ RL H us M ∧ M.length ≤ 6 ∧ (∀ r ∈ M, RowG r ∧ r.sum ∣ Bd) ∧ 0 < Bd ∧ Bd < 2 ^ 3000 ∧ ∀ (H' : Hp) (L : Addr) (us' : List V), Same H H' → H L = none → H' L = some (.lst us') → RL H' us' (evM M) → Q (.ref L) H'
theorem lcm_dvd {Bd : Int} : ∀ (l : List Int) (c : Nat), c ∣ Bd.natAbs → (∀ x ∈ l, x ∣ Bd) → (l.foldl (fun c x => Nat.lcm c x.natAbs) c) ∣ Bd.natAbs
  | [], _, h, _ => h
  | y :: l, c, h, g => lcm_dvd l _ (Nat.lcm_dvd h (Int.natAbs_dvd_natAbs.mpr (g y List.mem_cons_self))) fun x hx => g x (List.mem_cons_of_mem _ hx)
section
variable {P : Program} {w : World} {K : PySem.W.Frag} {mg : Str → Option Value} {base : Heap}
end
end M

namespace M
open PySem L2 U ZN
def colV (M : List (List Int)) (j : Nat) : List Int := M.map fun r => (r[j]?).getD 0
def mulR (n : Nat) (ws : List Int) (M : List (List Int)) : List Int := (List.range n).map fun j => dot ws (colV M j)
def mulM (n : Nat) (w M : List (List Int)) : List (List Int) := w.map fun ws => mulR n ws M
structure Rows (n : Nat) (S : Int) (M : List (List Int)) : Prop where
  l : M.length = n
  r : ∀ r ∈ M, r.length = n ∧ (∀ x ∈ r, 0 ≤ x) ∧ r.sum = S
  p : 0 < S
theorem dot_nil' (r : List Int) : dot r [] = 0 := by cases r <;> rfl
theorem dot_nonneg : ∀ (r c : List Int), (∀ x ∈ r, 0 ≤ x) → (∀ x ∈ c, 0 ≤ x) → 0 ≤ dot r c
  | [], c, _, _ => by rw [dot_nil]; exact Int.le_refl 0
  | x :: r, [], _, _ => by rw [dot_nil']; exact Int.le_refl 0
  | x :: r, y :: c, h, g => by
    rw [dot_cons]
    have := dot_nonneg r c (fun z hz => h z (List.mem_cons_of_mem _ hz)) (fun z hz => g z (List.mem_cons_of_mem _ hz))
    have := Int.mul_nonneg (h x List.mem_cons_self) (g y List.mem_cons_self)
    omega
theorem self_map {r : List Int} {n : Nat} (h : r.length = n) : ((List.range n).map fun j => (r[j]?).getD 0) = r := by
  refine List.ext_getElem (by rw [List.length_map, List.length_range, h]) fun i h1 h2 => ?_
  rw [List.getElem_map, List.getElem_range, List.getElem?_eq_getElem h2]
  rfl
theorem sum_add (f g : Nat → Int) : ∀ l : List Nat, (l.map fun j => f j + g j).sum = (l.map f).sum + (l.map g).sum
  | [] => rfl
  | x :: l => by
    rw [List.map_cons, List.sum_cons, List.map_cons, List.sum_cons, List.map_cons, List.sum_cons, sum_add f g l]
    omega
theorem sum_mul (c : Int) (f : Nat → Int) : ∀ l : List Nat, (l.map fun j => c * f j).sum = c * (l.map f).sum
  | [] => by rw [List.map_nil, List.map_nil, List.sum_nil, Int.mul_zero]
  | x :: l => by rw [List.map_cons, List.sum_cons, List.map_cons, List.sum_cons, sum_mul c f l, Int.mul_add]
/-- a sum over the places of a row of a product: the weights over what each row gives -/
theorem sum_mulR {n : Nat} {f : Nat → Int} : ∀ (ws : List Int) (M : List (List Int)), ((List.range n).map fun j => dot ws (colV M j) * f j).sum = dot ws (M.map fun r => ((List.range n).map fun j => (r[j]?).getD 0 * f j).sum)
  | [], M => by
    have : ((List.range n).map fun j => dot [] (colV M j) * f j) = (List.range n).map fun j => (0 : Int) * f j := List.map_congr_left fun j _ => by rw [dot_nil]
    rw [this, sum_mul 0 f, dot_nil, Int.zero_mul]
  | x :: ws, [] => by
    have : ((List.range n).map fun j => dot (x :: ws) (colV [] j) * f j) = (List.range n).map fun j => (0 : Int) * f j := List.map_congr_left fun j _ => by
      show dot (x :: ws) [] * f j = _
      rw [dot_nil']
    rw [this, sum_mul 0 f, List.map_nil, dot_nil', Int.zero_mul]
  | x :: ws, r :: M => by
    rw [List.map_cons, dot_cons, ← sum_mulR ws M, ← sum_mul x, ← sum_add]
    refine congrArg List.sum (List.map_congr_left fun j _ => ?_)
    show dot (x :: ws) ((r[j]?).getD 0 :: colV M j) * f j = _
    rw [dot_cons, Int.add_mul, Int.mul_assoc]
theorem dot_const {S : Int} : ∀ (ws c : List Int), ws.length = c.length → (∀ x ∈ c, x = S) → dot ws c = ws.sum * S
  | [], c, _, _ => by rw [dot_nil, List.sum_nil, Int.zero_mul]
  | x :: ws, [], h, _ => by simp at h
  | x :: ws, y :: c, h, g => by
    rw [dot_cons, List.sum_cons, dot_const ws c (by simpa using h) fun z hz => g z (List.mem_cons_of_mem _ hz), g y List.mem_cons_self, Int.add_mul]
theorem mulR_sum {n : Nat} {S : Int} {ws : List Int} {M : List (List Int)} (h : Rows n S M) (hw : ws.length = n) : (mulR n ws M).sum = ws.sum * S := by
  have e : mulR n ws M = (List.range n).map fun j => dot ws (colV M j) * 1 := List.map_congr_left fun j _ => by rw [Int.mul_one]
  rw [e, sum_mulR (f := fun _ => 1)]
  refine dot_const _ _ (by rw [List.length_map, hw, h.l]) fun x hx => ?_
  obtain ⟨r, hr, rfl⟩ := List.mem_map.mp hx
  have e2 : ((List.range n).map fun j => (r[j]?).getD 0 * 1) = r := by
    conv => rhs; rw [← self_map (h.r r hr).1]
    exact List.map_congr_left fun j _ => by rw [Int.mul_one]
  rw [e2]
  exact (h.r r hr).2.2
theorem col_nonneg {n : Nat} {S : Int} {M : List (List Int)} (h : Rows n S M) (j : Nat) : ∀ x ∈ colV M j, 0 ≤ x ∧ x ≤ S := fun x hx => by
  obtain ⟨r, hr, rfl⟩ := List.mem_map.mp hx
  obtain ⟨q1, q2, q3⟩ := h.r r hr
  have p := h.p
  cases hj : r[j]? with
  | none => exact ⟨Int.le_refl 0, Int.le_of_lt p⟩
  | some y =>
    have hy := List.mem_of_getElem? hj
    have := le_sum q2 hy
    exact ⟨q2 y hy, by show y ≤ S; omega⟩
theorem mulR_ok {n : Nat} {S : Int} {ws : List Int} {M : List (List Int)} (h : Rows n S M) (ho : RowOk n ws) : (mulR n ws M).length = n ∧ (∀ x ∈ mulR n ws M, 0 ≤ x) ∧ (mulR n ws M).sum = ws.sum * S := by
  refine ⟨by unfold mulR; rw [List.length_map, List.length_range], fun x hx => ?_, mulR_sum h ho.1⟩
  unfold mulR at hx
  obtain ⟨j, _, rfl⟩ := List.mem_map.mp hx
  exact dot_nonneg _ _ (fun x hx => (ho.2.1 x hx).1) fun x hx => (col_nonneg h j x hx).1
/-- the least common multiple of a way's sums -/
def lamW (w : List (List Int)) : Int := (lcmF (w.map List.sum) : Nat)
theorem row_sum {n : Nat} {r : List Int} (h : RowOk n r) (n6 : n ≤ 6) : 0 < r.sum ∧ r.sum ≤ 6000000000 := by
  obtain ⟨s1, s2⟩ := sum_le_len (B := 1000000000) r h.2.1
  have : (r.length : Int) * 1000000000 ≤ 6 * 1000000000 := by have := h.1; omega
  exact ⟨h.2.2, by omega⟩
theorem lamW_ok {n : Nat} {w : List (List Int)} (h : WayOk n w) (n6 : n ≤ 6) : 0 < lamW w ∧ lamW w < 2 ^ 196 ∧ ∀ r ∈ w, r.sum ∣ lamW w := by
  have hs : ∀ x ∈ w.map List.sum, 0 < x ∧ x ≤ (6000000000 : Nat) := fun x hx => by
    obtain ⟨r, hr, rfl⟩ := List.mem_map.mp hx
    exact row_sum (h.2 r hr) n6
  obtain ⟨p, q⟩ := lcmF_le (B := 6000000000) (w.map List.sum) 1 (by decide) hs
  have l6 : (w.map List.sum).length ≤ 6 := by rw [List.length_map, h.1]; exact n6
  have q2 : lcmF (w.map List.sum) < 2 ^ 196 := by
    refine Nat.lt_of_le_of_lt (Nat.le_trans q ?_) (show (6000000000 : Nat) ^ 6 < 2 ^ 196 by decide)
    rw [Nat.one_mul]
    exact Nat.pow_le_pow_right (by decide) l6
  refine ⟨by unfold lamW; exact Int.natCast_pos.mpr p, by unfold lamW; omega, fun r hr => ?_⟩
  have := row_sum (h.2 r hr) n6
  exact lcmF_dvd (List.mem_map_of_mem hr) (by omega)
theorem RL.qs' {H : Hp} {us : List V} {M : List (List Int)} (h : RL H us M) : ∃ qs : List (Addr × List V), us = qs.map (fun q => V.ref q.1) ∧ qs.map (·.2) = M.map (·.map V.int) ∧ ∀ q ∈ qs, H q.1 = some (.lst q.2) := RL.qs h
def spRDg : Sp := fun vs H Q _ => ∃ (a : Addr) (wv : V) (us : List V) (M : List (List Int)) (n : Nat) (S : Int) (wy : List (List Int)), vs = [.ref a, wv] ∧ H a = some (.lst us) ∧ RL H us M ∧ Rows n S M ∧ S < 2 ^ 2700 ∧ 1 ≤ n ∧ n ≤ 6 ∧ Im H wv (dWay wy) ∧ WayOk n wy ∧
  ∀ (H' : Hp) (L : Addr) (us' : List V), Same H H' → H L = none → H' L = some (.lst us') → RL H' us' (evM (mulM n wy M)) → Q (.ref L) H'
section
variable {P : Program} {w : World} {K : PySem.W.Frag} {mg : Str → Option Value} {base : Heap}
end
end M

namespace M
open PySem L2 U ZN
theorem dot_range : ∀ {n : Nat} {r c : List Int}, r.length = n → c.length = n → dot r c = ((List.range n).map fun j => (r[j]?).getD 0 * (c[j]?).getD 0).sum := by
  intro n r c h g
  unfold dot
  refine congrArg List.sum (List.ext_getElem (by rw [List.length_map, List.length_zip, List.length_map, List.length_range]; omega) fun i h1 h2 => ?_)
  rw [List.length_map, List.length_range] at h2
  rw [List.getElem_map, List.getElem_map, List.getElem_range, List.getElem_zip, List.getElem?_eq_getElem (by omega), List.getElem?_eq_getElem (by omega)]
  rfl
theorem dot_mulR {n : Nat} {S : Int} {M : List (List Int)} (h : Rows n S M) (x : List Int) {T : List Int} (hT : T.length = n) : dot (mulR n x M) T = dot x (M.map fun m => dot m T) := by
  have l : (mulR n x M).length = n := by unfold mulR; rw [List.length_map, List.length_range]
  rw [dot_range l hT]
  have e : ((List.range n).map fun j => ((mulR n x M)[j]?).getD 0 * (T[j]?).getD 0) = (List.range n).map fun j => dot x (colV M j) * (T[j]?).getD 0 := by
    refine List.map_congr_left fun j hj => ?_
    unfold mulR
    rw [List.getElem?_map, List.getElem?_range (List.mem_range.mp hj)]
    rfl
  rw [e, sum_mulR (f := fun j => (T[j]?).getD 0)]
  refine congrArg (dot x) (List.map_congr_left fun m hm => ?_)
  rw [dot_range (h.r m hm).1 hT]
theorem dot_scale {g b : Int} : ∀ (r c : List Int), (∀ x ∈ r, g ∣ x) → g ≠ 0 → dot ((r.map fun x => x / g).map fun x => x * b) c * g = dot r c * b
  | [], c, _, _ => by
    show dot [] c * g = dot [] c * b
    rw [dot_nil, Int.zero_mul, Int.zero_mul]
  | x :: r, [], _, _ => by rw [dot_nil', dot_nil', Int.zero_mul, Int.zero_mul]
  | x :: r, y :: c, h, hg => by
    have ih := dot_scale (b := b) r c (fun z hz => h z (List.mem_cons_of_mem _ hz)) hg
    obtain ⟨q, rfl⟩ := h x List.mem_cons_self
    rw [List.map_cons, List.map_cons, dot_cons, dot_cons, Int.mul_ediv_cancel_left _ hg]
    generalize dot ((r.map fun x => x / g).map fun x => x * b) c = u at *
    generalize dot r c = v at *
    grind
theorem sum_scale (b : Int) : ∀ (l : List Int), (l.map fun x => x * b).sum = l.sum * b
  | [] => by rw [List.map_nil, List.sum_nil, Int.zero_mul]
  | x :: l => by rw [List.map_cons, List.sum_cons, List.sum_cons, sum_scale b l, Int.add_mul]
/-- the sum of all rows of evened ones -/
def lamE (M : List (List Int)) : Int := (lcmF ((M.map wd).map List.sum) : Nat)
def evR (M : List (List Int)) (r : List Int) : List Int := (wd r).map fun x => x * (lamE M / (wd r).sum)
theorem evM_eq (M : List (List Int)) : evM M = M.map (evR M) := by
  unfold evM
  rw [List.map_map]
  rfl
theorem evR_ok {M : List (List Int)} {r : List Int} (h : ∀ r ∈ M, RowG r) (hr : r ∈ M) : 0 < lamE M ∧ (evR M r).length = r.length ∧ (∀ x ∈ evR M r, 0 ≤ x) ∧ (evR M r).sum = lamE M ∧ ∃ g b : Int, 0 < g ∧ 0 < b ∧ (evR M r).sum * g = r.sum * b ∧ ∀ c, dot (evR M r) c * g = dot r c * b := by
  obtain ⟨q1, q2, q3, q4, q5⟩ := (h r hr).wd
  have g0 := (h r hr).gcd
  have hm : (wd r).sum ∈ (M.map wd).map List.sum := List.mem_map_of_mem (List.mem_map_of_mem hr)
  have hd : (wd r).sum ∣ lamE M := lcmF_dvd hm (by omega)
  have lp : 0 < lamE M := by
    have : 0 < lcmF ((M.map wd).map List.sum) := by
      have key : ∀ (l : List Int) (c : Nat), 0 < c → (∀ x ∈ l, 0 < x) → 0 < l.foldl (fun c x => Nat.lcm c x.natAbs) c := by
        intro l
        induction l with
        | nil => intro c hc _; exact hc
        | cons y l ih => intro c hc hl; exact ih _ (Nat.lcm_pos hc (by have := hl y List.mem_cons_self; omega)) fun x hx => hl x (List.mem_cons_of_mem _ hx)
      refine key _ 1 (by decide) fun x hx => ?_
      obtain ⟨p, hp, rfl⟩ := List.mem_map.mp hx
      obtain ⟨r', hr', rfl⟩ := List.mem_map.mp hp
      exact (h r' hr').wd.2.1
    unfold lamE
    omega
  have bp : 0 < lamE M / (wd r).sum := Int.ediv_pos_of_pos_of_dvd lp (Int.le_of_lt q2) hd
  have es : (evR M r).sum = lamE M := by
    unfold evR
    rw [sum_scale, Int.mul_comm, Int.ediv_mul_cancel hd]
  refine ⟨lp, by unfold evR wd; rw [List.length_map, List.length_map], fun x hx => ?_, es, (gcdF r : Nat), lamE M / (wd r).sum, by omega, bp, ?_, fun c => ?_⟩
  · unfold evR at hx
    obtain ⟨y, hy, rfl⟩ := List.mem_map.mp hx
    exact Int.mul_nonneg (q1 y hy) (Int.le_of_lt bp)
  · rw [es]
    obtain ⟨c, hc⟩ := hd
    rw [← q5, hc, Int.mul_ediv_cancel_left _ (by omega)]
    ac_rfl
  · unfold evR
    exact dot_scale r c (fun x hx => gcdF_dvd r x hx) (by omega)
theorem meanF_prop {B : Int} {ps : List Fr} {r r' : List Int} {g b : Int} (hB : 0 < B) (hr : 0 < r.sum) (hr' : 0 < r'.sum) (hg : 0 < g) (h1 : r'.sum * g = r.sum * b) (h2 : ∀ c, dot r' c * g = dot r c * b) : meanF B ps r' = meanF B ps r := by
  unfold meanF
  refine low_eq (Int.mul_pos hB hr') (Int.mul_pos hB hr) ?_
  have h2 := h2 (tops B ps)
  refine Int.eq_of_mul_eq_mul_right (a := g) (Int.ne_of_gt hg) ?_
  generalize dot r' (tops B ps) = u at *
  generalize dot r (tops B ps) = v at *
  generalize r'.sum = s' at *
  generalize r.sum = s at *
  grind
theorem dot_abs {K : Nat} : ∀ (m c : List Int), (∀ x ∈ m, 0 ≤ x) → (∀ y ∈ c, y.natAbs ≤ K) → (dot m c).natAbs ≤ m.sum.natAbs * K
  | [], c, _, _ => by rw [dot_nil]; exact Nat.zero_le _
  | x :: m, [], _, _ => by rw [dot_nil']; exact Nat.zero_le _
  | x :: m, y :: c, h, g => by
    rw [dot_cons, List.sum_cons]
    have ih := dot_abs m c (fun z hz => h z (List.mem_cons_of_mem _ hz)) (fun z hz => g z (List.mem_cons_of_mem _ hz))
    have hx := h x List.mem_cons_self
    have hs : 0 ≤ m.sum := by
      cases m with
      | nil => exact Int.le_refl 0
      | cons z m => exact (le_sum (x := z) (fun q hq => h q (List.mem_cons_of_mem _ hq)) List.mem_cons_self).2
    have e : (x * y).natAbs ≤ x.natAbs * K := by
      rw [Int.natAbs_mul]
      exact Nat.mul_le_mul_left _ (g y List.mem_cons_self)
    have e2 : (x + m.sum).natAbs = x.natAbs + m.sum.natAbs := by omega
    have := Int.natAbs_add_le (x * y) (dot m c)
    rw [e2, Nat.add_mul]
    omega
/-- what is drawn of means is right -/
theorem parts_later {n : Nat} {B S : Int} {ps : List Fr} {M : List (List Int)} (po : PartsOk B ps) (h : Rows n S M) (hb : B * S < 2 ^ 4000) : PartsOk (B * S) (M.map (meanF B ps)) := by
  have hB := po.p
  have hS := h.p
  have hBS := Int.mul_pos hB hS
  refine ⟨hBS, hb, fun f hf => ?_⟩
  obtain ⟨m, hm, rfl⟩ := List.mem_map.mp hf
  obtain ⟨q1, q2, q3⟩ := h.r m hm
  unfold meanF
  rw [q3]
  obtain ⟨o, e, d⟩ := low_ok (t := dot m (tops B ps)) hBS
  refine ⟨o, d, ?_⟩
  have db := dot_abs (K := 2 ^ 200 * B.natAbs) m (tops B ps) q2 fun y hy => by
    unfold tops at hy
    obtain ⟨f, hf, rfl⟩ := List.mem_map.mp hy
    obtain ⟨h1, h2, h3⟩ := po.f f hf
    exact top_bound hB h1 h2 h3
  rw [q3] at db
  generalize low (dot m (tops B ps)) (B * S) = f at *
  have e' : f.1.natAbs * (B * S).natAbs = (dot m (tops B ps)).natAbs * f.2.natAbs := by rw [← Int.natAbs_mul, ← Int.natAbs_mul, e]
  refine Nat.le_of_mul_le_mul_right (c := (B * S).natAbs) ?_ (by omega)
  rw [e']
  refine Nat.le_trans (Nat.mul_le_mul_right _ db) (Nat.le_of_eq ?_)
  rw [Int.natAbs_mul]
  ac_rfl
theorem tops_sum {n : Nat} {B B' S : Int} {ps : List Fr} : ∀ {M : List (List Int)} (_ : ∀ m ∈ M, m.sum = S) (_ : 0 < B) (_ : 0 < S) (_ : ∀ f ∈ M.map (meanF B ps), 0 < f.2 ∧ f.2 ∣ B') (x : List Int), dot x (tops B' (M.map (meanF B ps))) * (B * S) = B' * dot x (M.map fun m => dot m (tops B ps))
  | [], _, _, _, _, x => by
    show dot x [] * _ = _ * dot x []
    rw [dot_nil', Int.zero_mul, Int.mul_zero]
  | m :: M, h, hB, hS, hf, [] => by rw [dot_nil, dot_nil, Int.zero_mul, Int.mul_zero]
  | m :: M, h, hB, hS, hf, y :: x => by
    have ih := tops_sum (n := n) (B' := B') (ps := ps) (M := M) (fun q hq => h q (List.mem_cons_of_mem _ hq)) hB hS (fun q hq => hf q (List.mem_cons_of_mem _ hq)) x
    have e1 : tops B' ((m :: M).map (meanF B ps)) = (meanF B ps m).1 * (B' / (meanF B ps m).2) :: tops B' (M.map (meanF B ps)) := rfl
    rw [e1, List.map_cons, dot_cons, dot_cons]
    obtain ⟨fp, fd⟩ := hf (meanF B ps m) List.mem_cons_self
    have hm := h m List.mem_cons_self
    have e2 : (meanF B ps m).1 * (B * S) = dot m (tops B ps) * (meanF B ps m).2 := by
      unfold meanF
      rw [hm]
      exact (low_ok (Int.mul_pos hB hS)).2.1
    generalize meanF B ps m = f at *
    obtain ⟨c, rfl⟩ := fd
    rw [Int.mul_ediv_cancel_left _ (Int.ne_of_gt fp)]
    generalize dot x (tops (f.2 * c) (M.map (meanF B ps))) = u at *
    generalize dot x (M.map fun m => dot m (tops B ps)) = v at *
    generalize dot m (tops B ps) = t at *
    grind
/-- a day more -/
theorem day_more {n : Nat} {B B' S : Int} {ps : List Fr} {M w : List (List Int)} (hl : ps.length = n) (n6 : n ≤ 6) (hB : 0 < B) (h : Rows n S M) (hS : S < 2 ^ 2700) (po' : PartsOk B' (M.map (meanF B ps))) (ok : WayOk n w) :
    w.map (meanF B' (M.map (meanF B ps))) = (evM (mulM n w M)).map (meanF B ps) := by
  have hS0 := h.p
  have hg : ∀ r ∈ mulM n w M, RowG r := fun r hr => by
    unfold mulM at hr
    obtain ⟨x, hx, rfl⟩ := List.mem_map.mp hr
    obtain ⟨q1, q2, q3⟩ := mulR_ok h (ok.2 x hx)
    have rs := row_sum (ok.2 x hx) n6
    refine ⟨by omega, q2, by rw [q3]; exact Int.mul_pos rs.1 hS0, ?_⟩
    rw [q3]
    have e1 : (x.sum * S).natAbs < 2 ^ (33 + 2700) := mulB (by omega) (natAbs_lt (Int.le_of_lt hS0) hS)
    have e2 := upB e1 (show 33 + 2700 ≤ 3000 by decide)
    have e3 : ((2 : Int) ^ 3000) = ((2 ^ 3000 : Nat) : Int) := by rw [Int.natCast_pow]; rfl
    omega
  rw [evM_eq]
  unfold mulM
  rw [List.map_map, List.map_map]
  refine List.map_congr_left fun x hx => ?_
  show meanF B' (M.map (meanF B ps)) x = meanF B ps (evR (mulM n w M) (mulR n x M))
  have hr : mulR n x M ∈ mulM n w M := List.mem_map_of_mem hx
  obtain ⟨lp, _, _, es, g, b, g0, b0, h1, h2⟩ := evR_ok hg hr
  rw [meanF_prop hB (hg _ hr).s (by rw [es]; exact lp) g0 h1 h2]
  obtain ⟨q1, q2, q3⟩ := mulR_ok h (ok.2 x hx)
  have rs := row_sum (ok.2 x hx) n6
  have tl : (tops B ps).length = n := by unfold tops; rw [List.length_map, hl]
  have k1 := tops_sum (n := n) (B := B) (B' := B') (S := S) (ps := ps) (M := M) (fun m hm => (h.r m hm).2.2) hB hS0 (fun f hf => ⟨(po'.f f hf).1.p, (po'.f f hf).2.1⟩) x
  have k2 := dot_mulR h x tl
  have hrs := (hg _ hr).s
  unfold meanF
  unfold meanF at k1
  refine low_eq (Int.mul_pos po'.p rs.1) (Int.mul_pos hB hrs) ?_
  rw [q3, k2]
  generalize dot x (tops B' (M.map fun r => low (dot r (tops B ps)) (B * r.sum))) = u at *
  generalize dot x (M.map fun m => dot m (tops B ps)) = v at *
  generalize x.sum = s at *
  grind
theorem rows_more {n : Nat} {S : Int} {M w : List (List Int)} (n6 : n ≤ 6) (h : Rows n S M) (hS : S < 2 ^ 2700) (ok : WayOk n w) (n1 : 1 ≤ n) : ∃ S', Rows n S' (evM (mulM n w M)) ∧ S' ≤ S * 2 ^ 196 := by
  have hS0 := h.p
  have hg : ∀ r ∈ mulM n w M, RowG r ∧ r.sum ∣ lamW w * S := fun r hr => by
    unfold mulM at hr
    obtain ⟨x, hx, rfl⟩ := List.mem_map.mp hr
    obtain ⟨q1, q2, q3⟩ := mulR_ok h (ok.2 x hx)
    have rs := row_sum (ok.2 x hx) n6
    refine ⟨⟨by omega, q2, by rw [q3]; exact Int.mul_pos rs.1 hS0, ?_⟩, ?_⟩
    · rw [q3]
      have e1 : (x.sum * S).natAbs < 2 ^ (33 + 2700) := mulB (by omega) (natAbs_lt (Int.le_of_lt hS0) hS)
      have e2 := upB e1 (show 33 + 2700 ≤ 3000 by decide)
      have e3 : ((2 : Int) ^ 3000) = ((2 ^ 3000 : Nat) : Int) := by rw [Int.natCast_pow]; rfl
      omega
    · rw [q3]
      exact Int.mul_dvd_mul ((lamW_ok ok n6).2.2 x hx) (Int.dvd_refl S)
  obtain ⟨lp, lb, ld⟩ := lamW_ok ok n6
  have wne : 0 < (mulM n w M).length := by unfold mulM; rw [List.length_map, ok.1]; omega
  have hl0 := evR_ok (fun r hr => (hg r hr).1) (List.getElem_mem wne)
  refine ⟨lamE (mulM n w M), ⟨?_, fun r hr => ?_, hl0.1⟩, ?_⟩
  · rw [evM_eq, List.length_map]
    unfold mulM
    rw [List.length_map, ok.1]
  · rw [evM_eq] at hr
    obtain ⟨x, hx, rfl⟩ := List.mem_map.mp hr
    obtain ⟨_, e1, e2, e3, _⟩ := evR_ok (fun r hr => (hg r hr).1) hx
    refine ⟨?_, e2, e3⟩
    rw [e1]
    unfold mulM at hx
    obtain ⟨y, hy, rfl⟩ := List.mem_map.mp hx
    exact (mulR_ok h (ok.2 y hy)).1
  · have d := lcm_dvd (Bd := lamW w * S) (((mulM n w M).map wd).map List.sum) 1 (Nat.one_dvd _) fun x hx => by
      obtain ⟨p, hp, rfl⟩ := List.mem_map.mp hx
      obtain ⟨r, hr', rfl⟩ := List.mem_map.mp hp
      exact Int.dvd_trans (hg r hr').1.wd.2.2.2.1 (hg r hr').2
    have dI : lamE (mulM n w M) ∣ lamW w * S := Int.natAbs_dvd_natAbs.mp (by unfold lamE; rw [Int.natAbs_natCast]; exact d)
    have := Int.le_of_dvd (Int.mul_pos lp hS0) dI
    refine Int.le_trans this ?_
    rw [Int.mul_comm]
    exact Int.mul_le_mul_of_nonneg_left (Int.le_of_lt lb) (Int.le_of_lt hS0)
end M

namespace M
open PySem L2 U ZN
abbrev sIdx : Stmt := top 7
abbrev nIdx : List Str := ["value", "many"]
abbrev pIdx : List Str := ["value", "many"]
theorem scIdx : FnScope nIdx pIdx (defScope sIdx) := ⟨rfl, rfl, rfl, by decide +kernel, rfl, by decide +kernel, by decide +kernel⟩
def wAt (ws : List (List (List Int))) (q : Nat) : List (List Int) := (ws[q]?).getD []
def rowsF (n : Nat) (ws : List (List (List Int))) (road : List Nat) : List (List Int) := road.foldl (fun M q => evM (mulM n (wAt ws q) M)) (idM n)
def laterF (ws : List (List (List Int))) (ps : List Fr) (road : List Nat) : List Fr := road.foldl (fun p q => (wAt ws q).map (meanF (lcmB p) p)) ps
theorem rowsF_snoc (n : Nat) (ws : List (List (List Int))) (road : List Nat) (q : Nat) : rowsF n ws (road ++ [q]) = evM (mulM n (wAt ws q) (rowsF n ws road)) := by
  unfold rowsF
  rw [List.foldl_append]
  rfl
theorem laterF_snoc (ws : List (List (List Int))) (ps : List Fr) (road : List Nat) (q : Nat) : laterF ws ps (road ++ [q]) = (wAt ws q).map (meanF (lcmB (laterF ws ps road)) (laterF ws ps road)) := by
  unfold laterF
  rw [List.foldl_append]
  rfl
theorem dot_ones : ∀ (c : List Int), dot (List.replicate c.length 1) c = c.sum
  | [] => rfl
  | x :: c => by rw [List.length_cons, List.replicate_succ, dot_cons, dot_ones c, List.sum_cons, Int.one_mul]
theorem idM_rows {n : Nat} (n1 : 1 ≤ n) : Rows n 1 (idM n) := by
  refine ⟨by unfold idM; rw [List.length_map, List.length_range], fun r hr => ?_, by decide⟩
  unfold idM at hr
  obtain ⟨j, hj, rfl⟩ := List.mem_map.mp hr
  have l : (idRow n j).length = n := by unfold idRow; rw [List.length_map, List.length_range]
  refine ⟨l, fun x hx => ?_, ?_⟩
  · unfold idRow at hx
    obtain ⟨i, _, rfl⟩ := List.mem_map.mp hx
    split <;> decide
  · rw [← dot_ones, l]
    refine dot_idRow (by rw [List.length_replicate]) ?_
    rw [List.getElem?_replicate, if_pos (List.mem_range.mp hj)]
theorem dot_comm {n : Nat} {r c : List Int} (h : r.length = n) (g : c.length = n) : dot r c = dot c r := by
  rw [dot_range h g, dot_range g h]
  exact congrArg List.sum (List.map_congr_left fun j _ => Int.mul_comm _ _)
theorem mean_id {n : Nat} {B : Int} {ps : List Fr} (po : PartsOk B ps) (hl : ps.length = n) : (idM n).map (meanF B ps) = ps := by
  refine List.ext_getElem (by unfold idM; rw [List.length_map, List.length_map, List.length_range, hl]) fun j h1 h2 => ?_
  have e : (idM n)[j]'(by rw [List.length_map] at h1; exact h1) = idRow n j := by
    unfold idM
    rw [List.getElem_map, List.getElem_range]
  rw [List.getElem_map, e]
  have hj : j < n := by omega
  have l : (idRow n j).length = n := by unfold idRow; rw [List.length_map, List.length_range]
  have tl : (tops B ps).length = n := by unfold tops; rw [List.length_map, hl]
  obtain ⟨q1, q2, q3⟩ := (idM_rows (n := n) (by omega)).r (idRow n j) (by unfold idM; exact List.mem_map_of_mem (List.mem_range.mpr hj))
  have hp : ps[j]? = some ps[j] := List.getElem?_eq_getElem h2
  obtain ⟨o, d, _⟩ := po.f _ (List.mem_of_getElem? hp)
  have ht : (tops B ps)[j]? = some (ps[j].1 * (B / ps[j].2)) := by unfold tops; rw [List.getElem?_map, hp]; rfl
  unfold meanF
  rw [q3, dot_comm l tl, dot_idRow tl ht, Int.mul_one]
  rw [← low_self o]
  have hB := po.p
  have op := o.p
  rw [low_self o]
  have e2 : low (ps[j].1 * (B / ps[j].2)) B = low ps[j].1 ps[j].2 := by
    refine low_eq hB op ?_
    obtain ⟨c, hc⟩ := d
    rw [hc, Int.mul_ediv_cancel_left _ (Int.ne_of_gt op)]
    ac_rfl
  rw [e2, low_self o]
theorem road_ok {n : Nat} {B : Int} {ps : List Fr} {ws : List (List (List Int))} {road : List Nat} (po : PartsOk B ps) (hb : B < 2 ^ 1600) (hl : ps.length = n) (n1 : 1 ≤ n) (wo : WaysOk n ws) (r12 : road.length ≤ 12) (hq : ∀ q ∈ road, q < ws.length) : ∀ i, i ≤ road.length →
    ∃ S, Rows n S (rowsF n ws (road.take i)) ∧ S ≤ 2 ^ (196 * i) ∧ S < 2 ^ 2700 ∧ laterF ws ps (road.take i) = (rowsF n ws (road.take i)).map (meanF B ps) ∧ PartsOk (B * S) (laterF ws ps (road.take i)) := by
  have hB := po.p
  have fin : ∀ (i : Nat) (S : Int), i ≤ 12 → 0 < S → S ≤ 2 ^ (196 * i) → S < 2 ^ 2700 ∧ B * S < 2 ^ 4000 := fun i S hi h0 h => by
    have e1 : ((2 : Int) ^ (196 * i)) = ((2 ^ (196 * i) : Nat) : Int) := by rw [Int.natCast_pow]; rfl
    have e2 : (2 : Nat) ^ (196 * i) ≤ 2 ^ 2352 := Nat.pow_le_pow_right (by decide) (by omega)
    have hs : S.natAbs < 2 ^ 2353 := by
      refine Nat.lt_of_le_of_lt (m := 2 ^ 2352) ?_ (Nat.pow_lt_pow_right (by decide) (by decide))
      rw [e1] at h
      omega
    have m := mulB (natAbs_lt (Int.le_of_lt hB) hb) hs
    have m2 := upB m (show 1600 + 2353 ≤ 4000 by decide)
    have hs2 := upB hs (show 2353 ≤ 2700 by decide)
    have e3 : ((2 : Int) ^ 2700) = ((2 ^ 2700 : Nat) : Int) := by rw [Int.natCast_pow]; rfl
    have e4 : ((2 : Int) ^ 4000) = ((2 ^ 4000 : Nat) : Int) := by rw [Int.natCast_pow]; rfl
    have := Int.mul_pos hB h0
    exact ⟨by omega, by omega⟩
  intro i
  induction i with
  | zero =>
    intro _
    have e : laterF ws ps (road.take 0) = ps := rfl
    have e' : rowsF n ws (road.take 0) = idM n := rfl
    refine ⟨1, by rw [e']; exact idM_rows n1, by decide, by decide, by rw [e, e', mean_id po hl], by rw [e, Int.mul_one]; exact po⟩
  | succ i ih =>
    intro hi
    obtain ⟨S, h1, h2, h3, h4, h5⟩ := ih (by omega)
    have hz : road[i]? = some (road[i]'(by omega)) := List.getElem?_eq_getElem (by omega)
    generalize road[i]'(by omega) = q at hz
    have hql := hq q (List.mem_of_getElem? hz)
    have et : road.take (i + 1) = road.take i ++ [q] := by rw [List.take_succ, hz]; rfl
    have ew : wAt ws q = ws[q]'hql := by unfold wAt; rw [List.getElem?_eq_getElem hql]; rfl
    have ok : WayOk n (wAt ws q) := by rw [ew]; exact wo.way _ (List.getElem_mem hql)
    rw [et, rowsF_snoc, laterF_snoc]
    obtain ⟨S', r1, r2⟩ := rows_more wo.n6 h1 h3 ok n1
    have po' := (lcmB_ok h5).2
    have e := day_more (B' := lcmB (laterF ws ps (road.take i))) hl wo.n6 hB h1 h3 (by rw [← h4]; exact po') ok
    rw [← h4] at e
    have hS' : S' ≤ 2 ^ (196 * (i + 1)) := by
      refine Int.le_trans r2 ?_
      rw [Nat.mul_add, Nat.mul_one, Int.pow_add]
      exact Int.mul_le_mul_of_nonneg_right h2 (by decide)
    obtain ⟨f1, f2⟩ := fin (i + 1) S' (by omega) r1.p hS'
    refine ⟨S', r1, hS', f1, e, ?_⟩
    rw [e]
    exact parts_later po r1 f2
/-- a word -/
def spIdx : Sp := fun vs H Q _ => ∃ (i m : Int), vs = [.int i, .int m] ∧ Q (.bl (decide (0 ≤ i) && decide (i < m))) H
def spCkWd (C : Addr) : Sp := fun vs H Q _ => ∃ (a : Addr) (m wv v : V) (ms : List Str) (ws : List (List (List Int))) (q : List Nat), vs = [.ref a, v] ∧ CouncilAt C H a m wv ms ws ∧ Im H v (dWord q) ∧ q.length ≤ 12 ∧ (∀ i ∈ q, i < ws.length) ∧ ∀ H', Same H H' → Q .non H'
def spRAg (C : Addr) : Sp := fun vs H Q _ => ∃ (a : Addr) (m wv v : V) (ms : List Str) (ws : List (List (List Int))) (road : List Nat), vs = [.ref a, v] ∧ CouncilAt C H a m wv ms ws ∧ Im H v (dWord road) ∧ road.length ≤ 12 ∧ (∀ i ∈ road, i < ws.length) ∧
  ∀ (H' : Hp) (L : Addr) (us' : List V), Same H H' → H L = none → H' L = some (.lst us') → RL H' us' (rowsF ms.length ws road) → Q (.ref L) H'
def dFrs (ps : List Fr) : PyData := .tuple (ps.map dFr)
def spAft (C : Addr) : Sp := fun vs H Q _ => ∃ (a : Addr) (m wv tv v : V) (ms : List Str) (ws : List (List (List Int))) (ps : List Fr) (B : Int) (road : List Nat), vs = [.ref a, tv, v] ∧ CouncilAt C H a m wv ms ws ∧ Im H tv (dFrs ps) ∧ PartsOk B ps ∧ B < 2 ^ 1600 ∧ ps.length = ms.length ∧ Im H v (dWord road) ∧ road.length ≤ 12 ∧ (∀ i ∈ road, i < ws.length) ∧
  ∀ (H' : Hp) (p : Addr), Same H H' → H p = none → Im H' (.ref p) (dFrs (laterF ws ps road)) → Q (.ref p) H'
section
variable {P : Program} {w : World} {K : PySem.W.Frag} {mg : Str → Option Value} {base : Heap}
theorem ok_idx {f : Addr} {fd : FuncData} (F : Fun K "is_index" "is_index" sIdx f fd) (T : Bt mg) (DI : DInt P w K mg base) : FnOk P w K mg base CX0 3 f fd pIdx spIdx := by
  refine F.ok scIdx (fun vs H Q E h => ?_) (fun cdv A outer s H vs Q E hr h => ?_)
  · obtain ⟨i, m, rfl, _⟩ := h
    rfl
  · obtain ⟨i, m, rfl, k⟩ := h
    refine ⟨_, (pss_one (ps_ret (pe_and (pe_fn DI hr (by decide) (pa_cons (pv 0) pa_nil)) (pe_one (pe_chain op_le op_lt pe_int (pv 0) (pv 1)))))), ?_⟩
    exact ⟨_, rfl, .int i, _, true, false, rfl, .base (.int i), kit_ty (by decide +kernel), kit_ty (by decide +kernel), _, rfl, iteT ⟨_, rfl, _, _, rfl, rfl, _, rfl, ite2 (fun h => ⟨_, rfl, _, _, rfl, rfl, by rw [h, Bool.true_and] at k; exact k⟩) (fun h => by rw [Bool.eq_false_iff.mpr h, Bool.false_and] at k; exact k)⟩⟩
end
end M

namespace M
open PySem L2 U ZN
/-! ### the greatest of all differences -/
def stepG (a acc b : Int) : Int := if a - b > acc then a - b else acc
def rowG (l : List Int) (acc a : Int) : Int := l.foldl (stepG a) acc
def gapT (l : List Int) : Int := l.foldl (rowG l) 0
def IsGap (l : List Int) (g : Int) : Prop := 0 ≤ g ∧ (∀ a ∈ l, ∀ b ∈ l, a - b ≤ g) ∧ (g = 0 ∨ ∃ a ∈ l, ∃ b ∈ l, g = a - b)
theorem fold_in (a : Int) : ∀ (l : List Int) (acc : Int), acc ≤ rowG l acc a ∧ (∀ b ∈ l, a - b ≤ rowG l acc a) ∧ (rowG l acc a = acc ∨ ∃ b ∈ l, rowG l acc a = a - b)
  | [], acc => ⟨Int.le_refl _, (fun b hb => by cases hb), .inl rfl⟩
  | c :: l, acc => by
    obtain ⟨h1, h2, h3⟩ := fold_in a l (stepG a acc c)
    have e : acc ≤ stepG a acc c ∧ a - c ≤ stepG a acc c ∧ (stepG a acc c = acc ∨ stepG a acc c = a - c) := by
      unfold stepG
      by_cases q : a - c > acc
      · rw [if_pos q]; exact ⟨by omega, by omega, .inr rfl⟩
      · rw [if_neg q]; exact ⟨by omega, by omega, .inl rfl⟩
    have e2 : rowG (c :: l) acc a = rowG l (stepG a acc c) a := rfl
    rw [e2]
    refine ⟨by omega, fun b hb => ?_, ?_⟩
    · rcases List.mem_cons.mp hb with rfl | hb
      · omega
      · exact h2 b hb
    · rcases h3 with h | ⟨b, hb, h⟩
      · rcases e.2.2 with e | e
        · exact .inl (h.trans e)
        · exact .inr ⟨c, List.mem_cons_self, h.trans e⟩
      · exact .inr ⟨b, List.mem_cons_of_mem _ hb, h⟩
theorem fold_out (l : List Int) : ∀ (s : List Int) (acc : Int), acc ≤ s.foldl (rowG l) acc ∧ (∀ a ∈ s, ∀ b ∈ l, a - b ≤ s.foldl (rowG l) acc) ∧ (s.foldl (rowG l) acc = acc ∨ ∃ a ∈ s, ∃ b ∈ l, s.foldl (rowG l) acc = a - b)
  | [], acc => ⟨Int.le_refl _, (fun b hb => by cases hb), .inl rfl⟩
  | c :: s, acc => by
    obtain ⟨h1, h2, h3⟩ := fold_out l s (rowG l acc c)
    obtain ⟨g1, g2, g3⟩ := fold_in c l acc
    rw [List.foldl_cons]
    refine ⟨by omega, fun a ha b hb => ?_, ?_⟩
    · rcases List.mem_cons.mp ha with rfl | ha
      · have := g2 b hb; omega
      · exact h2 a ha b hb
    · rcases h3 with h | ⟨a, ha, b, hb, h⟩
      · rcases g3 with e | ⟨b, hb, e⟩
        · exact .inl (h.trans e)
        · exact .inr ⟨c, List.mem_cons_self, b, hb, h.trans e⟩
      · exact .inr ⟨a, List.mem_cons_of_mem _ ha, b, hb, h⟩
theorem gap_is (l : List Int) : IsGap l (gapT l) := fold_out l l 0
theorem gap_one {l : List Int} {g g' : Int} (h : IsGap l g) (h' : IsGap l g') : g = g' := by
  obtain ⟨a1, a2, a3⟩ := h
  obtain ⟨b1, b2, b3⟩ := h'
  have l1 : g ≤ g' := by
    rcases a3 with h | ⟨a, ha, b, hb, h⟩
    · omega
    · have := b2 a ha b hb; omega
  have l2 : g' ≤ g := by
    rcases b3 with h | ⟨a, ha, b, hb, h⟩
    · omega
    · have := a2 a ha b hb; omega
  omega
theorem gap_max {l : List Int} {m k : Int} (hm : m ∈ l) (hM : ∀ y ∈ l, y ≤ m) (hk : k ∈ l) (hK : ∀ y ∈ l, k ≤ y) : gapT l = m - k :=
  gap_one (gap_is l) ⟨by have := hM k hk; omega, fun a ha b hb => by have := hM a ha; have := hK b hb; omega, .inr ⟨m, hm, k, hk, rfl⟩⟩
theorem gap_rev (l : List Int) : gapT l.reverse = gapT l := by
  obtain ⟨a1, a2, a3⟩ := gap_is l
  refine gap_one (gap_is _) ⟨a1, fun a ha b hb => a2 a (List.mem_reverse.mp ha) b (List.mem_reverse.mp hb), ?_⟩
  rcases a3 with h | ⟨a, ha, b, hb, h⟩
  · exact .inl h
  · exact .inr ⟨a, List.mem_reverse.mpr ha, b, List.mem_reverse.mpr hb, h⟩
theorem gap_map {l : List Int} {c d : Int} (hc : 0 ≤ c) : gapT (l.map fun x => x * c + d) = gapT l * c := by
  obtain ⟨a1, a2, a3⟩ := gap_is l
  refine gap_one (gap_is _) ⟨Int.mul_nonneg a1 hc, fun a ha b hb => ?_, ?_⟩
  · obtain ⟨x, hx, rfl⟩ := List.mem_map.mp ha
    obtain ⟨y, hy, rfl⟩ := List.mem_map.mp hb
    have := Int.mul_le_mul_of_nonneg_right (a2 x hx y hy) hc
    rw [Int.sub_mul] at this
    omega
  · rcases a3 with h | ⟨a, ha, b, hb, h⟩
    · exact .inl (by rw [h, Int.zero_mul])
    · exact .inr ⟨_, List.mem_map_of_mem ha, _, List.mem_map_of_mem hb, by rw [h, Int.sub_mul]; omega⟩
theorem gap_zero {l : List Int} : gapT l = 0 ↔ ∀ a ∈ l, ∀ b ∈ l, a = b := by
  obtain ⟨a1, a2, a3⟩ := gap_is l
  constructor
  · intro h a ha b hb
    have := a2 a ha b hb
    have := a2 b hb a ha
    omega
  · intro h
    exact gap_one (gap_is l) ⟨Int.le_refl _, fun a ha b hb => by rw [h a ha b hb]; omega, .inl rfl⟩
theorem gap_le {l : List Int} {M : Nat} (h : ∀ x ∈ l, x.natAbs ≤ M) : (gapT l).natAbs ≤ 2 * M := by
  obtain ⟨a1, a2, a3⟩ := gap_is l
  rcases a3 with e | ⟨a, ha, b, hb, e⟩
  · rw [e]; exact Nat.zero_le _
  · have := h a ha
    have := h b hb
    omega
/-! ### spreads -/
def sprF (B : Int) (ps : List Fr) : Fr := low (gapT (tops B ps)) B
theorem tops_mul {B C : Int} {ps : List Fr} (po : PartsOk B ps) : tops (B * C) ps = (tops B ps).map fun x => x * C + 0 := by
  unfold tops
  rw [List.map_map]
  refine List.map_congr_left fun f hf => ?_
  obtain ⟨o, ⟨c, hc⟩, _⟩ := po.f f hf
  have op := o.p
  show f.1 * (B * C / f.2) = f.1 * (B / f.2) * C + 0
  rw [hc, Int.mul_assoc, Int.mul_ediv_cancel_left _ (Int.ne_of_gt op), Int.mul_ediv_cancel_left _ (Int.ne_of_gt op), Int.add_zero, Int.mul_assoc]
theorem spr_mul {B C : Int} {ps : List Fr} (po : PartsOk B ps) (hC : 0 < C) : sprF (B * C) ps = sprF B ps := by
  have hB := po.p
  unfold sprF
  rw [tops_mul po, gap_map (Int.le_of_lt hC)]
  exact low_eq (Int.mul_pos hB hC) hB (by ac_rfl)
theorem spr_same {B B' : Int} {ps : List Fr} (po : PartsOk B ps) (po' : PartsOk B' ps) : sprF B ps = sprF B' ps := by
  rw [← spr_mul po po'.p, Int.mul_comm, spr_mul po' po.p]
theorem spr_rev {B : Int} (ps : List Fr) : sprF B ps.reverse = sprF B ps := by
  unfold sprF tops
  rw [List.map_reverse, gap_rev]
theorem low_gt {x y B : Int} (hB : 0 < B) : ((low y B).1 * (low x B).2 < (low x B).1 * (low y B).2) ↔ y < x := by
  obtain ⟨o1, r1, _⟩ := low_ok (t := x) hB
  obtain ⟨o2, r2, _⟩ := low_ok (t := y) hB
  have p1 := o1.p
  have p2 := o2.p
  generalize low x B = f at *
  generalize low y B = g at *
  have e1 : (g.1 * f.2) * B = y * (g.2 * f.2) := by
    calc (g.1 * f.2) * B = (g.1 * B) * f.2 := by ac_rfl
      _ = y * g.2 * f.2 := by rw [r2]
      _ = y * (g.2 * f.2) := by ac_rfl
  have e2 : (f.1 * g.2) * B = x * (g.2 * f.2) := by
    calc (f.1 * g.2) * B = (f.1 * B) * g.2 := by ac_rfl
      _ = x * f.2 * g.2 := by rw [r1]
      _ = x * (g.2 * f.2) := by ac_rfl
  have pp := Int.mul_pos p2 p1
  constructor
  · intro h
    have := Int.mul_lt_mul_of_pos_right h hB
    rw [e1, e2] at this
    exact Int.lt_of_mul_lt_mul_right this (Int.le_of_lt pp)
  · intro h
    have := Int.mul_lt_mul_of_pos_right h pp
    rw [← e1, ← e2] at this
    exact Int.lt_of_mul_lt_mul_right this (Int.le_of_lt hB)
theorem low_diff {B : Int} {f g : Fr} (hB : 0 < B) (hf : 0 < f.2) (hg : 0 < g.2) (df : f.2 ∣ B) (dg : g.2 ∣ B) : low (f.1 * g.2 - g.1 * f.2) (f.2 * g.2) = low (f.1 * (B / f.2) - g.1 * (B / g.2)) B := by
  refine low_eq (Int.mul_pos hf hg) hB ?_
  obtain ⟨c, hc⟩ := df
  obtain ⟨d, hd⟩ := dg
  have e1 : B / f.2 = c := by rw [hc]; exact Int.mul_ediv_cancel_left _ (Int.ne_of_gt hf)
  have e2 : B / g.2 = d := by rw [hd]; exact Int.mul_ediv_cancel_left _ (Int.ne_of_gt hg)
  rw [e1, e2]
  have h1 : f.1 * g.2 * B = f.1 * c * (f.2 * g.2) := by rw [hc]; ac_rfl
  have h2 : g.1 * f.2 * B = g.1 * d * (f.2 * g.2) := by rw [hd]; ac_rfl
  rw [Int.sub_mul, Int.sub_mul, h1, h2]
theorem low_zero {x B : Int} (hB : 0 < B) : low x B = (0, 1) ↔ x = 0 := by
  obtain ⟨o, r, _⟩ := low_ok (t := x) hB
  constructor
  · intro h
    rw [h] at r
    have r : (0 : Int) * B = x * 1 := r
    omega
  · intro h
    subst h
    refine fr_eq o ⟨(by decide : (0 : Int) < 1), rfl⟩ ?_
    show (low 0 B).1 * 1 = 0 * (low 0 B).2
    have hz : (low 0 B).1 * B = 0 := by rw [r, Int.zero_mul]
    rcases Int.mul_eq_zero.mp hz with h | h
    · rw [h, Int.zero_mul, Int.zero_mul]
    · omega
/-- the spread is 0 exactly if all are the same -/
theorem spr_zero {B : Int} {ps : List Fr} (po : PartsOk B ps) : sprF B ps = (0, 1) ↔ ∀ f ∈ ps, ∀ g ∈ ps, f = g := by
  have hB := po.p
  unfold sprF
  rw [low_zero hB, gap_zero]
  unfold tops
  constructor
  · intro h f hf g hg
    have e := h _ (List.mem_map_of_mem hf) _ (List.mem_map_of_mem hg)
    obtain ⟨o1, ⟨c, hc⟩, _⟩ := po.f f hf
    obtain ⟨o2, ⟨d, hd⟩, _⟩ := po.f g hg
    have e1 : B / f.2 = c := by rw [hc]; exact Int.mul_ediv_cancel_left _ (Int.ne_of_gt o1.p)
    have e2 : B / g.2 = d := by rw [hd]; exact Int.mul_ediv_cancel_left _ (Int.ne_of_gt o2.p)
    refine fr_eq o1 o2 ?_
    have e : f.1 * c = g.1 * d := by rw [← e1, ← e2]; exact e
    refine Int.eq_of_mul_eq_mul_right (a := B) (by omega) ?_
    have h1 : f.1 * g.2 * B = f.1 * c * (f.2 * g.2) := by rw [hc]; ac_rfl
    have h2 : g.1 * f.2 * B = g.1 * d * (f.2 * g.2) := by rw [hd]; ac_rfl
    rw [h1, h2, e]
  · rintro h a ha b hb
    obtain ⟨f, hf, rfl⟩ := List.mem_map.mp ha
    obtain ⟨g, hg, rfl⟩ := List.mem_map.mp hb
    rw [h f hf g hg]
/-- so much more -/
def movF (y f : Fr) : Fr := low (f.1 * y.2 + y.1 * f.2) (f.2 * y.2)
/-- so many times -/
def timF (y f : Fr) : Fr := low (f.1 * y.1) (f.2 * y.2)
theorem top_low {x y B S : Int} (hy : 0 < y) (hd : y ∣ B) (h : x * B = S * y) : (low x y).2 ∣ B ∧ (low x y).1 * (B / (low x y).2) = S := by
  obtain ⟨o, r, d⟩ := low_ok (t := x) hy
  have op := o.p
  have d2 := Int.dvd_trans d hd
  refine ⟨d2, ?_⟩
  obtain ⟨c, hc⟩ := d2
  generalize low x y = f at *
  have e1 : B / f.2 = c := by rw [hc]; exact Int.mul_ediv_cancel_left _ (Int.ne_of_gt op)
  rw [e1]
  refine Int.eq_of_mul_eq_mul_right (a := f.2 * y) (Int.ne_of_gt (Int.mul_pos op hy)) ?_
  calc f.1 * c * (f.2 * y) = (f.1 * y) * (f.2 * c) := by ac_rfl
    _ = (x * f.2) * B := by rw [r, ← hc]
    _ = (x * B) * f.2 := by ac_rfl
    _ = S * y * f.2 := by rw [h]
    _ = S * (f.2 * y) := by ac_rfl
theorem low_nat {x y : Int} {M : Nat} (hy : 0 < y) (h : x.natAbs ≤ M * y.natAbs) : (low x y).1.natAbs ≤ M * (low x y).2.natAbs := by
  obtain ⟨o, r, _⟩ := low_ok (t := x) hy
  have e : (low x y).1.natAbs * y.natAbs = x.natAbs * (low x y).2.natAbs := by rw [← Int.natAbs_mul, ← Int.natAbs_mul, r]
  refine Nat.le_of_mul_le_mul_right (c := y.natAbs) ?_ (by omega)
  rw [e]
  have := Nat.mul_le_mul_right (low x y).2.natAbs h
  calc x.natAbs * (low x y).2.natAbs ≤ M * y.natAbs * (low x y).2.natAbs := this
    _ = M * (low x y).2.natAbs * y.natAbs := by ac_rfl
/-- thoughts that are small enough to be moved -/
def Small (B : Int) (ps : List Fr) : Prop := 0 < B ∧ B < 2 ^ 1000 ∧ ∀ f ∈ ps, FrOk f ∧ f.2 ∣ B ∧ f.1.natAbs ≤ 2 ^ 110 * f.2.natAbs
theorem pow_up {B : Int} {a b : Nat} (h : B < 2 ^ a) (hab : a ≤ b) : B < 2 ^ b := by
  have e : ((2 : Int) ^ a) = ((2 ^ a : Nat) : Int) := by rw [Int.natCast_pow]; rfl
  have e2 : ((2 : Int) ^ b) = ((2 ^ b : Nat) : Int) := by rw [Int.natCast_pow]; rfl
  have := Nat.pow_le_pow_right (n := 2) (by decide) hab
  omega
theorem Small.parts {B : Int} {ps : List Fr} (h : Small B ps) : PartsOk B ps :=
  ⟨h.1, pow_up h.2.1 (by decide), fun f hf => ⟨(h.2.2 f hf).1, (h.2.2 f hf).2.1, Nat.le_trans (h.2.2 f hf).2.2 (Nat.mul_le_mul_right _ (Nat.pow_le_pow_right (by decide) (by decide)))⟩⟩
theorem mov_ok {B : Int} {ps : List Fr} {y : Fr} (h : Small B ps) (y1 : 1 ≤ y.1) (y9 : y.1 ≤ 9) (z1 : 1 ≤ y.2) (z4 : y.2 ≤ 4) : PartsOk (B * y.2) (ps.map (movF y)) ∧ sprF (B * y.2) (ps.map (movF y)) = sprF B ps := by
  have hB := h.1
  have hBy := Int.mul_pos hB (show 0 < y.2 by omega)
  have key : ∀ f ∈ ps, (movF y f).2 ∣ B * y.2 ∧ (movF y f).1 * (B * y.2 / (movF y f).2) = f.1 * (B / f.2) * y.2 + y.1 * B := fun f hf => by
    obtain ⟨o, ⟨c, hc⟩, _⟩ := h.2.2 f hf
    have op := o.p
    have e1 : B / f.2 = c := by rw [hc]; exact Int.mul_ediv_cancel_left _ (Int.ne_of_gt op)
    refine top_low (Int.mul_pos op (by omega)) (Int.mul_dvd_mul ⟨c, hc⟩ (Int.dvd_refl _)) ?_
    rw [e1, hc]
    generalize f.1 = p at *
    generalize f.2 = q at *
    grind
  refine ⟨⟨hBy, ?_, fun g hg => ?_⟩, ?_⟩
  · have := Int.mul_le_mul_of_nonneg_left z4 (Int.le_of_lt hB)
    have h1 := h.2.1
    have e : (2 : Int) ^ 1000 * 4 ≤ 2 ^ 4000 := by decide
    omega
  · obtain ⟨f, hf, rfl⟩ := List.mem_map.mp hg
    obtain ⟨o, d, b⟩ := h.2.2 f hf
    have op := o.p
    have hp := Int.mul_pos op (show 0 < y.2 by omega)
    refine ⟨(low_ok hp).1, (key f hf).1, low_nat hp ?_⟩
    rw [Int.natAbs_mul]
    have a1 := Int.natAbs_add_le (f.1 * y.2) (y.1 * f.2)
    rw [Int.natAbs_mul, Int.natAbs_mul] at a1
    have a2 : f.1.natAbs * y.2.natAbs ≤ 2 ^ 110 * f.2.natAbs * 4 := Nat.mul_le_mul b (by omega)
    have a3 : y.1.natAbs * f.2.natAbs ≤ 9 * f.2.natAbs := Nat.mul_le_mul_right _ (by omega)
    have a4 : f.2.natAbs * 1 ≤ f.2.natAbs * y.2.natAbs := Nat.mul_le_mul_left _ (by omega)
    have a5 : 2 ^ 200 * (f.2.natAbs * 1) ≤ 2 ^ 200 * (f.2.natAbs * y.2.natAbs) := Nat.mul_le_mul_left _ a4
    have e6 : (2 : Nat) ^ 110 * 4 + 9 ≤ 2 ^ 200 := by decide
    have a6 : (2 ^ 110 * 4 + 9) * f.2.natAbs ≤ 2 ^ 200 * f.2.natAbs := Nat.mul_le_mul_right _ e6
    rw [Nat.add_mul] at a6
    have e7 : 2 ^ 110 * f.2.natAbs * 4 = 2 ^ 110 * 4 * f.2.natAbs := by ac_rfl
    omega
  · unfold sprF
    have e : tops (B * y.2) (ps.map (movF y)) = (tops B ps).map fun x => x * y.2 + y.1 * B := by
      unfold tops
      rw [List.map_map, List.map_map]
      exact List.map_congr_left fun f hf => (key f hf).2
    rw [e, gap_map (by omega)]
    exact low_eq hBy hB (by ac_rfl)
theorem tim_ok {B : Int} {ps : List Fr} {y : Fr} (h : Small B ps) (y1 : 1 ≤ y.1) (y9 : y.1 ≤ 9) (z1 : 1 ≤ y.2) (z4 : y.2 ≤ 4) : PartsOk (B * y.2) (ps.map (timF y)) ∧ sprF (B * y.2) (ps.map (timF y)) = timF y (sprF B ps) := by
  have hB := h.1
  have hBy := Int.mul_pos hB (show 0 < y.2 by omega)
  have key : ∀ f ∈ ps, (timF y f).2 ∣ B * y.2 ∧ (timF y f).1 * (B * y.2 / (timF y f).2) = f.1 * (B / f.2) * y.1 + 0 := fun f hf => by
    obtain ⟨o, ⟨c, hc⟩, _⟩ := h.2.2 f hf
    have op := o.p
    have e1 : B / f.2 = c := by rw [hc]; exact Int.mul_ediv_cancel_left _ (Int.ne_of_gt op)
    refine top_low (Int.mul_pos op (by omega)) (Int.mul_dvd_mul ⟨c, hc⟩ (Int.dvd_refl _)) ?_
    rw [e1, hc, Int.add_zero]
    ac_rfl
  refine ⟨⟨hBy, ?_, fun g hg => ?_⟩, ?_⟩
  · have := Int.mul_le_mul_of_nonneg_left z4 (Int.le_of_lt hB)
    have h1 := h.2.1
    have e : (2 : Int) ^ 1000 * 4 ≤ 2 ^ 4000 := by decide
    omega
  · obtain ⟨f, hf, rfl⟩ := List.mem_map.mp hg
    obtain ⟨o, d, b⟩ := h.2.2 f hf
    have op := o.p
    have hp := Int.mul_pos op (show 0 < y.2 by omega)
    refine ⟨(low_ok hp).1, (key f hf).1, low_nat hp ?_⟩
    rw [Int.natAbs_mul, Int.natAbs_mul]
    have a2 : f.1.natAbs * y.1.natAbs ≤ 2 ^ 110 * f.2.natAbs * 9 := Nat.mul_le_mul b (by omega)
    have a4 : f.2.natAbs * 1 ≤ f.2.natAbs * y.2.natAbs := Nat.mul_le_mul_left _ (by omega)
    have a5 : 2 ^ 200 * (f.2.natAbs * 1) ≤ 2 ^ 200 * (f.2.natAbs * y.2.natAbs) := Nat.mul_le_mul_left _ a4
    have e6 : (2 : Nat) ^ 110 * 9 ≤ 2 ^ 200 := by decide
    have a6 : (2 ^ 110 * 9) * f.2.natAbs ≤ 2 ^ 200 * f.2.natAbs := Nat.mul_le_mul_right _ e6
    have e7 : 2 ^ 110 * f.2.natAbs * 9 = 2 ^ 110 * 9 * f.2.natAbs := by ac_rfl
    omega
  · have e : tops (B * y.2) (ps.map (timF y)) = (tops B ps).map fun x => x * y.1 + 0 := by
      unfold tops
      rw [List.map_map, List.map_map]
      exact List.map_congr_left fun f hf => (key f hf).2
    obtain ⟨o, r, _⟩ := low_ok (t := gapT (tops B ps)) hB
    unfold sprF
    rw [e, gap_map (by omega)]
    show _ = low ((low (gapT (tops B ps)) B).1 * y.1) ((low (gapT (tops B ps)) B).2 * y.2)
    refine low_eq hBy (Int.mul_pos o.p (by omega)) ?_
    generalize low (gapT (tops B ps)) B = f at *
    calc gapT (tops B ps) * y.1 * (f.2 * y.2) = (gapT (tops B ps) * f.2) * (y.1 * y.2) := by ac_rfl
      _ = (f.1 * B) * (y.1 * y.2) := by rw [r]
      _ = f.1 * y.1 * (B * y.2) := by ac_rfl
end M

namespace ZN
open PySem PySem.Spec PyProof.Rows L2 U
/-! ### max(t), t a tuple of ints -/
theorem ints_at : ∀ {us : List Value} {ns : List Int} {i : Nat} {v : Value}, IntsAre us ns → us[i]? = some v → ∃ t, v = .int ((ns[i]?).getD 0) t := by
  intro us
  induction us with
  | nil => intro ns i v _ e; simp at e
  | cons u us ih =>
    intro ns i v h e
    cases h with
    | cons =>
      cases i with
      | zero =>
        rw [List.getElem?_cons_zero] at e
        cases e
        exact ⟨_, rfl⟩
      | succ i =>
        rw [List.getElem?_cons_succ] at e
        rw [List.getElem?_cons_succ]
        exact ih (by assumption) e
section
variable {prog : Program} {w : World} {A : Around} {E : Value → Shared → Prop} {s : Shared}
theorem max_tup {l : Addr} {us : List Value} {ns : List Int} {Q : Value → Shared → Prop} (hA : A.handled = none) (ht : s.heap.IsTuple l us.toArray) (hi : IntsAre us ns) (h0 : 0 < ns.length)
    (h : ∀ h' tk m t, (∀ b o, s.heap.get? b = some o → h'.get? b = some o) → m ∈ ns → (∀ y ∈ ns, y ≤ m) → Q (.int m t) { s with heap := h', toks := tk }) : wpAny (model prog w) A (call (.builtin "max") [.ref l]) Q E s := by
  have sz : us.length = ns.length := hi.length
  have lS : l < s.heap.objs.size := by
    have ⟨_, e, _⟩ := ht
    exact Heap.lt_size e
  obtain ⟨b1, b2⟩ := argBest_gt (fun i => (ns[i]?).getD 0) (us.toArray.size - 1)
  have in0 : ∀ j, j < ns.length → (ns[j]?).getD 0 ∈ ns := fun j hj => by
    rw [List.getElem?_eq_getElem hj]
    exact List.getElem_mem hj
  have sz2 : us.toArray.size = ns.length := by rw [List.size_toArray, sz]
  refine call_max_walk (wpAny_pyIter_tuple ht ⟨_, _, _, _, _, _, _, rfl, Walks.tuple (A := A.in1) hA _ l (Nat.ne_of_lt lS) us.toArray, ⟨⟨_, Heap.get?_push_size _ rfl, rfl, rfl⟩, ht.push _⟩, fun b hb => ?_, by omega,
    CmpOf.ints_gt (fun i => (ns[i]?).getD 0) (fun i v hv => ints_at hi (by rw [← List.getElem?_toArray]; exact hv)), fun v h' tk hv hk => ?_⟩)
  · show b < (s.heap.push _).objs.size
    rw [Heap.size_push]
    simp only [List.mem_cons, List.not_mem_nil, or_false] at hb
    rcases hb with rfl | rfl
    · exact Nat.lt_add_one _
    · exact Nat.lt_add_right 1 lS
  · obtain ⟨t, rfl⟩ := ints_at hi (by rw [← List.getElem?_toArray]; exact hv)
    refine h h' tk _ t (fun b o e => hk b o (fun hm => ?_) (Heap.get?_push_of_some _ e)) (in0 _ (by omega)) fun y hy => ?_
    · rw [List.mem_singleton.mp hm] at e
      exact Nat.lt_irrefl _ (Heap.lt_size e)
    · obtain ⟨j, hj, rfl⟩ := List.getElem_of_mem hy
      have := b2 j (by omega)
      rw [List.getElem?_eq_getElem hj] at this
      exact this
end
section
variable {X : Cx}
def rMaxT (K : PySem.W.Frag) : List V → Hp → VK → Prop := fun vs H Q => ∃ (a : Addr) (ns : List Int), vs = [V.ref a] ∧ SqT K H a (ns.map V.int) ∧ 0 < ns.length ∧ ∀ m, m ∈ ns → (∀ y, y ∈ ns → y ≤ m) → Q (.int m) H
theorem cr_maxT (hc : X.calm = true) : CallR X (.builtin "max") (rMaxT X.K) := by
  intro pins s σ H vs us Q I r h
  obtain ⟨a, ns, rfl, ht, h0, q⟩ := h
  obtain ⟨its, rv, hl, _⟩ := I.tuple ht
  rw [Vals.ref1 r]
  exact max_tup (I.ok.hd hc) hl rv.ints h0 fun h' tk m t hk h1 h2 => ⟨.int m, H, I.kept hk, ⟨t, rfl⟩, q m h1 h2⟩
end
end ZN

namespace M
open PySem L2 U ZN
abbrev sSpO : Stmt := top 40
abbrev nSpO : List Str := ["thoughts", "tops", "bottom"]
abbrev pSpO : List Str := ["thoughts"]
theorem scSpO : FnScope nSpO pSpO (defScope sSpO) := ⟨rfl, rfl, rfl, by decide +kernel, rfl, by decide +kernel, by decide +kernel⟩
def spSpr : Sp := fun vs H Q _ => ∃ (v : V) (B : Int) (ps : List Fr), vs = [v] ∧ Im H v (dFrs ps) ∧ PartsOk B ps ∧ 1 ≤ ps.length ∧ ps.length ≤ 100 ∧ ∀ (H' : Hp) (p : Addr), Same H H' → H p = none → Im H' (.ref p) (dFr (sprF B ps)) → Q (.ref p) H'
section
variable {P : Program} {w : World} {K : PySem.W.Frag} {mg : Str → Option Value} {base : Heap}
theorem ok_spo {f : Addr} {fd : FuncData} (F : Fun K "spread_of" "spread_of" sSpO f fd) (T : Bt mg) (DO : DefX P w K mg base 1 "over_one_bottom" pOob spOob) (DL : DefX P w K mg base 1 "lowest" pLws spLws) : FnOk P w K mg base CX0 3 f fd pSpO spSpr := by
  refine F.ok scSpO (fun vs H Q E h => ?_) (fun cdv A outer s H vs Q E hr h => ?_)
  · obtain ⟨v, B, ps, rfl, _⟩ := h
    rfl
  · obtain ⟨v, B, ps, rfl, iv, po, p1, p100, k⟩ := h
    refine ⟨_, (pss_cons (ps_asg (pe_fn DO hr (by decide) (pa_cons (pv 0) pa_nil)) (pg_tup (by rfl) (pgs_cons (pg_name (i := 1) scSpO.nd rfl (Or.inl rfl)) (pgs_cons (pg_name (i := 2) scSpO.nd rfl (Or.inl rfl)) pgs_nil))))
      (pss_one (ps_ret (pe_fn DL hr (by decide) (pa_cons (pe_op op_sub (pe_callB (cr_max rfl) (by rfl) T.max (by decide +kernel) (pa_cons (pv 1) pa_nil)) (pe_callB (cr_min rfl) (by rfl) T.min (by decide +kernel) (pa_cons (pv 1) pa_nil))) (pa_cons (pv 2) pa_nil)))))), ?_⟩
    have lo := (lcmB_ok po).2
    have lb := natB lo.p lo.b
    have tl : (tops (lcmB ps) ps).length = ps.length := by unfold tops; rw [List.length_map]
    refine ⟨_, rfl, v, ps, B, rfl, iv, po, p100, fun H1 q1 L1 s1 n1 h1 hL1 => ?_⟩
    refine ⟨q1, _, rfl, SqT.of h1, rfl, _, _, rfl, _, _, rfl, rfl, ?_⟩
    refine ⟨_, rfl, L1, _, rfl, SqL.of hL1, by rw [tl]; omega, fun m hm hM => ?_⟩
    refine ⟨_, rfl, L1, _, rfl, SqL.of hL1, by rw [tl]; omega, fun z hz hZ => ?_⟩
    refine ⟨_, _, rfl, rfl, _, rfl, _, _, rfl, lo.p, Nat.lt_of_lt_of_le (lg lb (by decide)) (by decide), fun H2 p2 s2 n2 im2 => ?_⟩
    rw [← gap_max hm hM hz hZ] at im2
    refine k H2 p2 (s1.trans s2) (s1.free n2) ?_
    rw [spr_same po lo]
    exact im2
end
end M

namespace M
open PySem L2 U ZN
abbrev sMoo : Stmt := top 53
abbrev nMoo : List Str := ["_law_jar", "_law_top"]
abbrev pMoo : List Str := ["_law_jar"]
theorem scMoo : FnScope nMoo pMoo (defScope sMoo) := ⟨rfl, rfl, rfl, by decide +kernel, rfl, by decide +kernel, by decide +kernel⟩
abbrev sPlu : Stmt := top 54
abbrev nPlu : List Str := ["_law_one", "_law_other"]
abbrev pPlu : List Str := ["_law_one", "_law_other"]
theorem scPlu : FnScope nPlu pPlu (defScope sPlu) := ⟨rfl, rfl, rfl, by decide +kernel, rfl, by decide +kernel, by decide +kernel⟩
abbrev sLes : Stmt := top 57
abbrev nLes : List Str := ["_law_one", "_law_other"]
abbrev pLes : List Str := ["_law_one", "_law_other"]
theorem scLes : FnScope nLes pLes (defScope sLes) := ⟨rfl, rfl, rfl, by decide +kernel, rfl, by decide +kernel, by decide +kernel⟩
/-- a day -/
def dayF (w : List (List Int)) (ps : List Fr) : List Fr := w.map (meanF (lcmB ps) ps)
def spMnW : Sp := fun vs H Q _ => ∃ (v bv : V) (n : Nat) (w : List (List Int)) (ps : List Fr) (B : Int), vs = [v, bv] ∧ Im H v (dFrs ps) ∧ PartsOk B ps ∧ ps.length = n ∧ n ≤ 6 ∧ Im H bv (dWay w) ∧ WayOk n w ∧
  ∀ (H' : Hp) (p : Addr), Same H H' → H p = none → Im H' (.ref p) (dFrs (dayF w ps)) → Q (.ref p) H'
def spWgM : Sp := fun vs H Q _ => ∃ (a b : Addr) (r c : List Int), vs = [.ref a, .ref b] ∧ Tu H a (r.map V.int) ∧ H b = some (.lst (c.map V.int)) ∧ r.length = c.length ∧ r.length ≤ 6 ∧ (∀ x ∈ r, x.natAbs < 2 ^ 4000) ∧ (∀ x ∈ c, x.natAbs < 2 ^ 5000) ∧ ∀ H', Same H H' → Q (.int (dot r c)) H'
theorem tops_le {B : Int} {ps : List Fr} (po : PartsOk B ps) : ∀ x ∈ tops B ps, x.natAbs ≤ 2 ^ 200 * B.natAbs := fun x hx => by
  unfold tops at hx
  obtain ⟨f, hf, rfl⟩ := List.mem_map.mp hx
  obtain ⟨h1, h2, h3⟩ := po.f f hf
  exact top_bound po.p h1 h2 h3
/-- a thought as it is drawn -/
structure MooOk (f : Fr) : Prop where
  ok : FrOk f
  t : f.1.natAbs < 1000000000
  b : f.2 ≤ 1000000
def spMoo : Sp := fun vs H Q _ => ∃ (j : Addr) (k : Nat), vs = [.ref j] ∧ k ≤ 900000000 ∧ WellAt H j k ∧ ∀ (H' : Hp) (p : Addr) (f : Fr), But j H H' → WellAt H' j (k + 5) → H p = none → Im H' (.ref p) (dFr f) → MooOk f → Q (.ref p) H'
def plusF (f g : Fr) : Fr := low (f.1 * g.2 + g.1 * f.2) (f.2 * g.2)
def spPlu : Sp := fun vs H Q _ => ∃ (u v : V) (f g : Fr), vs = [u, v] ∧ Im H u (dFr f) ∧ Im H v (dFr g) ∧ 0 < f.2 ∧ 0 < g.2 ∧ f.1.natAbs < 2 ^ 4400 ∧ f.2.natAbs < 2 ^ 4000 ∧ g.1.natAbs < 2 ^ 4400 ∧ g.2.natAbs < 2 ^ 4000 ∧
  ∀ (H' : Hp) (p : Addr), Same H H' → H p = none → Im H' (.ref p) (dFr (plusF f g)) → Q (.ref p) H'
def lessB (f g : Fr) : Bool := decide (f.1 * g.2 < g.1 * f.2)
def spLes : Sp := fun vs H Q _ => ∃ (u v : V) (f g : Fr), vs = [u, v] ∧ Im H u (dFr f) ∧ Im H v (dFr g) ∧ f.1.natAbs < 2 ^ 4400 ∧ f.2.natAbs < 2 ^ 4000 ∧ g.1.natAbs < 2 ^ 4400 ∧ g.2.natAbs < 2 ^ 4000 ∧ Q (.bl (lessB f g)) H
section
variable {P : Program} {w : World} {K : PySem.W.Frag} {mg : Str → Option Value} {base : Heap}
theorem ok_wgM {f : Addr} {fd : FuncData} (F : Fun K "weighed" "weighed" sWgh f fd) (T : Bt mg) (Tz : mg "zip" = none) : FnOk P w K mg base CX0 1 f fd pWgh spWgM := by
  refine F.ok scWgh (fun vs H Q E h => ?_) (fun cdv A outer s H vs Q E hr h => ?_)
  · obtain ⟨a, b, r, c, rfl, _⟩ := h
    rfl
  · obtain ⟨a, b, r, c, rfl, ha, hb, hl, h6, hx, hy, k⟩ := h
    refine ⟨_, (pss_one (ps_ret (pe_callB (sumL K) (by rfl) T.sum (by decide +kernel) (pa_cons (pe_lc (own := [("weight", 2), ("value", 3)]) (tt := tYes) rfl scWgh.nd (zipTL K (by rfl) Tz (pa_cons (pv 0) (pa_cons (pv 1) pa_nil))) (blkOk_by (own := [("weight", 2), ("value", 3)]) (N := nWgh) (sc := defScope sWgh) (by decide +kernel)) (fun _ _ _ _ _ => (pgT K 2 (pgs_cons (pg_name (i := 2) scWgh.nd rfl (Or.inl rfl)) (pgs_cons (pg_name (i := 3) scWgh.nd rfl (Or.inl rfl)) pgs_nil)))) (fun _ _ _ _ _ => pts_nil)
          (fun _ _ _ _ _ => (pe_op op_mulW (pv 2) (pv 3)))) pa_nil)))), ?_⟩
    refine ⟨_, rfl, _, rfl, a, b, r.map V.int, c.map V.int, rfl, ha.sq, SqL.of hb, ?_⟩
    refine fun D hD => lc_it (walk_zipTL (K := K) (a := a) (b := b) (xs := r.map V.int) (ys := c.map V.int) (n := r.length) (by rw [List.length_map]) (by rw [List.length_map, hl])) (PvS H D (((r.zip c).map fun p => p.1 * p.2).map V.int))
      (pvs0 hD) (fun i G _ h => ⟨(ha.same h.1).sq, SqL.of (h.1 _ _ hb)⟩) ?_ (fun G h => ?_)
    · rintro i v G G' hi h ⟨T', y1, y2, rfl, hT, rfl, e1, e2⟩
      have e1 : (r.map V.int)[i]? = some y1 := e1
      have e2 : (c.map V.int)[i]? = some y2 := e2
      rw [List.getElem?_map] at e1 e2
      have h1 : r[i]? = some (r[i]'hi) := List.getElem?_eq_getElem hi
      have h2 : c[i]? = some (c[i]'(by omega)) := List.getElem?_eq_getElem (by omega)
      rw [h1] at e1
      rw [h2] at e2
      cases e1
      cases e2
      have sT : Same G (upd G T' (.tup [V.int (r[i]'hi), V.int (c[i]'(by omega))])) := same_upd hT
      refine ⟨T', _, rfl, SqT.of upd_same, rfl, _, _, rfl, _, _, rfl, rfl, rfl, turnY ?_⟩
      refine ⟨_, rfl, _, rfl, _, _, rfl, rfl, mulW (hx _ (List.getElem_mem hi)) (hy _ (List.getElem_mem _)) (by decide) (by decide) (by decide), ?_⟩
      refine pvs1 hD h sT (by rw [List.length_map, List.length_map, List.length_zip]; omega) ?_
      rw [List.getElem?_map, List.getElem?_map, (List.getElem?_zip_eq_some (z := (r[i]'hi, c[i]'(by omega)))).mpr ⟨h1, h2⟩]
      rfl
    · obtain ⟨s1, hl1⟩ := pvsE h (by rw [List.length_map, List.length_map, List.length_zip]; omega)
      exact ⟨D, _, rfl, SqL.of hl1, k G s1⟩
theorem ok_mnW {f : Addr} {fd : FuncData} (F : Fun K "means_of" "means_of" sMno f fd) (T : Bt mg) (DO : DefX P w K mg base 1 "over_one_bottom" pOob spOob) (DL : DefX P w K mg base 1 "lowest" pLws spLws) (DW : DefX P w K mg base 1 "weighed" pWgh spWgM) : FnOk P w K mg base CX0 3 f fd pMno spMnW := by
  refine F.ok scMno (fun vs H Q E h => ?_) (fun cdv A outer s H vs Q E hr h => ?_)
  · obtain ⟨v, bv, n, M, ps, B, rfl, _⟩ := h
    rfl
  · obtain ⟨v, bv, n, M, ps, B, rfl, iv, po, pn, n6, ib, wo, k⟩ := h
    obtain ⟨Lr, us, rfl, hLr, rl⟩ := ib.tuple
    have hul : us.length = M.length := by rw [rl.length, List.length_map]
    have M6 := wo.1
    have p6 : ps.length ≤ 6 := by omega
    have rp : ∀ r ∈ M, RowOk ps.length r := fun r hr => by rw [pn]; exact wo.2 r hr
    refine ⟨_, (pss_cons (ps_asg (pe_fn DO hr (by decide) (pa_cons (pv 0) pa_nil)) (pg_tup (by rfl) (pgs_cons (pg_name (i := 2) scMno.nd rfl (Or.inr rfl)) (pgs_cons (pg_name (i := 3) scMno.nd rfl (Or.inr rfl)) pgs_nil))))
      (pss_one (ps_ret (pe_callTy (tupO K) (by rfl) T.tuple (by decide +kernel) (pa_cons (pe_lc (own := [("row", 4)]) (g := gName 4) (tt := tYes) rfl scMno.nd (piT K (pv 1)) (blkOk_by (own := [("row", 4)]) (N := nMno) (sc := defScope sMno) (by decide +kernel)) (fun _ _ _ _ _ => (pg_name (i := 4) scMno.nd rfl (Or.inl rfl))) (fun _ _ _ _ _ => pts_nil)
          (fun _ _ _ _ _ => (pe_fn DL hr (by decide) (pa_cons (pe_fn DW hr (by decide) (pa_cons (pv 4) (pa_cons (pv 2) pa_nil))) (pa_cons (pe_op op_mulW (pv 3) (pe_callB (sumT K) (by rfl) T.sum (by decide +kernel) (pa_cons (pv 4) pa_nil))) pa_nil))))) pa_nil))))), ?_⟩
    have lo := (lcmB_ok po).2
    have lb := natB lo.p lo.b
    have tl : (tops (lcmB ps) ps).length = ps.length := by unfold tops; rw [List.length_map]
    refine ⟨_, rfl, v, ps, B, rfl, iv, po, by omega, fun H1 p1 L1 s1 n1 h1 hL1 => ?_⟩
    refine ⟨p1, _, rfl, SqT.of h1, rfl, _, _, rfl, _, _, rfl, rfl, ?_⟩
    have hLr1 := hLr.same s1
    refine ⟨_, rfl, Lr, rfl, ⟨_, hLr1.sq⟩, fun D hD => ?_⟩
    refine lc_it (walk_tup (K := K) (a := Lr) (xs := us)) (IvS H1 D ((M.map (meanF (lcmB ps) ps)).map dFr)) (ivs0 hD) (fun i G _ ⟨_, _, _, sG⟩ => (hLr1.same sG).sq) ?_ (fun G h => ?_)
    · rintro i x _ G hi h ⟨rfl, hx⟩
      obtain ⟨dr, hdr, imr⟩ := rl.get hx
      rw [List.getElem?_map] at hdr
      cases hr1 : M[i]? with
      | none => rw [hr1] at hdr; cases hdr
      | some r =>
        rw [hr1] at hdr
        cases hdr
        obtain ⟨vs, hD1, iv1, sG⟩ := id h
        obtain ⟨ra, es, rfl, hra, hes⟩ := (Im.mono ((Same.tups s1).trans (Same.tups sG)) _ _ imr).tuple
        have ees := hes.ints
        subst ees
        have hL2 := sG _ _ hL1
        have rpi := rp r (List.mem_of_getElem? hr1)
        obtain ⟨rs, rs2⟩ := row_sum rpi p6
        have sb : r.sum.natAbs < 2 ^ 64 := by omega
        refine ⟨rfl, turnY ?_⟩
        refine ⟨_, rfl, _, rfl, ra, L1, r, _, rfl, hra, hL2, by rw [tl]; exact rpi.1, by have := rpi.1; omega, fun x hx => ?_, fun y hy => ?_, fun G2 s2 => ?_⟩
        · have := rpi.2.1 x hx
          have e : (10 : Nat) ^ 9 < 2 ^ 4000 := Nat.lt_of_lt_of_le (show 10 ^ 9 < 2 ^ 30 by decide) (Nat.pow_le_pow_right (by decide) (by decide))
          omega
        · refine Nat.lt_of_le_of_lt (tops_le lo y hy) ?_
          have := Nat.mul_lt_mul_of_pos_left (k := 2 ^ 200) lb (by decide)
          rw [← Nat.pow_add] at this
          exact Nat.lt_of_lt_of_le this (Nat.pow_le_pow_right (by decide) (by decide))
        have bp : 0 < lcmB ps * r.sum := Int.mul_pos lo.p rs
        refine ⟨_, rfl, _, rfl, ra, r, rfl, (hra.same s2).sq, _, _, rfl, rfl, mulW lb sb (by decide) (by decide) (by decide), ?_⟩
        refine ⟨_, _, rfl, bp, Nat.lt_of_lt_of_le (lg (mulB lb sb) (by decide)) (by decide), fun G3 p3 s3 n3 im3 => ?_⟩
        exact ivs1 hD h (s2.trans s3) im3 (by rw [List.length_map, List.length_map]; omega) (by rw [List.getElem?_map, List.getElem?_map, hr1]; rfl)
    · obtain ⟨vs, sG, hD1, ivs⟩ := ivsE h (by rw [List.length_map, List.length_map]; omega)
      exact ⟨D, vs, rfl, .inl ⟨SqL.of hD1, fun p np => k _ p ((s1.trans sG).trans (same_upd np)) ((s1.trans sG).free np) (.tup Tu.up (ImAll.mono (TupS.new np) _ _ ivs))⟩⟩
theorem ok_moo {f : Addr} {fd : FuncData} (F : Fun K "_law_mood" "_law_mood" sMoo f fd) (T : Bt mg) (DD : DDp P w K mg base) (DC : DefX P w K mg base 1 "_law_cut" pCut spLow) : FnOk P w K mg base CX0 2 f fd pMoo spMoo := by
  refine F.ok scMoo (fun vs H Q E h => ?_) (fun cdv A outer s H vs Q E hr h => ?_)
  · obtain ⟨j, k, rfl, _⟩ := h
    rfl
  · obtain ⟨j, k0, rfl, hk, J, k⟩ := h
    refine ⟨_, (pss_cons (ps_set (i := 1) scMoo.nd rfl (Or.inl rfl) (pe_fn DD hr (by decide) (pa_cons (pv 0) (pa_cons (pe_ix (ixL K) (pe_lst (pa_cons pe_int (pa_cons pe_int (pa_cons (pe_op op_pow pe_int pe_int) pa_nil)))) (pe_fn DD hr (by decide) (pa_cons (pv 0) (pa_cons pe_int pa_nil))) (fun _ _ => rfl)) pa_nil))))
      (pss_one (ps_ret (pe_fn DC hr (by decide) (pa_cons (pe_ix (ixL K) (pe_lst (pa_cons (pv 1) (pa_cons (pe_op op_sub pe_int (pv 1)) pa_nil))) (pe_fn DD hr (by decide) (pa_cons (pv 0) (pa_cons pe_int pa_nil))) (fun _ _ => rfl)) (pa_cons (pe_op op_add pe_int (pe_fn DD hr (by decide) (pa_cons (pv 0) (pa_cons (pe_ix (ixL K) (pe_lst (pa_cons pe_int (pa_cons pe_int (pa_cons (pe_op op_pow pe_int pe_int) pa_nil)))) (pe_fn DD hr (by decide) (pa_cons (pv 0) (pa_cons pe_int pa_nil))) (fun _ _ => rfl)) pa_nil)))) pa_nil)))))), ?_⟩
    refine ⟨_, rfl, _, _, rfl, rfl, ⟨by decide, by decide, by decide⟩, by show 3 ≤ sizeLine; decide, fun l hl0 => ?_⟩
    refine ⟨_, rfl, j, 3, _, rfl, by decide, by decide, by omega, J.upd hl0, fun H1 d b1 J1 d0 dm => ?_⟩
    have hjl := J.ne hl0
    obtain ⟨z, hz, ha⟩ := pick (xs := [3, 20, 1000000000]) d0 (by simpa using dm)
    have hz' : 1 ≤ z ∧ z ≤ 1000000000 := by
      simp only [List.mem_cons, List.mem_nil_iff, or_false] at hz
      rcases hz with r | r | r <;> omega
    refine ⟨l, _, d, _, rfl, rfl, SqL.of (b1 l _ hjl.symm upd_same), ha, ?_⟩
    refine ⟨j, z, _, rfl, by omega, by omega, by omega, J1, fun H2 t b2 J2 t0 t1 => ?_⟩
    have B2 : But j H H2 := ((But.new hl0).trans b1).trans b2
    refine ⟨_, rfl, _, rfl, _, _, rfl, rfl, by show 2 ≤ sizeLine; decide, fun l2 hl2 => ?_⟩
    refine ⟨_, rfl, j, 2, _, rfl, by decide, by decide, by omega, J2.upd hl2, fun H3 e b3 J3 e0 em => ?_⟩
    have hjl2 := J2.ne hl2
    obtain ⟨y, hy, hat⟩ := pick (xs := [t, 0 - t]) e0 (by simpa using em)
    have hy' : y.natAbs < 1000000000 := by
      simp only [List.mem_cons, List.mem_nil_iff, or_false] at hy
      rcases hy with r | r <;> omega
    refine ⟨l2, _, e, _, rfl, rfl, SqL.of (b3 l2 _ hjl2.symm upd_same), hat, ?_⟩
    have B3 := B2.trans ((But.new hl2).trans b3)
    refine ⟨_, rfl, _, _, rfl, rfl, ⟨by decide, by decide, by decide⟩, by show 3 ≤ sizeLine; decide, fun l4 hl4 => ?_⟩
    refine ⟨_, rfl, j, 3, _, rfl, by decide, by decide, by omega, J3.upd hl4, fun H4 d4 b4 J4 d40 dm4 => ?_⟩
    have hjl4 := J3.ne hl4
    obtain ⟨z4, hz4, ha4⟩ := pick (xs := [1, 6, 1000000]) d40 (by simpa using dm4)
    have hz4' : 1 ≤ z4 ∧ z4 ≤ 1000000 := by
      simp only [List.mem_cons, List.mem_nil_iff, or_false] at hz4
      rcases hz4 with r | r | r <;> omega
    refine ⟨l4, _, d4, _, rfl, rfl, SqL.of (b4 l4 _ hjl4.symm upd_same), ha4, ?_⟩
    refine ⟨j, z4, _, rfl, by omega, by omega, by omega, J4, fun H5 q b5 J5 q0 q1 => ⟨_, _, rfl, rfl, ?_⟩⟩
    have B5 := B3.trans (((But.new hl4).trans b4).trans b5)
    have bp : (0 : Int) < 1 + q := by omega
    refine ⟨_, _, rfl, bp, Nat.lt_of_lt_of_le (lg (k := 64) (by omega) (by decide)) (by decide), fun H6 p s6 np im => ?_⟩
    obtain ⟨o1, o2, _⟩ := low_ok (t := y) bp
    obtain ⟨_, w2, w3⟩ := fr_bound (S := y) o1 bp (by rw [o2, Int.mul_comm])
    exact k H6 p _ (B5.trans (But.of s6)) ((J5.same s6).le (by omega)) (B5.freeJ J5.jug np) im ⟨o1, by omega, by omega⟩
theorem ok_plu {f : Addr} {fd : FuncData} (F : Fun K "_law_plus" "_law_plus" sPlu f fd) (T : Bt mg) (DC : DefX P w K mg base 1 "_law_cut" pCut spLow) : FnOk P w K mg base CX0 2 f fd pPlu spPlu := by
  refine F.ok scPlu (fun vs H Q E h => ?_) (fun cdv A outer s H vs Q E hr h => ?_)
  · obtain ⟨u, v, f, g, rfl, _⟩ := h
    rfl
  · obtain ⟨u, v, x, y, rfl, iu, iv, p1, p2, a1, a2, b1, b2, k⟩ := h
    refine ⟨_, (pss_one (ps_ret (pe_fn DC hr (by decide) (pa_cons (pe_op op_add (pe_op op_mulW (pe_ix (ixT K) (pv 0) pe_int (fun _ _ => rfl)) (pe_ix (ixT K) (pv 1) pe_int (fun _ _ => rfl))) (pe_op op_mulW (pe_ix (ixT K) (pv 1) pe_int (fun _ _ => rfl)) (pe_ix (ixT K) (pv 0) pe_int (fun _ _ => rfl)))) (pa_cons (pe_op op_mulW (pe_ix (ixT K) (pv 0) pe_int (fun _ _ => rfl)) (pe_ix (ixT K) (pv 1) pe_int (fun _ _ => rfl))) pa_nil))))), ?_⟩
    obtain ⟨a, rfl, ha⟩ := im_fr iu
    obtain ⟨b, rfl, hb⟩ := im_fr iv
    refine ⟨_, rfl, a, _, _, _, rfl, rfl, ha.sq, rfl, _, rfl, b, _, _, _, rfl, rfl, hb.sq, rfl, _, _, rfl, rfl, mulW a1 b2 (by decide) (by decide) (by decide), _, rfl, b, _, _, _, rfl, rfl, hb.sq, rfl, _, rfl, a, _, _, _, rfl, rfl, ha.sq, rfl, _, _, rfl, rfl, mulW b1 a2 (by decide) (by decide) (by decide), _, _, rfl, rfl, ?_⟩
    refine ⟨_, rfl, a, _, _, _, rfl, rfl, ha.sq, rfl, _, rfl, b, _, _, _, rfl, rfl, hb.sq, rfl, _, _, rfl, rfl, mulW a2 b2 (by decide) (by decide) (by decide), ?_⟩
    exact ⟨_, _, rfl, Int.mul_pos p1 p2, Nat.lt_of_lt_of_le (lg (mulB a2 b2) (by decide)) (by decide), fun H' p s np im => k H' p s np im⟩
theorem ok_les {f : Addr} {fd : FuncData} (F : Fun K "_law_is_less" "_law_is_less" sLes f fd) (T : Bt mg) : FnOk P w K mg base CX0 1 f fd pLes spLes := by
  refine F.ok scLes (fun vs H Q E h => ?_) (fun cdv A outer s H vs Q E hr h => ?_)
  · obtain ⟨u, v, f, g, rfl, _⟩ := h
    rfl
  · obtain ⟨u, v, x, y, rfl, iu, iv, a1, a2, b1, b2, k⟩ := h
    refine ⟨_, (pss_one (ps_ret (pe_cmpR op_lt (pe_op op_mulW (pe_ix (ixT K) (pv 0) pe_int (fun _ _ => rfl)) (pe_ix (ixT K) (pv 1) pe_int (fun _ _ => rfl))) (pe_op op_mulW (pe_ix (ixT K) (pv 1) pe_int (fun _ _ => rfl)) (pe_ix (ixT K) (pv 0) pe_int (fun _ _ => rfl))) (nomark _)))), ?_⟩
    obtain ⟨a, rfl, ha⟩ := im_fr iu
    obtain ⟨b, rfl, hb⟩ := im_fr iv
    exact ⟨_, rfl, a, _, _, _, rfl, rfl, ha.sq, rfl, _, rfl, b, _, _, _, rfl, rfl, hb.sq, rfl, _, _, rfl, rfl, mulW a1 b2 (by decide) (by decide) (by decide), _, rfl, b, _, _, _, rfl, rfl, hb.sq, rfl, _, rfl, a, _, _, _, rfl, rfl, ha.sq, rfl, _, _, rfl, rfl, mulW b1 a2 (by decide) (by decide) (by decide), _, _, rfl, rfl, k⟩
end
end M

namespace U
open PySem L2 PySem.Spec PyProof.Rows
/-! ### o.m(e, ..), o.m(k = e, ..), a def of the class -/
structure MtN (P : Program) (w : World) (K : PySem.W.Frag) (mg : Str → Option Value) (base : Heap) (C : Addr) (m : Str) (k : Nat) (ps : List Str) (sp : Sp) (ks : List Str) (gL : List Value → List Value → List Value) (gV : List V → List V → List V) : Prop where
  cl : Cls K C
  ex : ∃ (f : Addr) (fd : FuncData), Meth K C m f ∧ FnOk P w K mg base CX0 k f fd ps sp ∧ Binds K fd ps [] ∧ KBn K fd ps 1 ks gL gV
def tMethK (C : Addr) (m : Str) (n : Nat) (sp : Sp) (gV : List V → List V → List V) (ta : TE) (tk : TA) : TE := fun σ H Q => ta σ H fun x H1 => ∃ a dx fs, x = .ref a ∧ H1 a = some (.ins C dx fs) ∧ fs.lookup m = none ∧ tk σ H1 fun zs H2 => zs.length = n ∧ sp (gV [.ref a] zs) H2 Q E0
section
variable {X : Cx} {C : Addr} {k j : Nat} {sp : Sp} {m : Str} {ps ks : List Str} {gL : List Value → List Value → List Value} {gV : List V → List V → List V} {e o : Expr} {es : List Expr} {kws : List Keyword} {pos apos : Pos} {t : TA} {ta : TE} {tk : TA} {pl : Sem Bool}
theorem pe_mtN (M : MtN X.prog X.w X.K X.mg X.base C m k ps sp ks gL gV) (hr : Room j X.A) (hk : k ≤ j) (he : PE X o ta) (ha : PA X (e :: es) t)
    (hst : starEach (e :: es) X.env = (false, eval e X.env) :: starEach es X.env := by rfl) (hpl : (backTo pos (starEach es X.env)).any (·.1) = false := by rfl)
    (ht : eval (.Call (.Attribute o m apos) (e :: es) [] pos) X.env = (eval o X.env >>= fun ov => standAt apos.atName >>= fun _ => holding [ov] (getMethod ov m pl) >>= fun fx => callWith pos fx.1 fx.2 (backTo pos (starEach (e :: es) X.env)) (backToKw pos (keywordEach [] X.env))) := by rfl) :
    PE X (.Call (.Attribute o m apos) (e :: es) [] pos) (tMeth C m sp [] E0 ta t) := by
  obtain ⟨f, fd, hm, F, b, _⟩ := M.ex
  exact pe_meth (pl := pl) he M.cl hm F (hr.mono hk) b .nil pass0 ha hst hpl ht
theorem pe_mtZ (M : MtN X.prog X.w X.K X.mg X.base C m k ps sp ks gL gV) (hr : Room j X.A) (hk : k ≤ j) (he : PE X o ta)
    (ht : eval (.Call (.Attribute o m apos) [] [] pos) X.env = (eval o X.env >>= fun ov => standAt apos.atName >>= fun _ => holding [ov] (getMethod ov m pl) >>= fun fx => callWith pos fx.1 fx.2 [] []) := by rfl) :
    PE X (.Call (.Attribute o m apos) [] [] pos) (tMeth C m sp [] E0 ta tNil) := by
  obtain ⟨f, fd, hm, F, b, _⟩ := M.ex
  exact pe_meth0 (pl := pl) he M.cl hm F (hr.mono hk) b .nil pass0 ht
theorem pe_mtK (M : MtN X.prog X.w X.K X.mg X.base C m k ps sp ks gL gV) (hr : Room j X.A) (hk : k ≤ j) (he : PE X o ta) (hkw : PK X kws tk)
    (hall : (backToKw pos (keywordEach kws X.env)).all (·.1.isSome) = true := by rfl) (hks : (backToKw pos (keywordEach kws X.env)).filterMap (·.1) = ks := by rfl)
    (hpl : ((backTo pos (starEach [] X.env)).any (·.1) || (backToKw pos (keywordEach kws X.env)).any (·.1.isNone)) = false := by rfl)
    (ht : eval (.Call (.Attribute o m apos) [] kws pos) X.env = (eval o X.env >>= fun ov => standAt apos.atName >>= fun _ => holding [ov] (getMethod ov m pl) >>= fun fx => callWith pos fx.1 fx.2 (backTo pos (starEach [] X.env)) (backToKw pos (keywordEach kws X.env))) := by rfl) :
    PE X (.Call (.Attribute o m apos) [] kws pos) (tMethK C m ks.length sp gV ta tk) := by
  obtain ⟨f, fd, hm, F, _, hb⟩ := M.ex
  constructor
  intro pins s σ H Q I h
  refine PySem.W.methodCall_KW (pl := pl) (thn (he.run pins s σ H _ I h) fun u s1 hh => ?_) ht
  obtain ⟨x, H1, I1, rx, a, dx, fs, rfl, ea, l, q⟩ := hh
  obtain rfl : u = Value.ref a := rx
  refine getmeth_ok I1 ea M.cl hm l ?_
  have fin : wpAny (model X.prog X.w) X.A (evalAll ((backToKw pos (keywordEach kws X.env)).map (·.2))) (fun ws s3 => X.K.In s3.heap ∧
      wpAny (model X.prog X.w) X.A (call (.ref f) ([.ref a] ++ []) (((backToKw pos (keywordEach kws X.env)).filterMap (·.1)).zip ws)) (EP X pins σ Q) X.xe s3) X.xe s1 := by
    refine thn (hkw.run pos _ s1 σ H1 _ I1 q) fun ws s3 hh => ?_
    obtain ⟨zs, H2, I3, rz, hl, q2⟩ := hh
    refine ⟨I3.kIn, ?_⟩
    rw [hks]
    have r1 : Vals [V.ref a] [Value.ref a] := ref1 a
    have e2 : ws.length = ks.length := rz.length.symm.trans hl
    refine wpAny_call (codeAny_mono (F.run X.A X.stack s3 H2 ⟨[.ref a], ks.zip ws⟩ (gL [.ref a] ws) (gV [.ref a] zs) Q E0 (hr.mono hk) I3.env0 (hb.to _ [.ref a] ws I3.kIn rfl e2) (hb.rel r1 rz) q2) fun rr s' hq => ?_)
    cases rr with
    | error e => exact (show False from hq).elim
    | ok fl =>
      cases fl with
      | ret u => exact I3.after hq
      | next => exact (show False from hq).elim
      | brk => exact (show False from hq).elim
      | cont => exact (show False from hq).elim
  exact PySem.W.callWith_of hpl (PySem.W.keeps_K hm.kp) (PyProof.Rows.evalArgs_kw2_nil hall fin)
end
end U

namespace U
open PySem L2
/-! ### tuples put together and cut, as plain data (as F07 has it, for any law) -/
def cutL {α : Type} (xs : List α) (lo hi : Option Int) : List α := (xs.drop (HT.sIx xs.length 0 lo)).take (HT.sIx xs.length xs.length hi - HT.sIx xs.length 0 lo)
theorem cutL_to {α : Type} {xs : List α} {i : Nat} (h : i ≤ xs.length) : cutL xs none (some (i : Int)) = xs.take i := by
  have e : HT.sIx xs.length xs.length (some (i : Int)) = i := by rw [HT.sIx_nat]; omega
  unfold cutL
  rw [e, HT.sIx_none, Nat.sub_zero, List.drop_zero]
theorem cutL_from {α : Type} {xs : List α} {i : Nat} (h : i ≤ xs.length) : cutL xs (some (i : Int)) none = xs.drop i := by
  have e : HT.sIx xs.length 0 (some (i : Int)) = i := by rw [HT.sIx_nat]; omega
  unfold cutL
  rw [e, HT.sIx_none]
  exact List.take_of_length_le (by rw [List.length_drop]; exact Nat.le_refl _)
theorem cut1 {α : Type} {xs : List α} (h : 1 ≤ xs.length) : cutL xs (some 1) none = xs.drop 1 := cutL_from (i := 1) h
theorem cutTo1 {α : Type} {xs : List α} (h : 1 ≤ xs.length) : cutL xs none (some 1) = xs.take 1 := cutL_to (i := 1) h
theorem cutFromS {α : Type} {xs : List α} {q : Nat} (h : q + 1 ≤ xs.length) : cutL xs (some ((q : Int) + 1)) none = xs.drop (q + 1) := cutL_from (i := q + 1) h
theorem cutLen {α : Type} (xs : List α) (lo hi : Option Int) : (cutL xs lo hi).length ≤ xs.length := by
  unfold cutL
  rw [List.length_take, List.length_drop]
  omega
theorem cutL_last {α : Type} {xs : List α} (h : 1 ≤ xs.length) : cutL xs none (some (-1)) = xs.take (xs.length - 1) := by
  have e : HT.sIx xs.length xs.length (some (-1)) = xs.length - 1 := by
    show (if (-1 : Int) < 0 then ((-1 : Int) + (xs.length : Int)).toNat else min (-1 : Int).toNat xs.length) = _
    rw [if_pos (by decide)]
    omega
  unfold cutL
  rw [e, HT.sIx_none, Nat.sub_zero, List.drop_zero]
theorem ImAll.drop {H : Hp} : ∀ (n : Nat) {ds : List PyData} {vs : List V}, ImAll H vs ds → ImAll H (vs.drop n) (ds.drop n)
  | 0, _, _, h => h
  | n + 1, _, _, .nil => by rw [List.drop_nil, List.drop_nil]; exact .nil
  | n + 1, _, _, .cons _ h2 => ImAll.drop n h2
theorem ImAll.take {H : Hp} : ∀ (n : Nat) {ds : List PyData} {vs : List V}, ImAll H vs ds → ImAll H (vs.take n) (ds.take n)
  | 0, _, _, h => .nil
  | n + 1, _, _, .nil => by rw [List.take_nil, List.take_nil]; exact .nil
  | n + 1, _, _, .cons h1 h2 => .cons h1 (ImAll.take n h2)
theorem ImAll.append {H : Hp} {es : List PyData} {us : List V} (g : ImAll H us es) : ∀ {ds : List PyData} {vs : List V}, ImAll H vs ds → ImAll H (vs ++ us) (ds ++ es)
  | _, _, .nil => g
  | _, _, .cons h1 h2 => .cons h1 (ImAll.append g h2)
theorem slIm {K : PySem.W.Frag} {H : Hp} {x : V} {ds : List PyData} {lo hi : Option Int} {Q : VK} (h : Im H x (.tuple ds)) (k : ∀ (H' : Hp) (p : Addr), Same H H' → Im H' (.ref p) (.tuple (cutL ds lo hi)) → Q (.ref p) H') : rSlA K x lo hi H Q := by
  obtain ⟨a, xs, rfl, ha, hall⟩ := h.tuple
  have hl := hall.length
  refine ⟨a, xs, rfl, ha.sq, fun e => ?_, fun _ p np => ?_⟩
  · have e2 : cutL ds lo hi = ds := by
      unfold cutL
      rw [← hl, e.1, e.2, List.drop_zero, Nat.sub_zero]
      exact List.take_of_length_le (Nat.le_of_eq hl.symm)
    exact k H a (Same.refl H) (by rw [e2]; exact .tup ha hall)
  · refine k _ p (same_upd np) (.tup Tu.up ?_)
    unfold cutL cutV
    rw [← hl]
    exact ImAll.take _ (ImAll.drop _ (ImAll.mono (TupS.new np) _ _ hall))
theorem slFrom {K : PySem.W.Frag} {H : Hp} {x : V} {σ : L2.St} {ds : List PyData} {lo : Option Int} {Q : VK} (h : Im H x (.tuple ds)) (k : ∀ (H' : Hp) (p : Addr), Same H H' → Im H' (.ref p) (.tuple (cutL ds lo none)) → Q (.ref p) H') : tNoPart σ H (fun u H3 => rSlA K x lo u H3 Q) := slIm h k
theorem catIm {K : PySem.W.Frag} {H : Hp} {x y : V} {ds es : List PyData} {Q : VK} (h : Im H x (.tuple ds)) (g : Im H y (.tuple es)) (hz : ds.length + es.length ≤ 1000) (k : ∀ (H' : Hp) (p : Addr), Same H H' → Im H' (.ref p) (.tuple (ds ++ es)) → Q (.ref p) H') : rCatA K x y H Q := by
  obtain ⟨a, xs, rfl, ha, ia⟩ := h.tuple
  obtain ⟨b, ys, rfl, hb, ib⟩ := g.tuple
  refine ⟨a, b, xs, ys, rfl, rfl, ha.sq, hb.sq, Nat.le_of_lt (small1000 (by rw [ia.length, ib.length]; exact hz)), fun e => ?_, fun _ e => ?_, fun _ _ p np => ?_⟩
  · subst e
    have e2 : ds = [] := List.length_eq_zero_iff.mp (by rw [← ia.length]; rfl)
    subst e2
    exact k H b (Same.refl H) (.tup hb ib)
  · subst e
    have e2 : es = [] := List.length_eq_zero_iff.mp (by rw [← ib.length]; rfl)
    subst e2
    exact k H a (Same.refl H) (by rw [List.append_nil]; exact .tup ha ia)
  · exact k _ p (same_upd np) (.tup Tu.up (ImAll.append (ImAll.mono (TupS.new np) _ _ ib) (ImAll.mono (TupS.new np) _ _ ia)))
theorem ImAll.rev {H : Hp} : ∀ {ds : List PyData} {vs : List V}, ImAll H vs ds → ImAll H vs.reverse ds.reverse
  | [], _, q => by cases q; exact .nil
  | d :: ds, _, q => by
    cases q with
    | cons h1 h2 =>
      rw [List.reverse_cons, List.reverse_cons]
      exact ImAll.snoc h1 (ImAll.rev h2)
theorem cut_end {α : Type} {xs : List α} {n : Nat} (h : xs.length = n + 1) : cutL xs (some (-1)) none = xs.drop n := by
  have e : HT.sIx xs.length 0 (some (-1)) = n := by
    show (if (-1 : Int) < 0 then ((-1 : Int) + (xs.length : Int)).toNat else min (-1 : Int).toNat xs.length) = _
    rw [if_pos (by decide)]
    omega
  unfold cutL
  rw [e, HT.sIx_none]
  exact List.take_of_length_le (by rw [List.length_drop]; exact Nat.le_refl _)
theorem at_end {α : Type} {xs : List α} {n : Nat} {v : α} (h : xs.length = n + 1) (e : xs[n]? = some v) : atI xs (-1) = some v := by
  unfold atI
  have q : ixN xs.length (-1) = some n := by
    unfold ixN
    rw [if_neg (by decide), if_pos (by omega)]
    congr 1
    omega
  rw [q]
  exact e
end U

namespace M
open PySem L2 U ZN
abbrev sCkW : Stmt := top 28
abbrev nCkW : List Str := ["council", "way"]
abbrev pCkW : List Str := ["council", "way"]
theorem scCkW : FnScope nCkW pCkW (defScope sCkW) := ⟨rfl, rfl, rfl, by decide +kernel, rfl, by decide +kernel, by decide +kernel⟩
abbrev sSIn : Stmt := inClass (top 42) 0
abbrev nSIn : List Str := ["self", "council", "thoughts"]
abbrev pSIn : List Str := ["self", "council", "thoughts"]
theorem scSIn : FnScope nSIn pSIn (defScope sSIn) := ⟨rfl, rfl, rfl, by decide +kernel, rfl, by decide +kernel, by decide +kernel⟩
abbrev sSCo : Stmt := inClass (top 42) 1
abbrev nSCo : List Str := ["self"]
abbrev pSCo : List Str := ["self"]
theorem scSCo : FnScope nSCo pSCo (defScope sSCo) := ⟨rfl, rfl, rfl, by decide +kernel, rfl, by decide +kernel, by decide +kernel⟩
abbrev sSTh : Stmt := inClass (top 42) 2
abbrev nSTh : List Str := ["self"]
abbrev pSTh : List Str := ["self"]
theorem scSTh : FnScope nSTh pSTh (defScope sSTh) := ⟨rfl, rfl, rfl, by decide +kernel, rfl, by decide +kernel, by decide +kernel⟩
abbrev sSDa : Stmt := inClass (top 42) 3
abbrev nSDa : List Str := ["self"]
abbrev pSDa : List Str := ["self"]
theorem scSDa : FnScope nSDa pSDa (defScope sSDa) := ⟨rfl, rfl, rfl, by decide +kernel, rfl, by decide +kernel, by decide +kernel⟩
abbrev sSGo : Stmt := inClass (top 42) 5
abbrev nSGo : List Str := ["self", "council", "thoughts", "days"]
abbrev pSGo : List Str := ["self", "council", "thoughts", "days"]
theorem scSGo : FnScope nSGo pSGo (defScope sSGo) := ⟨rfl, rfl, rfl, by decide +kernel, rfl, by decide +kernel, by decide +kernel⟩
abbrev sSDy : Stmt := inClass (top 42) 6
abbrev nSDy : List Str := ["self", "way"]
abbrev pSDy : List Str := ["self", "way"]
theorem scSDy : FnScope nSDy pSDy (defScope sSDy) := ⟨rfl, rfl, rfl, by decide +kernel, rfl, by decide +kernel, by decide +kernel⟩
abbrev sSSp : Stmt := inClass (top 42) 10
abbrev nSSp : List Str := ["self"]
abbrev pSSp : List Str := ["self"]
theorem scSSp : FnScope nSSp pSSp (defScope sSSp) := ⟨rfl, rfl, rfl, by decide +kernel, rfl, by decide +kernel, by decide +kernel⟩
/-- what the walk asks of the class -/
structure Sn (K : PySem.W.Frag) (mg : Str → Option Value) (S : Addr) : Prop where
  cl : Cls K S
  nS : NoAttr K S "_states"
  gC : mg "Session" = some (.ref S)
theorem Sn.g {K : PySem.W.Frag} {mg : Str → Option Value} {S : Addr} (c : Sn K mg S) : ∃ u, mg "Session" = some u ∧ RelV (.ref S) u := ⟨_, c.gC, rfl⟩
def sf (v : V) : List (Str × V) := putF "_states" v []
theorem sf_s (v : V) : (sf v).lookup ("_states" : Str) = some v := by
  unfold sf
  rw [lookup_putF, if_pos rfl]
theorem sf_no (v : V) {n : Str} (h : ¬ n = "_states") : (sf v).lookup n = none := by
  unfold sf
  rw [lookup_putF, if_neg h]
  rfl
theorem sf_put (v u : V) : putF "_states" u (sf v) = sf u := by
  unfold sf
  rfl
/-- a session stands at x, after d days -/
structure SesAt (S C : Addr) (H : Hp) (x cr : Addr) (m wv tv : V) (ms : List Str) (ws : List (List (List Int))) (ps : List Fr) (d : Nat) : Prop where
  ob : ∃ dx sa xs ta, H x = some (.ins S dx (sf (.ref sa))) ∧ Tu H sa (xs ++ [.ref ta]) ∧ xs.length = d ∧ Tu H ta [.ref cr, tv, .int d]
  co : CouncilAt C H cr m wv ms ws
  im : Im H tv (dFrs ps)
theorem SesAt.same {S C : Addr} {H H' : Hp} {x cr : Addr} {m wv tv : V} {ms : List Str} {ws : List (List (List Int))} {ps : List Fr} {d : Nat} (h : SesAt S C H x cr m wv tv ms ws ps d) (s : Same H H') : SesAt S C H' x cr m wv tv ms ws ps d := by
  obtain ⟨⟨dx, sa, xs, ta, h1, h2, h3, h4⟩, h5, h6⟩ := h
  exact ⟨⟨dx, sa, xs, ta, s _ _ h1, h2.same s, h3, h4.same s⟩, h5.same s, Im.mono (Same.tups s) _ _ h6⟩
theorem tupS_ins {H : Hp} {x C : Addr} {dx : Addr} {fs gs : List (Str × V)} (h : H x = some (.ins C dx fs)) : TupS H (upd H x (.ins C dx gs)) := fun b ys e => e.keep fun o eo => by
  rw [upd_ne (e.neI h)]; exact eo
def spCkW (C : Addr) : Sp := fun vs H Q _ => ∃ (a : Addr) (m wv : V) (ms : List Str) (ws : List (List (List Int))) (i : Int), vs = [.ref a, .int i] ∧ CouncilAt C H a m wv ms ws ∧ 0 ≤ i ∧ i < ws.length ∧ Q .non H
def spSIn (S C : Addr) : Sp := fun vs H Q _ => ∃ (x dx cr : Addr) (m wv tv : V) (ms : List Str) (ws : List (List (List Int))) (ps : List Fr), vs = [.ref x, .ref cr, tv] ∧ H x = some (.ins S dx []) ∧ CouncilAt C H cr m wv ms ws ∧ cr ≠ x ∧ Im H tv (dFrs ps) ∧ (∀ f ∈ ps, FrOk f) ∧ ps.length = ms.length ∧
  ∀ H', But x H H' → SesAt S C H' x cr m wv tv ms ws ps 0 → Q .non H'
def spSCo (S C : Addr) : Sp := fun vs H Q _ => ∃ (x cr : Addr) (m wv tv : V) (ms : List Str) (ws : List (List (List Int))) (ps : List Fr) (d : Nat), vs = [.ref x] ∧ SesAt S C H x cr m wv tv ms ws ps d ∧ Q (.ref cr) H
def spSTh (S C : Addr) : Sp := fun vs H Q _ => ∃ (x cr : Addr) (m wv tv : V) (ms : List Str) (ws : List (List (List Int))) (ps : List Fr) (d : Nat), vs = [.ref x] ∧ SesAt S C H x cr m wv tv ms ws ps d ∧ Q tv H
def spSDa (S C : Addr) : Sp := fun vs H Q _ => ∃ (x cr : Addr) (m wv tv : V) (ms : List Str) (ws : List (List (List Int))) (ps : List Fr) (d : Nat), vs = [.ref x] ∧ SesAt S C H x cr m wv tv ms ws ps d ∧ Q (.int d) H
def spSGo (S C : Addr) : Sp := fun vs H Q _ => ∃ (x cr : Addr) (m wv tv tv' : V) (ms : List Str) (ws : List (List (List Int))) (ps ps' : List Fr) (d : Nat), vs = [.ref x, .ref cr, tv', .int ((d : Int) + 1)] ∧ SesAt S C H x cr m wv tv ms ws ps d ∧ cr ≠ x ∧ Im H tv' (dFrs ps') ∧ d ≤ 100 ∧
  ∀ H', But x H H' → SesAt S C H' x cr m wv tv' ms ws ps' (d + 1) → Q .non H'
def spSDy (S C : Addr) : Sp := fun vs H Q _ => ∃ (x cr : Addr) (m wv tv : V) (ms : List Str) (ws : List (List (List Int))) (ps : List Fr) (d q : Nat) (wy : List (List Int)) (B : Int), vs = [.ref x, .int q] ∧ SesAt S C H x cr m wv tv ms ws ps d ∧ cr ≠ x ∧ ws[q]? = some wy ∧ d ≤ 100 ∧ PartsOk B ps ∧ ps.length = ms.length ∧
  ∀ H' tv', But x H H' → SesAt S C H' x cr m wv tv' ms ws (dayF wy ps) (d + 1) → Q .non H'
def spSSp (S C : Addr) : Sp := fun vs H Q _ => ∃ (x cr : Addr) (m wv tv : V) (ms : List Str) (ws : List (List (List Int))) (ps : List Fr) (d : Nat) (B : Int), vs = [.ref x] ∧ SesAt S C H x cr m wv tv ms ws ps d ∧ PartsOk B ps ∧ 1 ≤ ps.length ∧ ps.length ≤ 100 ∧
  ∀ (H' : Hp) (p : Addr), Same H H' → H p = none → Im H' (.ref p) (dFr (sprF B ps)) → Q (.ref p) H'
def kbL (us ws : List Value) : List Value := us ++ ws
def kbV (us ws : List V) : List V := us ++ ws
section
variable {P : Program} {w : World} {K : PySem.W.Frag} {mg : Str → Option Value} {base : Heap} {S C : Addr}
theorem ok_ckw {f : Addr} {fd : FuncData} (F : Fun K "check_way" "check_way" sCkW f fd) (T : Bt mg) (cl : Cls K C) (gW : GetN P w K mg base C "ways" 1 (getSp C "_ways")) (DX : DefX P w K mg base 3 "is_index" pIdx spIdx) : FnOk P w K mg base CX0 5 f fd pCkW (spCkW C) := by
  refine F.ok scCkW (fun vs H Q E h => ?_) (fun cdv A outer s H vs Q E hr h => ?_)
  · obtain ⟨a, m, wv, ms, ws, i, rfl, _⟩ := h
    rfl
  · obtain ⟨a, m, wv, ms, ws, i, rfl, c, i0, i1, k⟩ := h
    refine ⟨_, (pss_one (ps_if (pt_not (pt_val (pe_fn DX hr (by decide) (pa_cons (pv 1) (pa_cons (pe_callB (lenQ K) (by rfl) T.len (by decide +kernel) (pa_cons (pe_prp gW cl hr (by decide) (pv 0)) pa_nil)) pa_nil)))))
        (pss_one ps_never) pss_nil)), ?_⟩
    obtain ⟨⟨dx, h1⟩, h2, h3, h4, h5⟩ := c
    obtain ⟨b, xs, rfl, hb, hall⟩ := h3.tuple
    have hxl : xs.length = ws.length := by rw [hall.length, List.length_map]
    refine ⟨_, rfl, _, rfl, a, dx, _, rfl, h1, a, dx, _, _, rfl, h1, cf_w _ _, b, xs, rfl, .inr (hb.sq), i, _, rfl, _, rfl, ?_⟩
    rw [hxl, decide_eq_true i0, decide_eq_true i1]
    exact iteF k
theorem ok_sco {f : Addr} {fd : FuncData} (F : Fun K "council" "Session.council" sSCo f fd) (U : Sn K mg S) : FnOk P w K mg base CX0 1 f fd pSCo (spSCo S C) := by
  refine F.ok scSCo (fun vs H Q E h => ?_) (fun cdv A outer s H vs Q E hr h => ?_)
  · obtain ⟨x, cr, m, wv, tv, ms, ws, ps, d, rfl, _⟩ := h
    rfl
  · obtain ⟨x, cr, m, wv, tv, ms, ws, ps, d, rfl, ⟨⟨dx, sa, xs, ta, h1, h2, h3, h4⟩, h5, h6⟩, k⟩ := h
    refine ⟨_, (pss_one (ps_ret (pe_ix (ixT K) (pe_ix (ixT K) (pe_fld (pv 0) rfl) (pe_un un_neg pe_int) (fun _ _ => rfl)) pe_int (fun _ _ => rfl)))), ?_⟩
    exact ⟨_, rfl, x, S, dx, _, _, rfl, h1, U.cl, U.nS, sf_s _, _, rfl, sa, _, _, _, rfl, rfl, h2.sq, at_end (xs := xs ++ [V.ref ta]) (n := xs.length) (v := V.ref ta) (by rw [List.length_append]; rfl) (by rw [List.getElem?_append_right (Nat.le_refl _), Nat.sub_self]; rfl), ta, _, _, _, rfl, rfl, h4.sq, rfl, k⟩
theorem ok_sth {f : Addr} {fd : FuncData} (F : Fun K "thoughts" "Session.thoughts" sSTh f fd) (U : Sn K mg S) : FnOk P w K mg base CX0 1 f fd pSTh (spSTh S C) := by
  refine F.ok scSTh (fun vs H Q E h => ?_) (fun cdv A outer s H vs Q E hr h => ?_)
  · obtain ⟨x, cr, m, wv, tv, ms, ws, ps, d, rfl, _⟩ := h
    rfl
  · obtain ⟨x, cr, m, wv, tv, ms, ws, ps, d, rfl, ⟨⟨dx, sa, xs, ta, h1, h2, h3, h4⟩, h5, h6⟩, k⟩ := h
    refine ⟨_, (pss_one (ps_ret (pe_ix (ixT K) (pe_ix (ixT K) (pe_fld (pv 0) rfl) (pe_un un_neg pe_int) (fun _ _ => rfl)) pe_int (fun _ _ => rfl)))), ?_⟩
    exact ⟨_, rfl, x, S, dx, _, _, rfl, h1, U.cl, U.nS, sf_s _, _, rfl, sa, _, _, _, rfl, rfl, h2.sq, at_end (xs := xs ++ [V.ref ta]) (n := xs.length) (v := V.ref ta) (by rw [List.length_append]; rfl) (by rw [List.getElem?_append_right (Nat.le_refl _), Nat.sub_self]; rfl), ta, _, _, _, rfl, rfl, h4.sq, rfl, k⟩
theorem ok_sda {f : Addr} {fd : FuncData} (F : Fun K "days" "Session.days" sSDa f fd) (U : Sn K mg S) : FnOk P w K mg base CX0 1 f fd pSDa (spSDa S C) := by
  refine F.ok scSDa (fun vs H Q E h => ?_) (fun cdv A outer s H vs Q E hr h => ?_)
  · obtain ⟨x, cr, m, wv, tv, ms, ws, ps, d, rfl, _⟩ := h
    rfl
  · obtain ⟨x, cr, m, wv, tv, ms, ws, ps, d, rfl, ⟨⟨dx, sa, xs, ta, h1, h2, h3, h4⟩, h5, h6⟩, k⟩ := h
    refine ⟨_, (pss_one (ps_ret (pe_ix (ixT K) (pe_ix (ixT K) (pe_fld (pv 0) rfl) (pe_un un_neg pe_int) (fun _ _ => rfl)) pe_int (fun _ _ => rfl)))), ?_⟩
    exact ⟨_, rfl, x, S, dx, _, _, rfl, h1, U.cl, U.nS, sf_s _, _, rfl, sa, _, _, _, rfl, rfl, h2.sq, at_end (xs := xs ++ [V.ref ta]) (n := xs.length) (v := V.ref ta) (by rw [List.length_append]; rfl) (by rw [List.getElem?_append_right (Nat.le_refl _), Nat.sub_self]; rfl), ta, _, _, _, rfl, rfl, h4.sq, rfl, k⟩
theorem ok_sin {f : Addr} {fd : FuncData} (F : Fun K "__init__" "Session.__init__" sSIn f fd) (T : Bt mg) (U : Sn K mg S) (DC : DefX P w K mg base 1 "check_council" pCkC (spCkC C)) (DT : DefX P w K mg base 7 "check_thoughts" pCkT (spCkT C)) : FnOk P w K mg base CX0 9 f fd pSIn (spSIn S C) := by
  refine F.ok scSIn (fun vs H Q E h => ?_) (fun cdv A outer s H vs Q E hr h => ?_)
  · obtain ⟨x, dx, cr, m, wv, tv, ms, ws, ps, rfl, _⟩ := h
    rfl
  · obtain ⟨x, dx, cr, m, wv, tv, ms, ws, ps, rfl, hx, c, ne, it, fo, pl, k⟩ := h
    refine ⟨_, (pss_cons (ps_expr (pe_fn DC hr (by decide) (pa_cons (pv 1) pa_nil)))
      (pss_cons (ps_expr (pe_fn DT hr (by decide) (pa_cons (pv 1) (pa_cons (pv 2) pa_nil))))
      (pss_one (ps_fld (pv 0) (pe_tup (pa_cons (pe_tup (pa_cons (pv 1) (pa_cons (pv 2) (pa_cons pe_int pa_nil)))) pa_nil)) rfl)))), ?_⟩
    refine ⟨_, rfl, cr, m, wv, ms, ws, rfl, c, ?_⟩
    refine ⟨_, rfl, _, rfl, cr, m, wv, tv, ms, ws, ps, rfl, c, it, fo, pl, fun H1 s1 => ?_⟩
    refine ⟨_, rfl, _, rfl, by show 3 ≤ sizeLine; decide, fun ta nta => ⟨by show 1 ≤ sizeLine; decide, fun sa nsa => ?_⟩⟩
    have s2 : Same H1 (upd H1 ta (.tup [.ref cr, tv, .int 0])) := same_upd nta
    have hta : Tu (upd H1 ta (.tup [.ref cr, tv, .int 0])) ta [.ref cr, tv, .int 0] := Tu.up
    generalize upd H1 ta (.tup [.ref cr, tv, .int 0]) = H2 at s2 hta nsa ⊢
    have s3 : Same H2 (upd H2 sa (.tup [.ref ta])) := same_upd nsa
    have hsa : Tu (upd H2 sa (.tup [.ref ta])) sa [.ref ta] := Tu.up
    generalize upd H2 sa (.tup [.ref ta]) = H3 at s3 hsa ⊢
    have s13 := (s1.trans s2).trans s3
    have h3 := s13 _ _ hx
    refine ⟨_, rfl, x, S, dx, [], rfl, h3, U.cl, U.nS, (by show 0 < 1000; decide), ?_⟩
    have t4 : TupS H3 (upd H3 x (.ins S dx (sf (.ref sa)))) := tupS_ins h3
    refine k _ (fun b o nb e => by rw [upd_ne nb]; exact s13 b o e) ⟨⟨dx, sa, [], ta, upd_same, t4 _ _ hsa, rfl, t4 _ _ (hta.same s3)⟩, (c.same s13).mono (fun o e => by rw [upd_ne ne]; exact e) t4, Im.mono t4 _ _ (Im.mono (Same.tups s13) _ _ it)⟩
theorem ok_sgo {f : Addr} {fd : FuncData} (F : Fun K "_go_on" "Session._go_on" sSGo f fd) (T : Bt mg) (U : Sn K mg S) : FnOk P w K mg base CX0 1 f fd pSGo (spSGo S C) := by
  refine F.ok scSGo (fun vs H Q E h => ?_) (fun cdv A outer s H vs Q E hr h => ?_)
  · obtain ⟨x, cr, m, wv, tv, tv', ms, ws, ps, ps', d, rfl, _⟩ := h
    rfl
  · obtain ⟨x, cr, m, wv, tv, tv', ms, ws, ps, ps', d, rfl, ses, ne, it, d100, k⟩ := h
    refine ⟨_, (pss_one (ps_fld (pv 0) (pe_op (catA K) (pe_fld (pv 0) rfl) (pe_tup (pa_cons (pe_tup (pa_cons (pv 1) (pa_cons (pv 2) (pa_cons (pv 3) pa_nil)))) pa_nil))) rfl)), ?_⟩
    obtain ⟨⟨dx, sa, xs, ta, h1, h2, h3, h4⟩, h5, h6⟩ := ses
    refine ⟨_, rfl, x, S, dx, _, _, rfl, h1, U.cl, U.nS, sf_s _, ?_⟩
    refine ⟨_, rfl, _, rfl, _, rfl, by show 3 ≤ sizeLine; decide, fun tb ntb => ⟨by show 1 ≤ sizeLine; decide, fun sb nsb => ?_⟩⟩
    have s2 : Same H (upd H tb (.tup [.ref cr, tv', .int ((d : Int) + 1)])) := same_upd ntb
    have htb : Tu (upd H tb (.tup [.ref cr, tv', .int ((d : Int) + 1)])) tb [.ref cr, tv', .int ((d : Int) + 1)] := Tu.up
    generalize upd H tb (.tup [.ref cr, tv', .int ((d : Int) + 1)]) = H2 at s2 htb nsb ⊢
    have s3 : Same H2 (upd H2 sb (.tup [.ref tb])) := same_upd nsb
    have hsb : Tu (upd H2 sb (.tup [.ref tb])) sb [.ref tb] := Tu.up
    generalize upd H2 sb (.tup [.ref tb]) = H3 at s3 hsb ⊢
    have s13 := s2.trans s3
    refine ⟨sa, sb, _, _, rfl, rfl, (h2.same s13).sq, hsb.sq, Nat.le_of_lt (small1000 (by rw [List.length_append, h3]; show d + 1 + 1 ≤ 1000; omega)), (fun e => by simp at e), (fun _ e => by simp at e), fun _ _ pc npc => ?_⟩
    have s4 : Same H3 (upd H3 pc (.tup ((xs ++ [.ref ta]) ++ [.ref tb]))) := same_upd npc
    have hpc : Tu (upd H3 pc (.tup ((xs ++ [.ref ta]) ++ [.ref tb]))) pc ((xs ++ [.ref ta]) ++ [.ref tb]) := Tu.up
    generalize upd H3 pc (.tup ((xs ++ [.ref ta]) ++ [.ref tb])) = H4 at s4 hpc ⊢
    have s14 := s13.trans s4
    have hx := s14 _ _ h1
    refine ⟨_, rfl, x, S, dx, _, rfl, hx, U.cl, U.nS, (by show 1 < 1000; decide), ?_⟩
    rw [sf_put]
    have t5 : TupS H4 (upd H4 x (.ins S dx (sf (.ref pc)))) := tupS_ins hx
    refine k _ (fun b o nb e => by rw [upd_ne nb]; exact s14 b o e) ⟨⟨dx, pc, xs ++ [.ref ta], tb, upd_same, t5 _ _ hpc, by rw [List.length_append, h3]; rfl, t5 _ _ (htb.same (s3.trans s4))⟩, (h5.same s14).mono (fun o e => by rw [upd_ne ne]; exact e) t5, Im.mono t5 _ _ (Im.mono (Same.tups s14) _ _ it)⟩
theorem ok_sdy {f : Addr} {fd : FuncData} (F : Fun K "day" "Session.day" sSDy f fd) (T : Bt mg) (U : Sn K mg S) (UC : Cn K mg C) (gW : GetN P w K mg base C "ways" 1 (getSp C "_ways")) (gC : GetN P w K mg base S "council" 1 (spSCo S C)) (gT : GetN P w K mg base S "thoughts" 1 (spSTh S C)) (gD : GetN P w K mg base S "days" 1 (spSDa S C)) (DW : DefX P w K mg base 5 "check_way" pCkW (spCkW C)) (DM : DefX P w K mg base 3 "means_of" pMno spMnW) (MG : MtN P w K mg base S "_go_on" 1 pSGo (spSGo S C) ["council", "thoughts", "days"] kbL kbV) : FnOk P w K mg base CX0 7 f fd pSDy (spSDy S C) := by
  refine F.ok scSDy (fun vs H Q E h => ?_) (fun cdv A outer s H vs Q E hr h => ?_)
  · obtain ⟨x, cr, m, wv, tv, ms, ws, ps, d, q, wy, B, rfl, _⟩ := h
    rfl
  · obtain ⟨x, cr, m, wv, tv, ms, ws, ps, d, q, wy, B, rfl, ses, ne, hq, d100, po, pl, k⟩ := h
    refine ⟨_, (pss_cons (ps_expr (pe_fn DW hr (by decide) (pa_cons (pe_prp gC U.cl hr (by decide) (pv 0)) (pa_cons (pv 1) pa_nil))))
      (pss_one (ps_expr (pe_mtN MG hr (by decide) (pv 0) (pa_cons (pe_prp gC U.cl hr (by decide) (pv 0)) (pa_cons (pe_fn DM hr (by decide) (pa_cons (pe_prp gT U.cl hr (by decide) (pv 0)) (pa_cons (pe_ix (ixT K) (pe_prp gW UC.cl hr (by decide) (pe_prp gC U.cl hr (by decide) (pv 0))) (pv 1) (fun _ _ => rfl)) pa_nil))) (pa_cons (pe_op op_add (pe_prp gD U.cl hr (by decide) (pv 0)) pe_int) pa_nil))))))), ?_⟩
    have ses0 := ses
    obtain ⟨⟨dx, sa, xs, ta, h1, h2, h3, h4⟩, h5, h6⟩ := ses0
    have h50 := h5
    obtain ⟨⟨dc, hc1⟩, hc2, hc3, mo, wo⟩ := h50
    obtain ⟨wb, ys, rfl, hwb, hys⟩ := hc3.tuple
    have yl : ys.length = ws.length := by rw [hys.length, List.length_map]
    obtain ⟨ql, _⟩ := List.getElem?_eq_some_iff.mp hq
    obtain ⟨u, hu⟩ : ∃ u, ys[q]? = some u := ⟨_, List.getElem?_eq_getElem (by omega)⟩
    obtain ⟨du, hdu, iu⟩ := hys.get hu
    rw [List.getElem?_map, hq] at hdu
    cases hdu
    have n6 := wo.n6
    refine ⟨_, rfl, x, dx, _, rfl, h1, x, cr, m, _, tv, ms, ws, ps, d, rfl, ses, _, rfl, cr, m, _, ms, ws, (q : Int), rfl, h5, by omega, by omega, ?_⟩
    refine ⟨_, rfl, x, dx, _, rfl, h1, sf_no _ (by decide +kernel), _, rfl, x, dx, _, rfl, h1, x, cr, m, _, tv, ms, ws, ps, d, rfl, ses, ?_⟩
    refine ⟨_, rfl, x, dx, _, rfl, h1, x, cr, m, _, tv, ms, ws, ps, d, rfl, ses, ?_⟩
    refine ⟨_, rfl, x, dx, _, rfl, h1, x, cr, m, _, tv, ms, ws, ps, d, rfl, ses, cr, dc, _, rfl, hc1, cr, dc, _, _, rfl, hc1, cf_w _ _, _, rfl, wb, _, _, _, rfl, rfl, hwb.sq, atI_nat hu, ?_⟩
    refine ⟨tv, u, ms.length, wy, ps, B, rfl, h6, po, pl, n6, iu, wo.way _ (List.mem_of_getElem? hq), fun H1 p s1 np im => ?_⟩
    refine ⟨_, rfl, x, dx, _, rfl, s1 _ _ h1, x, cr, m, _, tv, ms, ws, ps, d, rfl, ses.same s1, _, _, rfl, rfl, ?_⟩
    exact ⟨x, cr, m, _, tv, .ref p, ms, ws, ps, dayF wy ps, d, rfl, ses.same s1, ne, im, d100, fun H3 b3 ses3 => k H3 _ (fun b o nb e => b3 b o nb (s1 _ _ e)) ses3⟩
theorem ok_ssp {f : Addr} {fd : FuncData} (F : Fun K "spread" "Session.spread" sSSp f fd) (T : Bt mg) (U : Sn K mg S) (gT : GetN P w K mg base S "thoughts" 1 (spSTh S C)) (DS : DefX P w K mg base 3 "spread_of" pSpO spSpr) : FnOk P w K mg base CX0 5 f fd pSSp (spSSp S C) := by
  refine F.ok scSSp (fun vs H Q E h => ?_) (fun cdv A outer s H vs Q E hr h => ?_)
  · obtain ⟨x, cr, m, wv, tv, ms, ws, ps, d, B, rfl, _⟩ := h
    rfl
  · obtain ⟨x, cr, m, wv, tv, ms, ws, ps, d, B, rfl, ses, po, p1, p100, k⟩ := h
    refine ⟨_, (pss_one (ps_ret (pe_fn DS hr (by decide) (pa_cons (pe_prp gT U.cl hr (by decide) (pv 0)) pa_nil)))), ?_⟩
    have ses' := ses
    obtain ⟨⟨dx, sa, xs, ta, h1, h2, h3, h4⟩, h5, h6⟩ := ses'
    exact ⟨_, rfl, x, dx, _, rfl, h1, x, cr, m, wv, tv, ms, ws, ps, d, rfl, ses, tv, B, ps, rfl, h6, po, p1, p100, fun H1 p s1 np im => k H1 p s1 np im⟩
end
end M

namespace ZN
open PySem PySem.Spec PyProof.Rows L2 U
/-! ### a comprehension of two clauses, by two walks -/
section
variable {J J1 : It} {n n1 : Nat} {G G1 : Hp → Prop} {Y Y1 : Nat → Hp → V → Hp → Prop} {g g1 : TG} {tt tt1 : TT} {te : TE} {wi1 : TI} {vs vs1 : List Nat} {σ σ2 : L2.St} {H1 : Hp} {D : Addr} {Qd Nx : Hp → Prop}
/-- what the second clause asks -/
def Ask1 (g1 : TG) (tt1 : TT) (te : TE) (vs1 : List Nat) (σ2 : L2.St) (D : Addr) (Nx : Hp → Prop) (J1 : It) (H4 : Hp) : Prop := ∃ W1 : Nat → Nat → Hp → Prop, (∃ m, W1 0 m H4) ∧ ∀ j k H, W1 j k H →
  (J1.stop j H ∧ Nx H) ∨ (J1.go j H ∧ ∃ Nx1 : Hp → Prop, (∀ H', Nx1 H' → ∃ k', k' < k ∧ W1 (j + 1) k' H') ∧ ∀ x H', J1.yld j H x H' →
    g1 x (wipe σ2 vs1) H' fun σ3 H5 => wipe σ3 vs1 = wipe σ2 vs1 ∧ tt1 σ3 H5 fun b H6 =>
      if b = true then te σ3 H6 fun y H7 => ∃ acc, H7 D = some (.lst acc) ∧ acc.length < sizeLine ∧ Nx1 (upd H7 D (.lst (acc ++ [y]))) else Nx1 H6)
theorem lc2_in (w : Walk J1 n1 G1 Y1) (Pv : Nat → Hp → Prop) (h0 : Pv 0 H1) (hG : ∀ i H, i ≤ n1 → Pv i H → G1 H)
    (hs : ∀ j x H H', j < n1 → Pv j H → Y1 j H x H' → g1 x (wipe σ2 vs1) H' fun σ3 H5 => wipe σ3 vs1 = wipe σ2 vs1 ∧ tt1 σ3 H5 fun b H6 =>
      if b = true then te σ3 H6 fun y H7 => ∃ acc, H7 D = some (.lst acc) ∧ acc.length < sizeLine ∧ Pv (j + 1) (upd H7 D (.lst (acc ++ [y]))) else Pv (j + 1) H6) (hd : ∀ H, Pv n1 H → Nx H) : Ask1 g1 tt1 te vs1 σ2 D Nx J1 H1 := by
  refine ⟨fun i m H => m = n1 - i ∧ i ≤ n1 ∧ Pv i H, ⟨n1, by simp, Nat.zero_le _, h0⟩, fun i m H hw => ?_⟩
  obtain ⟨rfl, hi, p⟩ := hw
  have q := hG i H hi p
  by_cases l : i < n1
  · exact .inr ⟨w.goes i H l q, Pv (i + 1), fun H' p' => ⟨n1 - (i + 1), by omega, rfl, l, p'⟩, fun x H' y => hs i x H H' l p (w.yields i H x H' l q y)⟩
  · have e : i = n1 := by omega
    subst e
    exact .inl ⟨w.stops H q, hd H p⟩
theorem lc2_out (w : Walk J n G Y) (Pv : Nat → Hp → Prop) (h0 : Pv 0 (upd H1 D (.lst []))) (hG : ∀ i H, i ≤ n → Pv i H → G H)
    (hs : ∀ i x H H', i < n → Pv i H → Y i H x H' → g x (wipe σ vs) H' fun σ2 H2 => wipe σ2 vs = wipe σ vs ∧ tt σ2 H2 fun b H3 => if b = true then wi1 σ2 H3 (Ask1 g1 tt1 te vs1 σ2 D (Pv (i + 1))) else Pv (i + 1) H3) (hd : ∀ H, Pv n H → Qd H) :
    ∃ W : Nat → Nat → Hp → Prop, (∃ m, W 0 m (upd H1 D (.lst []))) ∧ ∀ i m H, W i m H → (J.stop i H ∧ Qd H) ∨ (J.go i H ∧ ∃ Nx : Hp → Prop, (∀ H', Nx H' → ∃ m', m' < m ∧ W (i + 1) m' H') ∧
      ∀ x H', J.yld i H x H' → g x (wipe σ vs) H' fun σ2 H2 => wipe σ2 vs = wipe σ vs ∧ tt σ2 H2 fun b H3 => if b = true then wi1 σ2 H3 (Ask1 g1 tt1 te vs1 σ2 D Nx) else Nx H3) := by
  refine ⟨fun i m H => m = n - i ∧ i ≤ n ∧ Pv i H, ⟨n, by simp, Nat.zero_le _, h0⟩, fun i m H hw => ?_⟩
  obtain ⟨rfl, hi, p⟩ := hw
  have q := hG i H hi p
  by_cases l : i < n
  · exact .inr ⟨w.goes i H l q, Pv (i + 1), fun H' p' => ⟨n - (i + 1), by omega, rfl, l, p'⟩, fun x H' y => hs i x H H' l p (w.yields i H x H' l q y)⟩
  · have e : i = n := by omega
    subst e
    exact .inl ⟨w.stops H q, hd H p⟩
end
end ZN

namespace M
open PySem L2 U ZN
def lessF (r c : List Int) : List Int := (r.zip c).map fun p => if p.2 < p.1 then p.2 else p.1
/-- what two rows have not in common -/
def gapF (r c : List Int) : Int := r.sum - (lessF r c).sum
theorem lessF_len {r c : List Int} (hl : c.length = r.length) : (lessF r c).length = r.length := by
  unfold lessF
  rw [List.length_map, List.length_zip]; omega
def spGap : Sp := fun vs H Q _ => ∃ (a b : Addr) (r c : List Int), vs = [.ref a, .ref b] ∧ H a = some (.lst (r.map V.int)) ∧ H b = some (.lst (c.map V.int)) ∧ c.length = r.length ∧ r.length ≤ 6 ∧ ∀ H', Same H H' → Q (.int (gapF r c)) H'
/-- the pairs below n, in order -/
def rowP (n i : Nat) : List (Nat × Nat) := (List.range (n - (i + 1))).map fun k => (i, i + 1 + k)
def pairsF (n : Nat) : List (Nat × Nat) := (List.range n).flatMap (rowP n)
theorem pairs_few : ∀ n, n < 7 → ∀ i, i < 7 → (((List.range n).take i).flatMap (rowP n)).length ≤ 100 := by decide +kernel
theorem row_few {n i q : Nat} (h : n < 7) : ((rowP n i).take q).length ≤ 10 := by
  rw [List.length_take]
  unfold rowP
  rw [List.length_map, List.length_range]
  omega
def AcS (G : Hp) (D : Addr) (ds : List PyData) (G1 : Hp) : Prop := ∃ us : List V, G1 D = some (.lst us) ∧ ImAll G1 us ds ∧ Same G G1
theorem acS0 {G : Hp} {D : Addr} (hD : G D = none) : AcS G D [] (upd G D (.lst [])) := ⟨[], upd_same, .nil, same_upd hD⟩
theorem acS1 {G G1 G2 : Hp} {D : Addr} {ds : List PyData} {y : V} {d : PyData} (hD : G D = none) (h : AcS G D ds G1) (s2 : Same G1 G2) (iy : Im G2 y d) (hM : ds.length ≤ 1000) :
    ∃ acc : List V, G2 D = some (.lst acc) ∧ acc.length < sizeLine ∧ AcS G D (ds ++ [d]) (upd G2 D (.lst (acc ++ [y]))) := by
  obtain ⟨us, h1, iu, s1⟩ := h
  have h2 := s2 _ _ h1
  refine ⟨us, h2, small1000 (by rw [iu.length]; exact hM), us ++ [y], upd_same, ImAll.mono (TupS.lst h2) _ _ (ImAll.snoc iy (ImAll.mono (Same.tups s2) _ _ iu)), fun b o e => ?_⟩
  rw [upd_ne (ne_of_none e hD)]
  exact s2 _ _ (s1 _ _ e)
def dPair (p : Nat × Nat) : PyData := .tuple [.int (p.1 : Int), .int (p.2 : Int)]
def spPaB : Sp := fun vs H Q _ => ∃ (n : Nat), vs = [.int n] ∧ n ≤ 6 ∧ ∀ (H' : Hp) (L : Addr) (us : List V), Same H H' → H L = none → H' L = some (.lst us) → ImAll H' us ((pairsF n).map dPair) → Q (.ref L) H'
section
variable {P : Program} {w : World} {K : PySem.W.Frag} {mg : Str → Option Value} {base : Heap}
end
end M

namespace M
open PySem L2 U ZN
def spUnd : Sp := fun vs H Q _ => ∃ (v u : V) (f g : Fr), vs = [v, u] ∧ Im H v (dFr f) ∧ Im H u (dFr g) ∧ CMulW f.1 g.2 ∧ CMulW g.1 f.2 ∧ Q (.bl (decide (f.1 * g.2 < g.1 * f.2))) H
/-- one fraction more, cut -/
def sumStep (a f : Fr) : Fr := low (a.1 * f.2 + f.1 * a.2) (a.2 * f.2)
def sumF (fs : List Fr) : Fr := fs.foldl sumStep (0, 1)
def StepOk (a f : Fr) : Prop := CMulW a.1 f.2 ∧ CMulW f.1 a.2 ∧ CMulW a.2 f.2 ∧ 0 < a.2 * f.2 ∧ (a.2 * f.2).natAbs.log2 < 9000
def spSum : Sp := fun vs H Q _ => ∃ (a : Addr) (us : List V) (fs : List Fr), vs = [.ref a] ∧ H a = some (.lst us) ∧ ImAll H us (fs.map dFr) ∧ (∀ i f, fs[i]? = some f → StepOk (sumF (fs.take i)) f) ∧
  ∀ (H' : Hp) (p : Addr), Same H H' → H p = none → Im H' (.ref p) (dFr (sumF fs)) → Q (.ref p) H'
theorem sumF_snoc {fs : List Fr} {i : Nat} {f : Fr} (h : fs[i]? = some f) : sumF (fs.take (i + 1)) = sumStep (sumF (fs.take i)) f := by
  unfold sumF
  rw [List.take_succ, h, List.foldl_append]
  rfl
section
variable {P : Program} {w : World} {K : PySem.W.Frag} {mg : Str → Option Value} {base : Heap}
end
end M

namespace U
open PySem L2 PySem.Spec PyProof.Rows
/-! ### walked: a list or a tuple, whichever it is -/
def iSeq (K : PySem.W.Frag) (tl : TE) : TI := fun σ H R => tl σ H fun x H1 => ∃ a, x = .ref a ∧ (((∃ xs, SqL K H1 a xs) ∧ R (Itl K a) H1) ∨ ((∃ xs, SqT K H1 a xs) ∧ R (Itt K a) H1))
theorem piS {X : Cx} {tg : Expr} (K : PySem.W.Frag) {l : Expr} {tl : TE} (hl : PE X l tl) (h : X.K = K := by rfl) : PI X tg l (iSeq K tl) := by
  subst h
  refine ⟨fun pins s σ H R I h => ?_⟩
  refine thn (hl.run pins s σ H _ I h) fun v s1 ⟨x, H1, I1, r1, q1⟩ => ?_
  obtain ⟨a, e, q1⟩ := q1
  subst e
  cases r1
  rcases q1 with ⟨⟨xs, hq⟩, q⟩ | ⟨⟨xs, hq⟩, q⟩
  · obtain ⟨its, rv, p, hz⟩ := I1.list hq
    refine wpAny_pyIter_list p.isList ?_
    refine ⟨s1.heap.objs.size, [s1.heap.objs.size], _, _, H1, rfl, I1.kept (t' := s1.toks) fun b o e => Heap.get?_push_of_some _ e, turn_list a _, ⟨_, Heap.get?_push_size _ rfl, rfl, rfl⟩, fun b hb => ?_, q⟩
    have e : b = s1.heap.objs.size := by simpa using hb
    subst e
    exact I1.fpOk (Nat.le_refl _) (I1.hok.fresh (Nat.le_refl _))
  · obtain ⟨its, rv, p, hz⟩ := I1.tuple hq
    refine wpAny_pyIter_tuple (show s1.heap.IsTuple a its.toArray from p) ?_
    refine ⟨s1.heap.objs.size, [s1.heap.objs.size], _, _, H1, rfl, I1.kept (t' := s1.toks) fun b o e => Heap.get?_push_of_some _ e, turn_tuple a _, ⟨_, Heap.get?_push_size _ rfl, rfl, rfl⟩, fun b hb => ?_, q⟩
    have e : b = s1.heap.objs.size := by simpa using hb
    subst e
    exact I1.fpOk (Nat.le_refl _) (I1.hok.fresh (Nat.le_refl _))
end U

namespace U
open PySem L2
def rIxS (K : PySem.W.Frag) : R2 := fun x i H Q => rIxL K x i H Q ∨ rIxT K x i H Q
theorem ixS {X : Cx} (K : PySem.W.Frag) (h : X.K = K := by rfl) : IxR X (rIxS K) := by
  intro value slice pins s σ H x y v u Q I r1 r2 q e
  rcases q with q | q
  · exact ixL K h value slice pins s σ H x y v u Q I r1 r2 q e
  · exact ixT K h value slice pins s σ H x y v u Q I r1 r2 q e
end U
namespace M
open PySem L2 U ZN
def loStep (a f : Fr) : Fr := if f.1 * a.2 < a.1 * f.2 then f else a
def hiStep (a f : Fr) : Fr := if a.1 * f.2 < f.1 * a.2 then f else a
/-- the least and the greatest one -/
def loF (fs : List Fr) : Fr := fs.foldl loStep (fs.headD (0, 1))
def hiF (fs : List Fr) : Fr := fs.foldl hiStep (fs.headD (0, 1))
theorem fold_mem {step : Fr → Fr → Fr} (hs : ∀ a f, step a f = f ∨ step a f = a) {fs : List Fr} : ∀ (l : List Fr) (a : Fr), a ∈ fs → (∀ f ∈ l, f ∈ fs) → l.foldl step a ∈ fs
  | [], a, h, _ => h
  | f :: l, a, h, hl => by
    refine fold_mem hs l _ ?_ fun g hg => hl g (List.mem_cons_of_mem _ hg)
    rcases hs a f with e | e <;> rw [e]
    · exact hl f List.mem_cons_self
    · exact h
theorem loStep_or (a f : Fr) : loStep a f = f ∨ loStep a f = a := by unfold loStep; split <;> simp
theorem hiStep_or (a f : Fr) : hiStep a f = f ∨ hiStep a f = a := by unfold hiStep; split <;> simp
def SeqAt (H : Hp) (a : Addr) (us : List V) : Prop := H a = some (.lst us) ∨ Tu H a us
theorem SeqAt.same {H H' : Hp} {a : Addr} {us : List V} (h : SeqAt H a us) (s : Same H H') : SeqAt H' a us := h.imp (s _ _) (Same.tups s _ _)
def spEnds : Sp := fun vs H Q _ => ∃ (a : Addr) (us : List V) (fs : List Fr), vs = [.ref a] ∧ SeqAt H a us ∧ ImAll H us (fs.map dFr) ∧ fs ≠ [] ∧ (∀ f ∈ fs, ∀ g ∈ fs, CMulW f.1 g.2) ∧
  ∀ (H' : Hp) (p : Addr) (c b : V), Same H H' → H p = none → H' p = some (.lst [c, b]) → Im H' c (dFr (loF fs)) → Im H' b (dFr (hiF fs)) → Q (.ref p) H'
section
variable {P : Program} {w : World} {K : PySem.W.Frag} {mg : Str → Option Value} {base : Heap}
end
end M

namespace M
open PySem L2 U ZN
/-- the greatest less the least -/
def spdF (fs : List Fr) : Fr := sumF [hiF fs, (0 - (loF fs).1, (loF fs).2)]
def spSpd : Sp := fun vs H Q _ => ∃ (a : Addr) (us : List V) (fs : List Fr), vs = [.ref a] ∧ SeqAt H a us ∧ ImAll H us (fs.map dFr) ∧ fs ≠ [] ∧ (∀ f ∈ fs, ∀ g ∈ fs, CMulW f.1 g.2) ∧
  StepOk (0, 1) (hiF fs) ∧ StepOk (sumStep (0, 1) (hiF fs)) (0 - (loF fs).1, (loF fs).2) ∧
  ∀ (H' : Hp) (p : Addr), Same H H' → H p = none → Im H' (.ref p) (dFr (spdF fs)) → Q (.ref p) H'
section
variable {P : Program} {w : World} {K : PySem.W.Frag} {mg : Str → Option Value} {base : Heap}
end
end M

namespace ZN
open PySem PySem.Spec PyProof.Rows L2 U
/-! ### max(xs, default = d), xs a list of ints -/
section
variable {prog : Program} {w : World} {A : Around} {E : Value → Shared → Prop} {s : Shared}
theorem max_dflt {l : Addr} {us : List Value} {ns : List Int} {d : Value} {Q : Value → Shared → Prop} (hA : A.handled = none) (hl : s.heap.IsList l us.toArray) (hi : IntsAre us ns)
    (h0 : ns = [] → ∀ h' tk, (∀ b o, s.heap.get? b = some o → h'.get? b = some o) → Q d { s with heap := h', toks := tk })
    (h : ∀ h' tk m t, (∀ b o, s.heap.get? b = some o → h'.get? b = some o) → m ∈ ns → (∀ y ∈ ns, y ≤ m) → Q (.int m t) { s with heap := h', toks := tk }) : wpAny (model prog w) A (call (.builtin "max") [.ref l] [(Str.ofString "default", d)]) Q E s := by
  have sz : us.length = ns.length := hi.length
  have sz2 : us.toArray.size = ns.length := by rw [List.size_toArray, sz]
  obtain ⟨b1, b2⟩ := argBest_gt (fun i => (ns[i]?).getD 0) (us.toArray.size - 1)
  refine call_max_walkD (PySem.W.iter_listW (A := A.in1) hA hl fun s₂ e W st hfp hw hk => ?_)
  refine ⟨_, _, _, _, _, _, _, s.heap, _, rfl, W, st, hfp, hw, hk, fun hz s' m => ?_, fun hp => ⟨fun i j vi vj s Q E _ p q r => CmpOf.ints_gt (fun i => (ns[i]?).getD 0) (fun i v hv => ints_at hi (by rw [← List.getElem?_toArray]; exact hv)) i j vi vj s Q E p q r, fun v s' hP m => ?_⟩⟩
  · obtain ⟨h', tk, rfl, hk'⟩ := PySem.W.moved_old e rfl m
    exact h0 (List.eq_nil_of_length_eq_zero (by omega)) h' tk hk'
  · obtain ⟨h', tk, rfl, hk'⟩ := PySem.W.moved_old e rfl m
    obtain ⟨t, rfl⟩ := ints_at hi (by rw [← List.getElem?_toArray]; exact hP)
    have in0 : ∀ j, j < ns.length → (ns[j]?).getD 0 ∈ ns := fun j hj => by
      rw [List.getElem?_eq_getElem hj]
      exact List.getElem_mem hj
    refine h h' tk _ t hk' (in0 _ (by omega)) fun y hy => ?_
    obtain ⟨j, hj, rfl⟩ := List.getElem_of_mem hy
    have := b2 j (by omega)
    rw [List.getElem?_eq_getElem hj] at this
    exact this
end
section
variable {X : Cx}
def rMaxDf (K : PySem.W.Frag) : List V → List V → Hp → VK → Prop := fun vs zs H Q => ∃ (a : Addr) (ns : List Int) (d : V), vs = [V.ref a] ∧ zs = [d] ∧ SqL K H a (ns.map V.int) ∧ (ns = [] → Q d H) ∧ ∀ m, m ∈ ns → (∀ y, y ∈ ns → y ≤ m) → Q (.int m) H
theorem cr_maxDf (K : PySem.W.Frag) (hc : X.calm = true := by rfl) (hK : X.K = K := by rfl) : CallRK X (.builtin "max") [Str.ofString "default"] (rMaxDf K) := by
  subst hK
  intro pins s σ H xs zs us ws Q I r1 r2 h
  obtain ⟨a, ns, d, rfl, rfl, hs, q0, q⟩ := h
  obtain ⟨its, rv, hl, _⟩ := I.list hs
  rw [Vals.ref1 r1]
  cases r2 with
  | cons rd t =>
    cases t
    exact max_dflt (I.ok.hd hc) hl.isList rv.ints (fun e h' tk hk => ⟨d, H, I.kept hk, rd, q0 e⟩) fun h' tk m t' hk h1 h2 => ⟨.int m, H, I.kept hk, ⟨t', rfl⟩, q m h1 h2⟩
end
end ZN

namespace M
open PySem L2 U ZN
/-- the gap of a pair of rows -/
def gapP (M : List (List Int)) (p : Nat × Nat) : Int := gapF ((M[p.1]?).getD []) ((M[p.2]?).getD [])
/-- what is left, its top -/
def IsLeft (M : List (List Int)) (m : Int) : Prop := (pairsF M.length = [] → m = 0) ∧ (pairsF M.length ≠ [] → (∃ p ∈ pairsF M.length, m = gapP M p) ∧ ∀ p ∈ pairsF M.length, gapP M p ≤ m)
def spLof : Sp := fun vs H Q _ => ∃ (a : Addr) (us : List V) (M : List (List Int)), vs = [.ref a] ∧ H a = some (.lst us) ∧ RL H us M ∧ 1 ≤ M.length ∧ M.length ≤ 6 ∧ (∀ r ∈ M, r.length = M.length) ∧
  ∀ (H' : Hp) (p : Addr) (m : Int), Same H H' → H p = none → H' p = some (.tup [.int m, .int ((M[0]?).getD []).sum]) → IsLeft M m → Q (.ref p) H'
theorem pairs_lt {n : Nat} {p : Nat × Nat} (h : p ∈ pairsF n) : p.1 < n ∧ p.2 < n := by
  unfold pairsF rowP at h
  simp only [List.mem_flatMap, List.mem_map, List.mem_range] at h
  obtain ⟨i, hi, k, hk, rfl⟩ := h
  exact ⟨hi, by show i + 1 + k < n; omega⟩
theorem gN0 {i : Nat} {v : V} {σ : L2.St} {H : Hp} {Q : L2.St → Hp → Prop} (h : Q (σ.set i (some v)) H) : gName i v σ H Q := h
section
variable {P : Program} {w : World} {K : PySem.W.Frag} {mg : Str → Option Value} {base : Heap}
end
end M

namespace M
open PySem L2 U ZN
structure Wrd (n : Nat) (ws : List (List (List Int))) (road : List Nat) : Prop where
  n1 : 1 ≤ n
  wo : WaysOk n ws
  r12 : road.length ≤ 12
  q : ∀ q ∈ road, q < ws.length
theorem Wrd.ok {n : Nat} {ws : List (List (List Int))} {road : List Nat} (W : Wrd n ws road) {B : Int} {ps : List Fr} (po : PartsOk B ps) (hb : B < 2 ^ 1600) (hl : ps.length = n) :
    ∃ S, Rows n S (rowsF n ws road) ∧ laterF ws ps road = (rowsF n ws road).map (meanF B ps) ∧ PartsOk (B * S) (laterF ws ps road) ∧ (laterF ws ps road).length = n ∧ S < 2 ^ 2700 := by
  obtain ⟨S, k1, _, k3, k4, k5⟩ := road_ok po hb hl W.n1 W.wo W.r12 W.q road.length (Nat.le_refl _)
  rw [List.take_length] at k1 k4 k5
  exact ⟨S, k1, k4, k5, by rw [k4, List.length_map, k1.l], k3⟩
theorem gapF_nil : gapF [] [] = 0 := rfl
theorem gapF_cons (x y : Int) (r c : List Int) : gapF (x :: r) (y :: c) = (x - if y < x then y else x) + gapF r c := by
  unfold gapF lessF
  rw [List.zip_cons_cons, List.map_cons, List.sum_cons, List.sum_cons]
  omega
theorem gap_pos : ∀ (r c : List Int), r.length = c.length → 0 ≤ gapF r c
  | [], [], _ => Int.le_refl _
  | [], _ :: _, h => by simp at h
  | _ :: _, [], h => by simp at h
  | x :: r, y :: c, h => by
    have ih := gap_pos r c (by simpa using h)
    rw [gapF_cons]
    by_cases q : y < x
    · rw [if_pos q]; omega
    · rw [if_neg q]; omega
theorem gap_two : ∀ (r c : List Int), r.length = c.length → gapF r c - gapF c r = r.sum - c.sum
  | [], [], _ => rfl
  | [], _ :: _, h => by simp at h
  | _ :: _, [], h => by simp at h
  | x :: r, y :: c, h => by
    have ih := gap_two r c (by simpa using h)
    rw [gapF_cons, gapF_cons, List.sum_cons, List.sum_cons]
    by_cases q : y < x
    · rw [if_pos q, if_neg (by omega)]; omega
    · rw [if_neg q]
      by_cases q2 : x < y
      · rw [if_pos q2]; omega
      · rw [if_neg q2]; omega
theorem gap_self : ∀ r : List Int, gapF r r = 0
  | [] => rfl
  | x :: r => by rw [gapF_cons, gap_self r, if_neg (by omega)]; omega
theorem gap_dot {lo hi : Int} : ∀ (r c t : List Int), r.length = c.length → r.length = t.length → (∀ y ∈ t, lo ≤ y ∧ y ≤ hi) → dot r t - dot c t ≤ gapF r c * hi - gapF c r * lo
  | [], [], t, _, _, _ => by rw [dot_nil, gapF_nil, Int.zero_mul, Int.zero_mul]; exact Int.le_refl _
  | [], _ :: _, _, h, _, _ => by simp at h
  | _ :: _, [], _, h, _, _ => by simp at h
  | _ :: _, _ :: _, [], _, h, _ => by simp at h
  | x :: r, y :: c, z :: t, h, g, k => by
    have ih := gap_dot (lo := lo) (hi := hi) r c t (by simpa using h) (by simpa using g) fun q hq => k q (List.mem_cons_of_mem _ hq)
    obtain ⟨h1, h2⟩ := k z List.mem_cons_self
    rw [dot_cons, dot_cons, gapF_cons, gapF_cons, Int.add_mul, Int.add_mul]
    by_cases q : y < x
    · rw [if_pos q, if_neg (by omega)]
      have e := Int.mul_le_mul_of_nonneg_left h2 (show 0 ≤ x - y by omega)
      have e2 : (x - y) * z = x * z - y * z := Int.sub_mul x y z
      have e3 : (y - y) * lo = 0 := by rw [Int.sub_self, Int.zero_mul]
      omega
    · rw [if_neg q]
      have e3 : (x - x) * hi = 0 := by rw [Int.sub_self, Int.zero_mul]
      have e := Int.mul_le_mul_of_nonneg_left h1 (show 0 ≤ y - x by omega)
      have e2 : (y - x) * z = y * z - x * z := Int.sub_mul y x z
      by_cases q2 : x < y
      · rw [if_pos q2]; omega
      · have e4 : x = y := by omega
        subst e4
        rw [if_neg q2]; omega
/-- whom it helps -/
def pkF (r c : List Int) : List Int := (r.zip c).map fun p => if p.2 < p.1 then 1 else 0
theorem pk_dot : ∀ (r c : List Int), r.length = c.length → dot r (pkF r c) - dot c (pkF r c) = gapF r c
  | [], [], _ => rfl
  | [], _ :: _, h => by simp at h
  | _ :: _, [], h => by simp at h
  | x :: r, y :: c, h => by
    have ih := pk_dot r c (by simpa using h)
    have e : pkF (x :: r) (y :: c) = (if y < x then 1 else 0) :: pkF r c := rfl
    rw [e, dot_cons, dot_cons, gapF_cons]
    by_cases q : y < x
    · rw [if_pos q, if_pos q]; omega
    · rw [if_neg q, if_neg q]; omega
theorem pk_len {r c : List Int} (h : r.length = c.length) : (pkF r c).length = r.length := by
  unfold pkF
  rw [List.length_map, List.length_zip]; omega
theorem pk_mem {r c : List Int} : ∀ b ∈ pkF r c, b = 0 ∨ b = 1 := fun b hb => by
  unfold pkF at hb
  obtain ⟨p, _, rfl⟩ := List.mem_map.mp hb
  by_cases q : p.2 < p.1
  · exact .inr (if_pos q)
  · exact .inl (if_neg q)
/-! ### all thoughts of 0 and 1 -/
def onesF : Nat → List (List Fr)
  | 0 => [[]]
  | n + 1 => (onesF n).map (· ++ [((0 : Int), (1 : Int))]) ++ (onesF n).map (· ++ [((1 : Int), (1 : Int))])
def frI (x : List Int) : List Fr := x.map fun b => (b, (1 : Int))
theorem ones_mem : ∀ (n : Nat) (x : List Int), x.length = n → (∀ b ∈ x, b = 0 ∨ b = 1) → frI x ∈ onesF n
  | 0, x, h, _ => by
    have := List.length_eq_zero_iff.mp h
    subst this
    exact List.mem_cons_self
  | n + 1, x, h, g => by
    rcases List.eq_nil_or_concat x with rfl | ⟨y, b, rfl⟩
    · simp at h
    · rw [List.concat_eq_append] at *
      rw [List.length_append] at h
      have ih := ones_mem n y (by simpa using h) fun q hq => g q (List.mem_append_left _ hq)
      have e : frI (y ++ [b]) = frI y ++ [(b, 1)] := by unfold frI; rw [List.map_append]; rfl
      rw [e]
      show _ ∈ (onesF n).map _ ++ (onesF n).map _
      rcases g b (List.mem_append_right _ List.mem_cons_self) with rfl | rfl
      · exact List.mem_append_left _ (List.mem_map_of_mem ih)
      · exact List.mem_append_right _ (List.mem_map_of_mem ih)
theorem ones_is : ∀ (n : Nat) (f : List Fr), f ∈ onesF n → ∃ x : List Int, f = frI x ∧ x.length = n ∧ ∀ b ∈ x, b = 0 ∨ b = 1
  | 0, f, h => ⟨[], List.mem_singleton.mp h, rfl, fun _ hb => nomatch hb⟩
  | n + 1, f, h => by
    have key : ∀ (b : Int), (b = 0 ∨ b = 1) → f ∈ (onesF n).map (· ++ [(b, (1 : Int))]) → ∃ x : List Int, f = frI x ∧ x.length = n + 1 ∧ ∀ b ∈ x, b = 0 ∨ b = 1 := fun b hb hf => by
      obtain ⟨g, hg, rfl⟩ := List.mem_map.mp hf
      obtain ⟨x, rfl, hx, hb'⟩ := ones_is n g hg
      refine ⟨x ++ [b], by unfold frI; rw [List.map_append]; rfl, by rw [List.length_append, hx]; rfl, fun c hc => ?_⟩
      rcases List.mem_append.mp hc with q | q
      · exact hb' c q
      · rw [List.mem_singleton.mp q]; exact hb
    rcases List.mem_append.mp h with q | q
    · exact key 0 (.inl rfl) q
    · exact key 1 (.inr rfl) q
theorem ones_len : ∀ n, (onesF n).length = 2 ^ n
  | 0 => rfl
  | n + 1 => by
    show ((onesF n).map _ ++ (onesF n).map _).length = _
    rw [List.length_append, List.length_map, List.length_map, ones_len n, Nat.pow_succ]
    omega
theorem frI_tops (x : List Int) : tops 1 (frI x) = x := by
  unfold tops frI
  rw [List.map_map]
  conv => rhs; rw [← List.map_id x]
  refine List.map_congr_left fun b _ => ?_
  show b * (1 / 1) = b
  rw [show (1 : Int) / 1 = 1 from rfl, Int.mul_one]
theorem frI_parts {x : List Int} (h : ∀ b ∈ x, b = 0 ∨ b = 1) : PartsOk 1 (frI x) := ⟨by decide, by decide, fun f hf => by
  unfold frI at hf
  obtain ⟨b, hb, rfl⟩ := List.mem_map.mp hf
  refine ⟨⟨(by decide : (0 : Int) < 1), Nat.gcd_one_right _⟩, ⟨1, rfl⟩, ?_⟩
  show b.natAbs ≤ 2 ^ 200 * 1
  rcases h b hb with rfl | rfl <;> decide⟩
/-! ### what is left -/
theorem pairs_in {n i j : Nat} (hi : i < j) (hj : j < n) : (i, j) ∈ pairsF n := by
  unfold pairsF rowP
  simp only [List.mem_flatMap, List.mem_map, List.mem_range]
  exact ⟨i, by omega, j - (i + 1), by omega, by rw [show i + 1 + (j - (i + 1)) = j by omega]⟩
theorem left_all {n : Nat} {S m : Int} {M : List (List Int)} (h : Rows n S M) (hm : IsLeft M m) : 0 ≤ m ∧ (∀ r ∈ M, ∀ c ∈ M, gapF r c ≤ m) ∧ (m = 0 ∨ ∃ r ∈ M, ∃ c ∈ M, m = gapF r c) := by
  have sym : ∀ r ∈ M, ∀ c ∈ M, gapF r c = gapF c r ∧ 0 ≤ gapF r c := fun r hr c hc => by
    obtain ⟨a1, a2, a3⟩ := h.r r hr
    obtain ⟨b1, b2, b3⟩ := h.r c hc
    have := gap_two r c (by omega)
    exact ⟨by omega, gap_pos r c (by omega)⟩
  have lt : ∀ i j (hi : i < j) (hj : j < M.length), gapF (M[i]'(by omega)) (M[j]'hj) ≤ m := fun i j hi hj => by
    have hp := pairs_in hi hj
    have := (hm.2 (fun e => by rw [e] at hp; cases hp)).2 _ hp
    unfold gapP at this
    rw [List.getElem?_eq_getElem (show (i, j).1 < M.length by show i < _; omega), List.getElem?_eq_getElem (show (i, j).2 < M.length by exact hj)] at this
    exact this
  have m0 : 0 ≤ m ∧ (m = 0 ∨ ∃ r ∈ M, ∃ c ∈ M, m = gapF r c) := by
    by_cases e : pairsF M.length = []
    · rw [hm.1 e]; exact ⟨Int.le_refl _, .inl rfl⟩
    · obtain ⟨⟨p, hp, e1⟩, _⟩ := hm.2 e
      obtain ⟨p1, p2⟩ := pairs_lt hp
      unfold gapP at e1
      rw [List.getElem?_eq_getElem p1, List.getElem?_eq_getElem p2] at e1
      have e1 : m = gapF M[p.1] M[p.2] := e1
      have g := (sym _ (List.getElem_mem p1) _ (List.getElem_mem p2)).2
      exact ⟨by omega, .inr ⟨_, List.getElem_mem p1, _, List.getElem_mem p2, e1⟩⟩
  refine ⟨m0.1, fun r hr c hc => ?_, m0.2⟩
  obtain ⟨i, hi, rfl⟩ := List.getElem_of_mem hr
  obtain ⟨j, hj, rfl⟩ := List.getElem_of_mem hc
  rcases Nat.lt_trichotomy i j with q | q | q
  · exact lt i j q hj
  · subst q
    rw [gap_self]
    exact m0.1
  · rw [(sym _ hr _ hc).1]
    exact lt j i q hi
theorem gap_less {n : Nat} {S m lo hi : Int} {M : List (List Int)} {t : List Int} (h : Rows n S M) (hm : IsLeft M m) (ht : t.length = n) (hl : lo ≤ hi) (hy : ∀ y ∈ t, lo ≤ y ∧ y ≤ hi) : gapT (M.map fun r => dot r t) ≤ m * (hi - lo) := by
  obtain ⟨m0, ma, _⟩ := left_all h hm
  obtain ⟨a1, a2, a3⟩ := gap_is (M.map fun r => dot r t)
  have z : 0 ≤ m * (hi - lo) := Int.mul_nonneg m0 (by omega)
  rcases a3 with e | ⟨a, ha, b, hb, e⟩
  · omega
  · obtain ⟨r, hr, rfl⟩ := List.mem_map.mp ha
    obtain ⟨c, hc, rfl⟩ := List.mem_map.mp hb
    obtain ⟨r1, r2, r3⟩ := h.r r hr
    obtain ⟨c1, c2, c3⟩ := h.r c hc
    have g := gap_dot (lo := lo) (hi := hi) r c t (by omega) (by omega) hy
    have g2 := gap_two r c (by omega)
    have g3 : gapF c r = gapF r c := by omega
    rw [g3, ← Int.mul_sub] at g
    have := Int.mul_le_mul_of_nonneg_right (ma r hr c hc) (show 0 ≤ hi - lo by omega)
    omega
theorem left_ones {n : Nat} {S m : Int} {M : List (List Int)} (h : Rows n S M) (hm : IsLeft M m) : 0 ≤ m ∧ (∀ x ∈ onesF n, gapT (M.map fun r => dot r (tops 1 x)) ≤ m) ∧ (m = 0 ∨ ∃ x ∈ onesF n, gapT (M.map fun r => dot r (tops 1 x)) = m) := by
  obtain ⟨m0, ma, mi⟩ := left_all h hm
  have up : ∀ x ∈ onesF n, gapT (M.map fun r => dot r (tops 1 x)) ≤ m := fun f hf => by
    obtain ⟨x, rfl, xl, xb⟩ := ones_is n f hf
    rw [frI_tops]
    have := gap_less (lo := 0) (hi := 1) h hm xl (by decide) fun y hy => by rcases xb y hy with rfl | rfl <;> decide
    omega
  refine ⟨m0, up, ?_⟩
  rcases mi with e | ⟨r, hr, c, hc, e⟩
  · exact .inl e
  · refine .inr ?_
    obtain ⟨r1, r2, r3⟩ := h.r r hr
    obtain ⟨c1, c2, c3⟩ := h.r c hc
    have hx := ones_mem n (pkF r c) (by rw [pk_len (by omega), r1]) pk_mem
    refine ⟨_, hx, ?_⟩
    have h1 := up _ hx
    rw [frI_tops] at h1 ⊢
    obtain ⟨a1, a2, a3⟩ := gap_is (M.map fun r' => dot r' (pkF r c))
    have h2 := a2 _ (List.mem_map_of_mem hr) _ (List.mem_map_of_mem hc)
    rw [pk_dot r c (by omega)] at h2
    omega
theorem later_tops {n : Nat} {B S : Int} {ps : List Fr} {M : List (List Int)} (po : PartsOk B ps) (h : Rows n S M) : tops (B * S) (M.map (meanF B ps)) = M.map fun r => dot r (tops B ps) := by
  have hBS := Int.mul_pos po.p h.p
  unfold tops
  rw [List.map_map]
  refine List.map_congr_left fun r hr => ?_
  obtain ⟨q1, q2, q3⟩ := h.r r hr
  show (meanF B ps r).1 * (B * S / (meanF B ps r).2) = dot r (tops B ps)
  unfold meanF
  rw [q3]
  exact (top_low hBS (Int.dvd_refl _) rfl).2
/-- the worth of a fraction over B -/
def valB (B : Int) (f : Fr) : Int := f.1 * (B / f.2)
theorem low_val {B : Int} {f : Fr} (hB : 0 < B) (o : FrOk f) (d : f.2 ∣ B) : low (valB B f) B = f := by
  have op := o.p
  have e2 : low (f.1 * (B / f.2)) B = low f.1 f.2 := by
    refine low_eq hB op ?_
    obtain ⟨c, hc⟩ := d
    rw [hc, Int.mul_ediv_cancel_left _ (Int.ne_of_gt op)]
    ac_rfl
  unfold valB
  rw [e2, low_self o]
theorem under_val {B : Int} {f g : Fr} (hB : 0 < B) (o : FrOk f) (d : f.2 ∣ B) (o' : FrOk g) (d' : g.2 ∣ B) : (f.1 * g.2 < g.1 * f.2) ↔ valB B f < valB B g := by
  have := low_gt (x := valB B g) (y := valB B f) hB
  rw [low_val hB o d, low_val hB o' d'] at this
  exact this
theorem fold_lo {B : Int} (hB : 0 < B) : ∀ (l : List Fr) (a : Fr), FrOk a ∧ a.2 ∣ B → (∀ f ∈ l, FrOk f ∧ f.2 ∣ B) → valB B (l.foldl loStep a) ≤ valB B a ∧ ∀ f ∈ l, valB B (l.foldl loStep a) ≤ valB B f
  | [], a, _, _ => ⟨Int.le_refl _, fun _ h => nomatch h⟩
  | f :: l, a, ha, hl => by
    have hf := hl f List.mem_cons_self
    have hs : FrOk (loStep a f) ∧ (loStep a f).2 ∣ B := by rcases loStep_or a f with e | e <;> rw [e] <;> assumption
    obtain ⟨h1, h2⟩ := fold_lo hB l (loStep a f) hs fun g hg => hl g (List.mem_cons_of_mem _ hg)
    have u := under_val hB hf.1 hf.2 ha.1 ha.2
    have h3 : valB B (loStep a f) ≤ valB B a ∧ valB B (loStep a f) ≤ valB B f := by
      unfold loStep
      by_cases q : f.1 * a.2 < a.1 * f.2
      · rw [if_pos q]; have := u.mp q; omega
      · rw [if_neg q]
        have : ¬ valB B f < valB B a := fun z => q (u.mpr z)
        omega
    rw [List.foldl_cons]
    refine ⟨by omega, fun g hg => ?_⟩
    rcases List.mem_cons.mp hg with rfl | hg
    · omega
    · exact h2 g hg
theorem fold_hi {B : Int} (hB : 0 < B) : ∀ (l : List Fr) (a : Fr), FrOk a ∧ a.2 ∣ B → (∀ f ∈ l, FrOk f ∧ f.2 ∣ B) → valB B a ≤ valB B (l.foldl hiStep a) ∧ ∀ f ∈ l, valB B f ≤ valB B (l.foldl hiStep a)
  | [], a, _, _ => ⟨Int.le_refl _, fun _ h => nomatch h⟩
  | f :: l, a, ha, hl => by
    have hf := hl f List.mem_cons_self
    have hs : FrOk (hiStep a f) ∧ (hiStep a f).2 ∣ B := by rcases hiStep_or a f with e | e <;> rw [e] <;> assumption
    obtain ⟨h1, h2⟩ := fold_hi hB l (hiStep a f) hs fun g hg => hl g (List.mem_cons_of_mem _ hg)
    have u := under_val hB ha.1 ha.2 hf.1 hf.2
    have h3 : valB B a ≤ valB B (hiStep a f) ∧ valB B f ≤ valB B (hiStep a f) := by
      unfold hiStep
      by_cases q : a.1 * f.2 < f.1 * a.2
      · rw [if_pos q]; have := u.mp q; omega
      · rw [if_neg q]
        have : ¬ valB B a < valB B f := fun z => q (u.mpr z)
        omega
    rw [List.foldl_cons]
    refine ⟨by omega, fun g hg => ?_⟩
    rcases List.mem_cons.mp hg with rfl | hg
    · omega
    · exact h2 g hg
theorem ends_ok {B : Int} {ps : List Fr} (po : PartsOk B ps) (hne : ps ≠ []) : loF ps ∈ ps ∧ hiF ps ∈ ps ∧ (∀ f ∈ ps, valB B (loF ps) ≤ valB B f ∧ valB B f ≤ valB B (hiF ps)) ∧ gapT (tops B ps) = valB B (hiF ps) - valB B (loF ps) := by
  obtain ⟨f0, ft, rfl⟩ := List.exists_cons_of_ne_nil hne
  have h0 : f0 ∈ f0 :: ft := List.mem_cons_self
  have m1 : loF (f0 :: ft) ∈ f0 :: ft := fold_mem loStep_or _ _ h0 fun _ h => h
  have m2 : hiF (f0 :: ft) ∈ f0 :: ft := fold_mem hiStep_or _ _ h0 fun _ h => h
  have ok : ∀ f ∈ f0 :: ft, FrOk f ∧ f.2 ∣ B := fun f hf => ⟨(po.f f hf).1, (po.f f hf).2.1⟩
  have l1 := (fold_lo po.p _ f0 (ok f0 h0) ok).2
  have l2 := (fold_hi po.p _ f0 (ok f0 h0) ok).2
  have b : ∀ f ∈ f0 :: ft, valB B (loF (f0 :: ft)) ≤ valB B f ∧ valB B f ≤ valB B (hiF (f0 :: ft)) := fun f hf => ⟨l1 f hf, l2 f hf⟩
  refine ⟨m1, m2, b, gap_max (List.mem_map_of_mem m2) (fun y hy => ?_) (List.mem_map_of_mem m1) fun y hy => ?_⟩
  · obtain ⟨f, hf, rfl⟩ := List.mem_map.mp hy
    exact (b f hf).2
  · obtain ⟨f, hf, rfl⟩ := List.mem_map.mp hy
    exact (b f hf).1
theorem part_b {B : Int} {f : Fr} (hB : 0 < B) (hb : B < 2 ^ 4000) (h : FrOk f ∧ f.2 ∣ B ∧ f.1.natAbs ≤ 2 ^ 200 * f.2.natAbs) : 0 < f.2 ∧ f.2.natAbs < 2 ^ 4000 ∧ f.1.natAbs < 2 ^ 4200 := by
  have p := h.1.p
  have l := Int.le_of_dvd hB h.2.1
  have n := natB hB hb
  have n2 : f.2.natAbs < 2 ^ 4000 := by omega
  refine ⟨p, n2, ?_⟩
  have e : 2 ^ 200 * f.2.natAbs < 2 ^ 200 * 2 ^ 4000 := Nat.mul_lt_mul_of_pos_left n2 (Nat.two_pow_pos 200)
  rw [← Nat.pow_add] at e
  have h3 := h.2.2
  rw [show 200 + 4000 = 4200 from rfl] at e
  omega
theorem parts_mul {B : Int} {ps : List Fr} (po : PartsOk B ps) : ∀ f ∈ ps, ∀ g ∈ ps, CMulW f.1 g.2 := fun f hf g hg => by
  have := part_b po.p po.b (po.f f hf)
  have := part_b po.p po.b (po.f g hg)
  exact mulW (a := 4200) (b := 4000) (by omega) (by omega) (by decide) (by decide) (by decide)
theorem one_b : ((1 : Int)).natAbs < 2 ^ 1 := by decide
theorem zero_b : ((0 : Int)).natAbs < 2 ^ 1 := by decide
theorem spd_ok {B : Int} {ps : List Fr} (po : PartsOk B ps) (hne : ps ≠ []) : StepOk (0, 1) (hiF ps) ∧ StepOk (sumStep (0, 1) (hiF ps)) (0 - (loF ps).1, (loF ps).2) ∧ spdF ps = sprF B ps := by
  obtain ⟨m1, m2, b, g⟩ := ends_ok po hne
  have o1 := po.f _ m1
  have o2 := po.f _ m2
  have b1 := part_b po.p po.b o1
  have b2 := part_b po.p po.b o2
  have e : sumStep (0, 1) (hiF ps) = hiF ps := by
    show low (0 * (hiF ps).2 + (hiF ps).1 * 1) (1 * (hiF ps).2) = _
    rw [Int.zero_mul, Int.zero_add, Int.mul_one, Int.one_mul, low_self o2.1]
  have mb := mulB b2.2.1 b1.2.1
  have n1 : (0 - (loF ps).1).natAbs < 2 ^ 4200 := by omega
  rw [e]
  refine ⟨⟨mulW zero_b b2.2.1 (by decide) (by decide) (by decide), mulW b2.2.2 one_b (by decide) (by decide) (by decide), mulW one_b b2.2.1 (by decide) (by decide) (by decide), by show 0 < 1 * (hiF ps).2; omega, ?_⟩, ⟨mulW b2.2.2 b1.2.1 (by decide) (by decide) (by decide), mulW n1 b2.2.1 (by decide) (by decide) (by decide), mulW b2.2.1 b1.2.1 (by decide) (by decide) (by decide), Int.mul_pos b2.1 b1.1, Nat.lt_of_lt_of_le (lg mb (by decide)) (by decide)⟩, ?_⟩
  · show (1 * (hiF ps).2).natAbs.log2 < 9000
    rw [Int.one_mul]
    exact Nat.lt_of_lt_of_le (lg b2.2.1 (by decide)) (by decide)
  · have e2 : spdF ps = sumStep (sumStep (0, 1) (hiF ps)) (0 - (loF ps).1, (loF ps).2) := rfl
    rw [e2, e]
    show low ((hiF ps).1 * (loF ps).2 + (0 - (loF ps).1) * (hiF ps).2) ((hiF ps).2 * (loF ps).2) = _
    have e3 : (hiF ps).1 * (loF ps).2 + (0 - (loF ps).1) * (hiF ps).2 = (hiF ps).1 * (loF ps).2 - (loF ps).1 * (hiF ps).2 := by
      rw [Int.sub_mul, Int.zero_mul]; omega
    rw [e3, low_diff po.p b2.1 b1.1 o2.2.1 o1.2.1]
    unfold sprF
    rw [g]
    rfl
/-! ### the greatest one of all -/
def mxS (a b : Int) : Int := if a < b then b else a
theorem fold_mx {m : Int} : ∀ (l : List Int) (a : Int), a ≤ m → (∀ b ∈ l, b ≤ m) → (a = m ∨ m ∈ l) → l.foldl mxS a = m
  | [], a, _, _, h => by
    rcases h with h | h
    · exact h
    · cases h
  | b :: l, a, h1, h2, h3 => by
    have hb := h2 b List.mem_cons_self
    rw [List.foldl_cons]
    refine fold_mx l _ ?_ (fun c hc => h2 c (List.mem_cons_of_mem _ hc)) ?_
    · unfold mxS; split <;> omega
    · rcases h3 with h3 | h3
      · left; unfold mxS; split <;> omega
      · rcases List.mem_cons.mp h3 with h3 | h3
        · left; unfold mxS; split <;> omega
        · exact .inr h3
theorem hi_low {S : Int} (hS : 0 < S) (a b : Int) : hiStep (low a S) (low b S) = low (mxS a b) S := by
  unfold hiStep mxS
  have u := low_gt (x := b) (y := a) hS
  by_cases q : a < b
  · rw [if_pos (u.mpr q), if_pos q]
  · rw [if_neg (fun z => q (u.mp z)), if_neg q]
theorem fold_low {S : Int} (hS : 0 < S) : ∀ (l : List Int) (a : Int), (l.map fun x => low x S).foldl hiStep (low a S) = low (l.foldl mxS a) S
  | [], a => rfl
  | b :: l, a => by
    rw [List.map_cons, List.foldl_cons, List.foldl_cons, hi_low hS]
    exact fold_low hS l _
theorem spr_later {n : Nat} {B C S : Int} {ps : List Fr} {M : List (List Int)} (po : PartsOk B ps) (h : Rows n S M) (pC : PartsOk C (M.map (meanF B ps))) (p5 : PartsOk (B * S) (M.map (meanF B ps))) : sprF C (M.map (meanF B ps)) = low (gapT (M.map fun r => dot r (tops B ps))) (B * S) := by
  rw [spr_same pC p5]
  unfold sprF
  rw [later_tops po h]
theorem best_left {n : Nat} {S m : Int} {M : List (List Int)} (h : Rows n S M) (hm : IsLeft M m) : ((onesF n).map fun x => low (gapT (M.map fun r => dot r (tops 1 x))) S).foldl hiStep (0, 1) = low m S := by
  have hS := h.p
  obtain ⟨m0, up, at'⟩ := left_ones h hm
  have e0 : ((0, 1) : Fr) = low 0 S := ((low_zero hS).mpr rfl).symm
  have e : ((onesF n).map fun x => low (gapT (M.map fun r => dot r (tops 1 x))) S) = ((onesF n).map fun x => gapT (M.map fun r => dot r (tops 1 x))).map fun x => low x S := by rw [List.map_map]; rfl
  rw [e, e0, fold_low hS, fold_mx _ 0 m0]
  · intro b hb
    obtain ⟨x, hx, rfl⟩ := List.mem_map.mp hb
    exact up x hx
  · rcases at' with e | ⟨x, hx, e⟩
    · exact .inl e.symm
    · exact .inr (List.mem_map.mpr ⟨x, hx, e⟩)
end M

namespace M
open PySem L2 U ZN
abbrev sTmR : Stmt := top 55
abbrev nTmR : List Str := ["_law_row_here", "_law_rows", "_law_found", "_law_whole", "_law_k", "_law_part", "_law_weight_here", "_law_own"]
abbrev pTmR : List Str := ["_law_row_here", "_law_rows"]
theorem scTmR : FnScope nTmR pTmR (defScope sTmR) := ⟨rfl, rfl, rfl, by decide +kernel, rfl, by decide +kernel, by decide +kernel⟩
abbrev sPts : Stmt := top 56
abbrev nPts : List Str := ["_law_many", "_law_tables", "_law_rows", "_law_k", "_law_at", "_law_table_here", "_law_row_here"]
abbrev pPts : List Str := ["_law_many", "_law_tables"]
theorem scPts : FnScope nPts pPts (defScope sPts) := ⟨rfl, rfl, rfl, by decide +kernel, rfl, by decide +kernel, by decide +kernel⟩
theorem plus_val {f h : Fr} {B S T : Int} (hf : FrOk f) (hh : FrOk h) (e1 : f.1 * B = f.2 * S) (e2 : h.1 * B = h.2 * T) : FrOk (plusF f h) ∧ (plusF f h).1 * B = (plusF f h).2 * (S + T) := by
  have hp := Int.mul_pos hf.p hh.p
  unfold plusF
  obtain ⟨o, r, _⟩ := low_ok (t := f.1 * h.2 + h.1 * f.2) hp
  refine ⟨o, Int.eq_of_mul_eq_mul_right (a := f.2 * h.2) (Int.ne_of_gt hp) ?_⟩
  generalize low (f.1 * h.2 + h.1 * f.2) (f.2 * h.2) = g at *
  grind
/-- a column of a table of fractions -/
def colR (R : List (List Fr)) (k : Nat) : List Fr := R.map fun q => (q[k]?).getD (0, 1)
def tmR (n : Nat) (R : List (List Fr)) (r : List Int) : List Fr := (List.range n).map fun k => meanF (lcmB (colR R k)) (colR R k) r
def unitF (n k : Nat) : List Fr := (List.range n).map fun j => if j = k then (1, 1) else (0, 1)
def unitR (n : Nat) : List (List Fr) := (List.range n).map fun i => unitF n i
theorem colR_unit {n k : Nat} (hk : k < n) : colR (unitR n) k = unitF n k := by
  unfold colR unitR
  rw [List.map_map]
  unfold unitF
  refine List.map_congr_left fun i hi => ?_
  show ((((List.range n).map fun j => if j = i then ((1, 1) : Fr) else (0, 1))[k]?).getD (0, 1)) = _
  rw [List.getElem?_map, List.getElem?_range hk]
  show (if k = i then ((1, 1) : Fr) else (0, 1)) = if i = k then (1, 1) else (0, 1)
  by_cases c : i = k
  · rw [if_pos c, if_pos c.symm]
  · rw [if_neg c, if_neg fun e => c e.symm]
theorem colR_tm {n k : Nat} {R : List (List Fr)} {t : List (List Int)} (hk : k < n) : colR (t.map (tmR n R)) k = dayF t (colR R k) := by
  unfold dayF
  show (t.map (tmR n R)).map (fun q => (q[k]?).getD (0, 1)) = _
  rw [List.map_map]
  refine List.map_congr_left fun r _ => ?_
  show ((tmR n R r)[k]?).getD (0, 1) = _
  unfold tmR
  rw [List.getElem?_map, List.getElem?_range hk]
  rfl
theorem unit_parts (n k : Nat) : PartsOk 1 (unitF n k) := by
  refine ⟨by decide, by decide +kernel, fun f hf => ?_⟩
  unfold unitF at hf
  obtain ⟨j, _, rfl⟩ := List.mem_map.mp hf
  split
  · exact ⟨⟨by decide, by decide⟩, Int.dvd_refl _, by decide +kernel⟩
  · exact ⟨⟨by decide, by decide⟩, Int.dvd_refl _, by decide +kernel⟩
def spTmR : Sp := fun vs H Q _ => ∃ (v : V) (L : Addr) (us : List V) (n : Nat) (r : List Int) (R : List (List Fr)), vs = [v, .ref L] ∧ Im H v (dRow r) ∧ RowOk n r ∧ n ≤ 6 ∧ H L = some (.lst us) ∧ ImAll H us (R.map dFrs) ∧ R.length = n ∧ (∀ q ∈ R, q.length = n) ∧ (∀ k, k < n → PartsOk (lcmB (colR R k)) (colR R k)) ∧
  ∀ (H' : Hp) (p : Addr), Same H H' → H p = none → Im H' (.ref p) (dFrs (tmR n R r)) → Q (.ref p) H'
section
variable {P : Program} {w : World} {K : PySem.W.Frag} {mg : Str → Option Value} {base : Heap}
theorem ok_tmr {f : Addr} {fd : FuncData} (F : Fun K "_law_times_row" "_law_times_row" sTmR f fd) (T : Bt mg) (Tz : mg "zip" = none) (DC : DefX P w K mg base 1 "_law_cut" pCut spLow) (DP : DefX P w K mg base 2 "_law_plus" pPlu spPlu) : FnOk P w K mg base CX0 3 f fd pTmR spTmR := by
  refine F.ok scTmR (fun vs H Q E h => ?_) (fun cdv A outer s H vs Q E hr h => ?_)
  · obtain ⟨v, L, us, n, r, R, rfl, _⟩ := h
    rfl
  · obtain ⟨v, L, us, n, r, R, rfl, iv, ro, n6, hL, iu, rl, rq, po, k⟩ := h
    refine ⟨_, (pss_cons (ps_par (i := 2) (j := 3) (by rfl) scTmR.nd rfl rfl (by decide) rfl rfl (pa_cons (pe_lst pa_nil) (pa_cons (pe_callB (sumT K) (by rfl) T.sum (by decide +kernel) (pa_cons (pv 0) pa_nil)) pa_nil)) (by rfl))
      (pss_cons (ps_for PassesOwn.never rfl (pi_range1 rfl T.range (pa_cons (pe_callB (lenQ K) (by rfl) T.len (by decide +kernel) (pa_cons (pv 0) pa_nil)) pa_nil)) (pg_name (i := 4) scTmR.nd rfl (Or.inl rfl))
        (pss_cons (ps_set (i := 5) scTmR.nd rfl (Or.inl rfl) (pe_tup (pa_cons pe_int (pa_cons pe_int pa_nil))))
      (pss_cons (ps_for PassesOwn.never rfl (zipTL K (by rfl) Tz (pa_cons (pv 0) (pa_cons (pv 1) pa_nil))) (pg_tup (by rfl) (pgs_cons (pg_name (i := 6) scTmR.nd rfl (Or.inl rfl)) (pgs_cons (pg_name (i := 7) scTmR.nd rfl (Or.inl rfl)) pgs_nil)))
        (pss_one (ps_set (i := 5) scTmR.nd rfl (Or.inl rfl) (pe_fn DP hr (by decide) (pa_cons (pv 5) (pa_cons (pe_fn DC hr (by decide) (pa_cons (pe_op op_mulW (pv 6) (pe_ix (ixT K) (pe_ix (ixT K) (pv 7) (pv 4) (fun _ _ => rfl)) pe_int (fun _ _ => rfl))) (pa_cons (pe_ix (ixT K) (pe_ix (ixT K) (pv 7) (pv 4) (fun _ _ => rfl)) pe_int (fun _ _ => rfl)) pa_nil))) pa_nil))))))
      (pss_one (ps_expr (pbm K PySem.F.plainAttrs_list PySem.F.slot_list_append PySem.F.type_list_append mt_append (pv 2) (pa_cons (pe_fn DC hr (by decide) (pa_cons (pe_ix (ixT K) (pv 5) pe_int (fun _ _ => rfl)) (pa_cons (pe_op op_mulW (pe_ix (ixT K) (pv 5) pe_int (fun _ _ => rfl)) (pv 3)) pa_nil))) pa_nil)))))))
      (pss_one (ps_ret (pe_callTy (tupO K) (by rfl) T.tuple (by decide +kernel) (pa_cons (pv 2) pa_nil)))))), ?_⟩
    obtain ⟨ra, rs, rfl, hra, hrs⟩ := iv.tuple
    have ers := hrs.ints
    subst ers
    have ul : us.length = n := by rw [iu.length, List.length_map, rl]
    have rn := ro.1
    obtain ⟨sp, sb6⟩ := row_sum ro n6
    have dl : ((tmR n R r).map dFr).length = n := by unfold tmR; rw [List.length_map, List.length_map, List.length_range]
    refine ⟨by show 0 ≤ sizeLine; decide, fun D hD => ⟨_, rfl, ra, r, rfl, (hra.same (same_upd hD)).sq, _, _, rfl, ?_⟩⟩
    dsimp only [List.set]
    refine ⟨_, rfl, ra, _, rfl, .inr (hra.same (same_upd hD)).sq, n, by rw [List.length_map, rn], by omega, by omega, ?_⟩
    rw [Int.toNat_natCast]
    refine for_range (lo := 0) (n := n) (fun i σ G => ∃ v4 v5 v6 v7 : Option V, σ = [some (.ref ra), some (.ref L), some (.ref D), some (.int r.sum), v4, v5, v6, v7] ∧ IvS H D ((tmR n R r).map dFr) i G) ⟨none, none, none, none, rfl, ivs0 hD⟩ ?_ ?_
    · rintro kk σ G hk ⟨v4, v5, v6, v7, rfl, hI⟩
      have pk := po kk hk
      generalize hc : colR R kk = c at pk
      generalize hB : lcmB c = B at pk
      have Bb := natB pk.p pk.b
      obtain ⟨acc0, hDG, ivG, sG⟩ := id hI
      refine ⟨by show 2 ≤ sizeLine; decide, fun p0 np0 => ?_⟩
      dsimp only [List.set]
      have s0 : Same G (upd G p0 (.tup [.int 0, .int 1])) := same_upd np0
      have im0 : Im (upd G p0 (.tup [.int 0, .int 1])) (.ref p0) (dFr (0, 1)) := .tup Tu.up (.cons (.int _) (.cons (.int _) .nil))
      generalize upd G p0 (.tup [.int 0, .int 1]) = G0 at s0 im0 ⊢
      have sH0 := sG.trans s0
      refine ⟨_, rfl, _, rfl, ra, L, r.map V.int, us, rfl, (hra.same sH0).sq, SqL.of (sH0 _ _ hL), for_it (walk_zipTL (K := K) (a := ra) (b := L) (xs := r.map V.int) (ys := us) (n := n) (by rw [List.length_map, rn]) ul.symm)
        (fun i σ G' => ∃ (pv : V) (v6 v7 : Option V) (f : Fr), σ = [some (.ref ra), some (.ref L), some (.ref D), some (.int r.sum), some (.int (0 + (kk : Int))), some pv, v6, v7] ∧ Same G0 G' ∧ Im G' pv (dFr f) ∧ FrOk f ∧ f.1 * B = f.2 * dot (r.take i) ((tops B c).take i))
        ⟨.ref p0, v6, v7, (0, 1), rfl, Same.refl _, im0, ⟨by decide, by decide⟩, by show (0 : Int) * B = 1 * 0; omega⟩ (fun i σ G' _ ⟨_, _, _, _, _, s', _⟩ => ⟨(hra.same (sH0.trans s')).sq, SqL.of ((sH0.trans s') _ _ hL)⟩) ?_ ?_⟩
      · rintro i x σ G1 G2 hi ⟨pv, v6, v7, fp, rfl, s1, ipv, fok, fe⟩ ⟨T', y1, y2, rfl, hT, rfl, e1, e2⟩
        have e1 : (r.map V.int)[i]? = some y1 := e1
        have e2 : us[i]? = some y2 := e2
        rw [List.getElem?_map] at e1
        obtain ⟨y, hy⟩ : ∃ y, r[i]? = some y := ⟨_, List.getElem?_eq_getElem (by omega)⟩
        rw [hy] at e1
        obtain rfl : V.int y = y1 := Option.some.inj e1
        obtain ⟨dq, hdq, iq⟩ := iu.get e2
        obtain ⟨q, hq⟩ : ∃ q, R[i]? = some q := ⟨_, List.getElem?_eq_getElem (by omega)⟩
        rw [List.getElem?_map, hq] at hdq
        obtain rfl : dFrs q = dq := Option.some.inj hdq
        have ql := rq q (List.mem_of_getElem? hq)
        obtain ⟨g, hg⟩ : ∃ g, q[kk]? = some g := ⟨_, List.getElem?_eq_getElem (by omega)⟩
        have hcg : c[i]? = some g := by
          rw [← hc]
          unfold colR
          rw [List.getElem?_map, hq]
          show some ((q[kk]?).getD (0, 1)) = _
          rw [hg]
          rfl
        obtain ⟨gok, gd, gb⟩ := pk.f g (List.mem_of_getElem? hcg)
        have gle := Int.le_of_dvd pk.p gd
        have gp := gok.p
        have g2b : g.2.natAbs < 2 ^ 4000 := by omega
        have g1b : g.1.natAbs < 2 ^ 4200 := by
          refine Nat.lt_of_le_of_lt gb ?_
          have := Nat.mul_lt_mul_of_pos_left (k := 2 ^ 200) g2b (by decide)
          rw [← Nat.pow_add] at this
          exact this
        have yb := ro.2.1 y (List.mem_of_getElem? hy)
        have yB : y.natAbs < 2 ^ 30 := by omega
        have sT : Same G1 (upd G1 T' (.tup [V.int y, y2])) := same_upd hT
        have s1T := (sH0.trans s1).trans sT
        have iq2 := Im.mono (Same.tups s1T) _ _ iq
        refine ⟨T', _, rfl, SqT.of upd_same, rfl, _, _, rfl, _, _, rfl, rfl, ?_⟩
        dsimp only [List.set]
        have ipv := Im.mono (Same.tups sT) _ _ ipv
        generalize upd G1 T' (.tup [V.int y, y2]) = G3 at sT s1T iq2 ipv ⊢
        obtain ⟨oa, xs, rfl, hoa, hxs⟩ := iq2.tuple
        have xl : xs.length = q.length := by rw [hxs.length, List.length_map]
        obtain ⟨gv, hgv⟩ : ∃ gv, xs[kk]? = some gv := ⟨_, List.getElem?_eq_getElem (by omega)⟩
        obtain ⟨dg, hdg, ig⟩ := hxs.get hgv
        rw [List.getElem?_map, hg] at hdg
        obtain rfl : dFr g = dg := Option.some.inj hdg
        obtain ⟨ga, rfl, hga⟩ := im_fr ig
        obtain ⟨hok, hval, _⟩ := low_ok (t := y * g.1) gp
        obtain ⟨hd1, hd2, hd3⟩ := fr_bound (S := y * g.1) hok gp (by rw [hval, Int.mul_comm])
        have hb1 := mulB yB g1b
        obtain ⟨fd1, fd2, fd3⟩ := fr_bound fok pk.p fe
        have sbd := S_bound (k := i) pk ro n6
        have hp := hok.p
        have fp0 := fok.p
        refine ⟨_, rfl, _, rfl, _, rfl, _, rfl, oa, _, _, _, rfl, rfl, hoa.sq, at0' hgv, ga, _, _, _, rfl, rfl, hga.sq, rfl, _, _, rfl, rfl, mulW yB g1b (by decide) (by decide) (by decide), _, rfl, _, rfl, oa, _, _, _, rfl, rfl, hoa.sq, at0' hgv, ga, _, _, _, rfl, rfl, hga.sq, rfl, ?_⟩
        refine ⟨_, _, rfl, gp, Nat.lt_of_lt_of_le (lg g2b (by decide)) (by decide), fun G4 p4 s4 n4 im4 => ?_⟩
        refine ⟨pv, .ref p4, fp, _, rfl, Im.mono (Same.tups s4) _ _ ipv, im4, fp0, hp, Nat.lt_of_le_of_lt fd3 (upB sbd (by decide)), by omega, Nat.lt_of_le_of_lt hd3 (upB hb1 (by decide)), by omega, fun G5 p5 s5 n5 im5 => ?_⟩
        have he : (low (y * g.1) g.2).1 * B = (low (y * g.1) g.2).2 * (y * (g.1 * (B / g.2))) := by
          obtain ⟨cc, hcc⟩ := gd
          rw [hcc, Int.mul_ediv_cancel_left _ (Int.ne_of_gt gp)]
          generalize low (y * g.1) g.2 = hh at hval ⊢
          grind
        obtain ⟨nok, nval⟩ := plus_val fok hok fe he
        refine ⟨_, _, _, _, rfl, (s1.trans sT).trans (s4.trans s5), im5, nok, ?_⟩
        rw [nval]
        refine congrArg _ (dot_take hy ?_).symm
        unfold tops
        rw [List.getElem?_map, hcg]
        rfl
      · rintro σ G1 ⟨pv, v6, v7, fp, rfl, s1, ipv, fok, fe⟩
        have sG1 := s0.trans s1
        have tl : (tops B c).length = n := by
          unfold tops
          rw [List.length_map, ← hc]
          unfold colR
          rw [List.length_map, rl]
        rw [List.take_of_length_le (by omega), List.take_of_length_le (by omega)] at fe
        obtain ⟨fd1, fd2, fd3⟩ := fr_bound fok pk.p fe
        have fp0 := fok.p
        obtain ⟨pa, rfl, hpa⟩ := im_fr ipv
        have f2b : fp.2.natAbs < 2 ^ 4000 := by omega
        have sb : r.sum.natAbs < 2 ^ 64 := by omega
        refine ⟨_, rfl, .inl ⟨rfl, _, SqL.of (sG1 _ _ hDG)⟩, _, rfl, pa, _, _, _, rfl, rfl, hpa.sq, rfl, _, rfl, pa, _, _, _, rfl, rfl, hpa.sq, rfl, _, rfl, _, _, rfl, rfl, mulW f2b sb (by decide) (by decide) (by decide), ?_⟩
        refine ⟨_, _, rfl, Int.mul_pos fp0 sp, Nat.lt_of_lt_of_le (lg (mulB f2b sb) (by decide)) (by decide), fun G5 p5 s5 n5 im5 => ?_⟩
        have ev : low fp.1 (fp.2 * r.sum) = meanF B c r := by
          unfold meanF
          refine low_eq (Int.mul_pos fp0 sp) (Int.mul_pos pk.p sp) ?_
          grind
        rw [ev] at im5
        obtain ⟨acc, hacc, sm, hI'⟩ := ivs1 hD hI (sG1.trans s5) im5 (by rw [dl]; omega) (by unfold tmR; rw [List.getElem?_map, List.getElem?_map, List.getElem?_range hk]; show some (dFr (meanF (lcmB (colR R kk)) (colR R kk) r)) = _; rw [hc, hB])
        exact ⟨D, acc, .ref p5, rfl, rfl, hacc, sm, _, _, _, _, rfl, hI'⟩
    · rintro σ G ⟨v4, v5, v6, v7, rfl, hI⟩
      obtain ⟨vs, sG, hDG, ivs⟩ := ivsE hI dl
      exact ⟨_, rfl, D, vs, rfl, .inl ⟨SqL.of hDG, fun p np => k _ p (sG.trans (same_upd np)) (sG.free np) (.tup Tu.up (ImAll.mono (TupS.new np) _ _ ivs))⟩⟩
end
end M

namespace M
open PySem L2 U ZN
theorem unit_len (n k : Nat) : (unitF n k).length = n := by unfold unitF; rw [List.length_map, List.length_range]
def spPts : Sp := fun vs H Q _ => ∃ (L : Addr) (us : List V) (n : Nat) (ws : List (List (List Int))) (road : List Nat), vs = [.int n, .ref L] ∧ H L = some (.lst us) ∧ ImAll H us ((road.map (wAt ws)).map dWay) ∧ Wrd n ws road ∧
  ∀ (H' : Hp) (L' : Addr) (us' : List V) (R : List (List Fr)), Same H H' → H' L' = some (.lst us') → ImAll H' us' (R.map dFrs) → R.length = n → (∀ q ∈ R, q.length = n) → (∀ k, k < n → colR R k = laterF ws (unitF n k) road) → Q (.ref L') H'
section
variable {P : Program} {w : World} {K : PySem.W.Frag} {mg : Str → Option Value} {base : Heap}
theorem ok_pts {f : Addr} {fd : FuncData} (F : Fun K "_law_parts" "_law_parts" sPts f fd) (T : Bt mg) (DT : DefX P w K mg base 3 "_law_times_row" pTmR spTmR) : FnOk P w K mg base CX0 4 f fd pPts spPts := by
  refine F.ok scPts (fun vs H Q E h => ?_) (fun cdv A outer s H vs Q E hr h => ?_)
  · obtain ⟨L, us, n, ws, road, rfl, _⟩ := h
    rfl
  · obtain ⟨L, us, n, ws, road, rfl, hL, iu, W, k⟩ := h
    refine ⟨_, (pss_cons (ps_set (i := 2) scPts.nd rfl (Or.inr rfl) (pe_lc (own := [("_law_at", 4)]) (g := gName 4) (tt := tYes) rfl scPts.nd (pi_range1 rfl T.range (pa_cons (pv 0) pa_nil)) (blkOk_by (own := [("_law_at", 4)]) (N := nPts) (sc := defScope sPts) (by decide +kernel)) (fun _ _ _ _ _ => (pg_name (i := 4) scPts.nd rfl (Or.inr rfl))) (fun _ _ _ _ _ => pts_nil)
          (fun _ _ _ _ _ => (pe_callTy (tupO K) (by rfl) T.tuple (by decide +kernel) (pa_cons (pe_lc (own := [("_law_k", 3)]) (g := gName 3) (tt := tYes) rfl scPts.nd (pi_range1 rfl T.range (pa_cons (pv 0) pa_nil)) (blkOk_by (own := [("_law_k", 3)]) (N := nPts) (sc := _) (by kernel_rfl)) (fun _ _ _ _ _ => (pg_name (i := 3) scPts.nd rfl (Or.inl rfl))) (fun _ _ _ _ _ => pts_nil)
          (fun _ _ _ _ _ => (pe_tup (pa_cons (pe_callTy call_int1 (by rfl) T.int (by decide +kernel) (pa_cons (pe_cmpR op_eq (pv 4) (pv 3) (nomark _)) pa_nil)) (pa_cons pe_int pa_nil))))) pa_nil)))))
      (pss_cons (ps_for PassesOwn.never rfl (piL K (pv 1)) (pg_name (i := 5) scPts.nd rfl (Or.inl rfl))
        (pss_one (ps_set (i := 2) scPts.nd rfl (Or.inr rfl) (pe_lc (own := [("_law_row_here", 6)]) (g := gName 6) (tt := tYes) rfl scPts.nd (piT K (pv 5)) (blkOk_by (own := [("_law_row_here", 6)]) (N := nPts) (sc := defScope sPts) (by decide +kernel)) (fun _ _ _ _ _ => (pg_name (i := 6) scPts.nd rfl (Or.inl rfl))) (fun _ _ _ _ _ => pts_nil)
          (fun _ _ _ _ _ => (pe_fn DT hr (by decide) (pa_cons (pv 6) (pa_cons (pv 2) pa_nil))))))))
      (pss_one (ps_ret (pv 2))))), ?_⟩
    have n6 := W.wo.n6
    have n1 := W.n1
    have r12 := W.r12
    have ul : us.length = road.length := by rw [iu.length, List.length_map, List.length_map]
    have udl : ((unitR n).map dFrs).length = n := by unfold unitR; rw [List.length_map, List.length_map, List.length_range]
    refine ⟨_, rfl, n, rfl, by omega, by omega, fun D hD => ?_⟩
    rw [Int.toNat_natCast]
    refine lc_range (lo := 0) (n := n) (IvS H D ((unitR n).map dFrs)) (ivs0 hD) ?_ (fun G h => ?_)
    · rintro i G hi hI
      refine ⟨rfl, turnY ?_⟩
      refine ⟨_, rfl, n, rfl, by omega, by omega, fun D2 hD2 => ?_⟩
      rw [Int.toNat_natCast]
      have dl : ((unitF n i).map dFr).length = n := by rw [List.length_map, unit_len]
      refine lc_range (lo := 0) (n := n) (IvS G D2 ((unitF n i).map dFr)) (ivs0 hD2) ?_ (fun G2 h2 => ?_)
      · rintro j G2 hj h2
        refine ⟨rfl, turnY ?_⟩
        refine ⟨_, rfl, _, rfl, rfl, .inr ⟨_, rfl, by show 2 ≤ sizeLine; decide, fun p np => ?_⟩⟩
        refine ivs1 hD2 h2 (same_upd np) (.tup Tu.up (.cons (.int _) (.cons (.int _) .nil))) (by rw [dl]; omega) ?_
        unfold unitF
        rw [List.getElem?_map, List.getElem?_map, List.getElem?_range hj, one_val (a := i) (b := j) (dec_int (Int.zero_add _) (Int.zero_add _))]
        show some (dFr (if j = i then ((1, 1) : Fr) else (0, 1))) = _
        by_cases c : j = i
        · rw [if_pos c, if_pos c]; rfl
        · rw [if_neg c, if_neg c]; rfl
      · obtain ⟨vs, s2, hDG, ivs⟩ := ivsE h2 dl
        refine ⟨D2, vs, rfl, .inl ⟨SqL.of hDG, fun p np => ?_⟩⟩
        refine ivs1 hD hI (s2.trans (same_upd np)) (.tup Tu.up (ImAll.mono (TupS.new np) _ _ ivs)) (by rw [udl]; omega) ?_
        unfold unitR
        rw [List.getElem?_map, List.getElem?_map, List.getElem?_range hi]
        rfl
    · obtain ⟨vs0, s1, hD1, iv0⟩ := ivsE h udl
      have inv0 : ∀ k, k < n → colR (unitR n) k = laterF ws (unitF n k) (road.take 0) := fun k hk => by rw [colR_unit hk]; rfl
      have ulen : (unitR n).length = n := by unfold unitR; rw [List.length_map, List.length_range]
      have uq : ∀ q ∈ unitR n, q.length = n := fun q hq => by
        unfold unitR at hq
        obtain ⟨i, _, rfl⟩ := List.mem_map.mp hq
        exact unit_len n i
      refine ⟨_, rfl, L, rfl, ⟨_, SqL.of (s1 _ _ hL)⟩, for_list (K := K) (a := L) (xs := us) (fun i σ G => ∃ (v5 : Option V) (Lr : Addr) (usr : List V) (R : List (List Fr)), σ = [some (.int n), some (.ref L), some (.ref Lr), none, none, v5, none] ∧ Same H G ∧ G Lr = some (.lst usr) ∧ ImAll G usr (R.map dFrs) ∧ R.length = n ∧ (∀ q ∈ R, q.length = n) ∧ ∀ k, k < n → colR R k = laterF ws (unitF n k) (road.take i))
        ⟨none, D, vs0, unitR n, rfl, s1, hD1, iv0, ulen, uq, inv0⟩ (fun i σ G' _ ⟨_, _, _, _, _, s', _⟩ => SqL.of (s' _ _ hL)) ?_ ?_⟩
      · rintro i x σ G1 hx ⟨v5, Lr, usr, R, rfl, sG, hLr, iR, Rl, Rq, hcol⟩
        obtain ⟨d, hd, ix⟩ := iu.get hx
        have il : i < road.length := by
          have := (List.getElem?_eq_some_iff.mp hx).1
          omega
        obtain ⟨q, hq⟩ : ∃ q, road[i]? = some q := ⟨_, List.getElem?_eq_getElem il⟩
        rw [List.getElem?_map, List.getElem?_map, hq] at hd
        obtain rfl : dWay (wAt ws q) = d := Option.some.inj hd
        have qw := W.q q (List.mem_of_getElem? hq)
        have wo : WayOk n (wAt ws q) := by
          unfold wAt
          rw [List.getElem?_eq_getElem qw]
          exact W.wo.way _ (List.getElem_mem qw)
        generalize ht : wAt ws q = t at ix wo
        obtain ⟨ta, xs, rfl, hta, hxs⟩ := (Im.mono (Same.tups sG) _ _ ix).tuple
        have xl : xs.length = n := by rw [hxs.length, List.length_map, wo.1]
        have dl : ((t.map (tmR n R)).map dFrs).length = n := by rw [List.length_map, List.length_map, wo.1]
        have po : ∀ k, k < n → PartsOk (lcmB (colR R k)) (colR R k) := fun k hk => by
          rw [hcol k hk]
          obtain ⟨S, _, _, _, _, p5⟩ := road_ok (B := 1) (unit_parts n k) (by decide +kernel) (unit_len n k) n1 W.wo r12 W.q i (Nat.le_of_lt il)
          exact (lcmB_ok p5).2
        refine ⟨_, rfl, ta, rfl, ⟨_, hta.sq⟩, fun D2 hD2 => ?_⟩
        refine lc_it (walk_tup (K := K) (a := ta) (xs := xs)) (IvS G1 D2 ((t.map (tmR n R)).map dFrs)) (ivs0 hD2) (fun i G _ ⟨_, _, _, s'⟩ => (hta.same s').sq) ?_ (fun G2 h2 => ?_)
        · rintro z y _ G2 hz h2 ⟨rfl, hy⟩
          obtain ⟨dr, hdr, ir⟩ := hxs.get hy
          obtain ⟨r, hr⟩ : ∃ r, t[z]? = some r := ⟨_, List.getElem?_eq_getElem (by rw [wo.1]; omega)⟩
          rw [List.getElem?_map, hr] at hdr
          obtain rfl : dRow r = dr := Option.some.inj hdr
          obtain ⟨vs2, hD2', iv2, s2⟩ := id h2
          refine ⟨rfl, turnY ?_⟩
          refine ⟨_, rfl, _, rfl, y, Lr, usr, n, r, R, rfl, Im.mono (Same.tups s2) _ _ ir, wo.2 r (List.mem_of_getElem? hr), n6, s2 _ _ hLr, ImAll.mono (Same.tups s2) _ _ iR, Rl, Rq, po, fun G3 p s3 np im => ?_⟩
          exact ivs1 hD2 h2 s3 im (by rw [dl]; omega) (by rw [List.getElem?_map, List.getElem?_map, hr]; rfl)
        · obtain ⟨vs2, s2, hD2', iv2⟩ := ivsE h2 (by rw [dl, xl])
          refine ⟨_, D2, vs2, t.map (tmR n R), rfl, sG.trans s2, hD2', iv2, by rw [List.length_map, wo.1], fun q' hq' => ?_, fun k hk => ?_⟩
          · obtain ⟨r, _, rfl⟩ := List.mem_map.mp hq'
            unfold tmR
            rw [List.length_map, List.length_range]
          · rw [colR_tm hk, hcol k hk, List.take_succ, hq, ← ht]
            exact (laterF_snoc ws (unitF n k) (road.take i) q).symm
      · rintro σ G ⟨v5, Lr, usr, R, rfl, sG, hLr, iR, Rl, Rq, hcol⟩
        rw [ul] at hcol
        exact ⟨_, rfl, k G Lr usr R sG hLr iR Rl Rq (fun k hk => by rw [hcol k hk, List.take_length])⟩
end
end M

namespace M
open PySem L2 U ZN
def spLaf (C : Addr) : Sp := fun vs H Q _ => ∃ (a : Addr) (m wv v : V) (ms : List Str) (ws : List (List (List Int))) (road : List Nat), vs = [.ref a, v] ∧ CouncilAt C H a m wv ms ws ∧ Im H v (dWord road) ∧ road.length ≤ 12 ∧ (∀ i ∈ road, i < ws.length) ∧
  ∀ (H' : Hp) (p : Addr) (S mm : Int), Same H H' → H p = none → Rows ms.length S (rowsF ms.length ws road) → S < 2 ^ 2700 → IsLeft (rowsF ms.length ws road) mm → Im H' (.ref p) (dFr (low mm S)) → Q (.ref p) H'
def spOns : Sp := fun vs H Q _ => ∃ (n : Nat), vs = [.int n] ∧ n ≤ 6 ∧ ∀ (H' : Hp) (L : Addr) (us : List V), Same H H' → H L = none → H' L = some (.lst us) → ImAll H' us ((onesF n).map dFrs) → Q (.ref L) H'
/-- what is drawn first -/
def FstO (f : Fr) : Prop := FrOk f ∧ f.2 ≤ 9 ∧ f.1.natAbs ≤ 2 ^ 20 * f.2.natAbs
theorem fstO_low {t b : Int} (h : 0 < b) (hb : b ≤ 9) (ht : t.natAbs ≤ 1000) : FstO (low t b) := by
  obtain ⟨o, e, d⟩ := low_ok (t := t) h
  have hle := Int.le_of_dvd h d
  refine ⟨o, by omega, low_nat h ?_⟩
  have : 2 ^ 20 * 1 ≤ 2 ^ 20 * b.natAbs := Nat.mul_le_mul_left _ (by omega)
  omega
theorem fstO_parts {ps : List Fr} (h : ∀ f ∈ ps, FstO f) (h6 : ps.length ≤ 6) : PartsOk (lcmB ps) ps ∧ lcmB ps < 2 ^ 30 := by
  obtain ⟨p, q⟩ := lcmF_le (B := 9) (ps.map (·.2)) 1 (by decide) fun x hx => by
    obtain ⟨f, hf, rfl⟩ := List.mem_map.mp hx
    have := (h f hf).1.p
    have := (h f hf).2.1
    exact ⟨by omega, by omega⟩
  have l6 : (ps.map (·.2)).length ≤ 6 := by rw [List.length_map]; exact h6
  have q2 : lcmF (ps.map (·.2)) < 2 ^ 30 := by
    refine Nat.lt_of_le_of_lt (Nat.le_trans q ?_) (show 9 ^ 6 < 2 ^ 30 by decide)
    rw [Nat.one_mul]
    exact Nat.pow_le_pow_right (by decide) l6
  have hb : lcmB ps < 2 ^ 30 := by unfold lcmB; omega
  refine ⟨⟨by unfold lcmB; exact Int.natCast_pos.mpr p, pow_up hb (by decide), fun f hf => ⟨(h f hf).1, ?_, Nat.le_trans (h f hf).2.2 (Nat.mul_le_mul_right _ (Nat.pow_le_pow_right (by decide) (by decide)))⟩⟩, hb⟩
  have := (h f hf).1.p
  exact lcmF_dvd (List.mem_map_of_mem hf) (by omega)
theorem low_bound {m S : Int} (hS : 0 < S) (hb : S < 2 ^ 2700) (h0 : 0 ≤ m) (hm : m ≤ S) : 0 < (low m S).2 ∧ (low m S).2.natAbs < 2 ^ 2700 ∧ (low m S).1.natAbs < 2 ^ 2700 := by
  obtain ⟨o, r, d⟩ := low_ok (t := m) hS
  have op := o.p
  have hle := Int.le_of_dvd hS d
  have e : ((2 : Int) ^ 2700) = ((2 ^ 2700 : Nat) : Int) := by rw [Int.natCast_pow]; rfl
  have := low_nat (x := m) (y := S) (M := 1) hS (by omega)
  exact ⟨op, by omega, by omega⟩
theorem gap_sum {n : Nat} {S m : Int} {M : List (List Int)} (h : Rows n S M) (hm : IsLeft M m) : 0 ≤ m ∧ m ≤ S := by
  obtain ⟨m0, ma, mi⟩ := left_all h hm
  refine ⟨m0, ?_⟩
  have hp := h.p
  rcases mi with e | ⟨r, hr, c, hc, e⟩
  · omega
  · obtain ⟨r1, r2, r3⟩ := h.r r hr
    obtain ⟨c1, c2, c3⟩ := h.r c hc
    have key : ∀ (r c : List Int), r.length = c.length → (∀ x ∈ r, 0 ≤ x) → (∀ x ∈ c, 0 ≤ x) → gapF r c ≤ r.sum := by
      intro r
      induction r with
      | nil =>
        intro c h _ _
        cases c with
        | nil => exact Int.le_refl _
        | cons _ _ => simp at h
      | cons x r ih =>
        intro c h hx hc
        cases c with
        | nil => simp at h
        | cons y c =>
          have := ih c (by simpa using h) (fun z hz => hx z (List.mem_cons_of_mem _ hz)) fun z hz => hc z (List.mem_cons_of_mem _ hz)
          have h1 := hx x List.mem_cons_self
          have h2 := hc y List.mem_cons_self
          rw [gapF_cons, List.sum_cons]
          split <;> omega
    have := key r c (by omega) r2 c2
    omega
theorem AcS.same {G G1 G2 : Hp} {D : Addr} {ds : List PyData} (h : AcS G D ds G1) (s : Same G1 G2) : AcS G D ds G2 := by
  obtain ⟨us, h1, iu, s1⟩ := h
  exact ⟨us, s _ _ h1, ImAll.mono (Same.tups s) _ _ iu, s1.trans s⟩
theorem im_app {H : Hp} : ∀ {us vs : List V} {ds es : List PyData}, ImAll H us ds → ImAll H vs es → ImAll H (us ++ vs) (ds ++ es)
  | _, _, _, _, .nil, g => g
  | _, _, _, _, .cons i t, g => .cons i (im_app t g)
section
variable {P : Program} {w : World} {K : PySem.W.Frag} {mg : Str → Option Value} {base : Heap}
end
end M

namespace M
open PySem L2 U ZN
def kwL (us ws : List Value) : List Value := us ++ ws.reverse
def kwV (us ws : List V) : List V := us ++ ws.reverse
theorem anyL {X : Cx} (K : PySem.W.Frag) (hc : X.calm = true := by rfl) (h : X.K = K := by rfl) : CallR X (.builtin "any") (rAny K) := by subst h; exact cr_any hc
theorem mk_same {C : Addr} {H : Hp} {x dx : Addr} (nx : H x = none) (ndx : H dx = none) (hne : dx ≠ x) : Same H (upd (upd H dx (.own x)) x (.ins C dx [])) := by
  have n1 : Same H (upd H dx (.own x)) := same_upd ndx
  have nx2 : upd H dx (.own x) x = none := by rw [upd_ne (fun e => hne e.symm)]; exact nx
  exact n1.trans (same_upd nx2 (o := .ins C dx []))
theorem eqv_fr (f g : Fr) : PyData.eqv (dFr f) (dFr g) = decide (f = g) := by
  unfold dFr
  simp only [PyData.eqv, PyData.eqvAll]
  rw [Bool.and_true]
  by_cases h : f = g
  · subst h
    simp
  · rw [decide_eq_false h]
    by_cases h1 : f.1 = g.1
    · have h2 : f.2 ≠ g.2 := fun q => h (Prod.ext h1 q)
      simp [h1, h2]
    · simp [h1]
theorem eqv_frs : ∀ (ps qs : List Fr), PyData.eqvAll (ps.map dFr) (qs.map dFr) = decide (ps = qs)
  | [], [] => by simp [PyData.eqvAll]
  | [], _ :: _ => by simp [PyData.eqvAll]
  | _ :: _, [] => by simp [PyData.eqvAll]
  | f :: ps, g :: qs => by
    rw [List.map_cons, List.map_cons]
    simp only [PyData.eqvAll]
    rw [eqv_fr, eqv_frs ps qs]
    by_cases h : f = g
    · subst h
      simp
    · simp [h]
theorem eqv_dFrs (ps qs : List Fr) : PyData.eqv (dFrs ps) (dFrs qs) = decide (ps = qs) := by
  unfold dFrs
  simp only [PyData.eqv]
  exact eqv_frs ps qs
theorem frs_lay : ∀ (ps : List Fr), PyData.canLayAll0 (ps.map dFr) = true ∧ PyData.depthAll (ps.map dFr) ≤ 2
  | [] => by simp [PyData.canLayAll0, PyData.depthAll]
  | f :: ps => by
    obtain ⟨h1, h2⟩ := frs_lay ps
    rw [List.map_cons]
    simp only [PyData.canLayAll0, PyData.depthAll, dFr, PyData.canLay0, PyData.depth]
    rw [h1]
    exact ⟨rfl, by omega⟩
theorem frs_shaped (ps : List Fr) : SeqAt.shaped (dFrs ps) = true := shaped_of (by
  obtain ⟨h1, h2⟩ := frs_lay ps
  unfold dFrs
  simp only [PyData.canLay0, PyData.depth]
  exact ⟨h1, by omega⟩)
theorem CouncilAt.but {C a j : Addr} {H H' : Hp} {m wv : V} {ms : List Str} {ws : List (List (List Int))} (c : CouncilAt C H a m wv ms ws) (b : But j H H') (J : JugAt H j) : CouncilAt C H' a m wv ms ws :=
  c.mono (fun o e => b _ _ (fun q => by
    obtain ⟨dq, hq⟩ := c.ob
    obtain ⟨u1, u2, u3, hj, _⟩ := J
    rw [q, hj] at hq
    cases hq) e) (b.tups J)
theorem seqP {t u : TS} {D : Ends} {σ : L2.St} {H : Hp} (P : L2.St → Hp → Prop) (h1 : ∀ N : L2.St → Hp → Prop, (∀ σ' H', P σ' H' → N σ' H') → t { D with nx := N } σ H) (h2 : ∀ σ' H', P σ' H' → u D σ' H') : tSeq t u D σ H := h1 (u D) h2
theorem fz_but {H H' : Hp} {j : Addr} {v : V} {xs : List V} (f : Fz H v xs) (b : But j H H') (J : JugAt H j) : Fz H' v xs := by
  obtain ⟨a, r, e, hd, ha⟩ := f
  obtain ⟨x, y, z, hj, _⟩ := J
  exact ⟨a, r, e, hd, b a _ (fun q => by rw [q, hj] at ha; cases ha) ha⟩
theorem fr_shaped (f : Fr) : SeqAt.shaped (dFr f) = true := shaped_of (by
  unfold dFr
  simp only [PyData.canLay0, PyData.canLayAll0, PyData.depth, PyData.depthAll]
  exact ⟨rfl, by omega⟩)
end M

namespace U
open PySem L2
/-! ### data with lists in it; none of its lists stands at the addresses X -/
mutual
inductive Ld (X : List Addr) (H : Hp) : V → PyData → Prop
  | non : Ld X H .non .none
  | bl (b : Bool) : Ld X H (.bl b) (.bool b)
  | int (i : Int) : Ld X H (.int i) (.int i)
  | str (x : Str) : Ld X H (.str x) (.str x)
  | tup {a : Addr} {xs : List V} {ds : List PyData} : Tu H a xs → LdAll X H xs ds → Ld X H (.ref a) (.tuple ds)
  | lst {a : Addr} {xs : List V} {ds : List PyData} : H a = some (.lst xs) → a ∉ X → LdAll X H xs ds → Ld X H (.ref a) (.list ds)
inductive LdAll (X : List Addr) (H : Hp) : List V → List PyData → Prop
  | nil : LdAll X H [] []
  | cons {v : V} {vs : List V} {d : PyData} {ds : List PyData} : Ld X H v d → LdAll X H vs ds → LdAll X H (v :: vs) (d :: ds)
end
/-- all stands but what lies at X -/
def Kp (X : List Addr) (H H' : Hp) : Prop := (∀ a o, H a = some o → a ∉ X → H' a = some o) ∧ TupS H H'
theorem Kp.refl {X : List Addr} {H : Hp} : Kp X H H := ⟨fun _ _ e _ => e, fun _ _ h => h⟩
theorem Kp.trans {X : List Addr} {H H1 H2 : Hp} (h : Kp X H H1) (g : Kp X H1 H2) : Kp X H H2 := ⟨fun a o e n => g.1 a o (h.1 a o e n) n, h.2.trans g.2⟩
theorem Kp.of {X : List Addr} {H H' : Hp} (s : Same H H') : Kp X H H' := ⟨fun a o e _ => s a o e, Same.tups s⟩
theorem Kp.put {X : List Addr} {H : Hp} {D : Addr} {us : List V} {o : HO} (h : H D = some (.lst us)) (m : D ∈ X) : Kp X H (upd H D o) := ⟨fun a u e n => by rw [upd_ne (fun q => n (by rw [q]; exact m))]; exact e, TupS.lst h⟩
theorem Kp.more {X Y : List Addr} {H H' : Hp} (h : Kp X H H') (s : ∀ a ∈ X, a ∈ Y) : Kp Y H H' := ⟨fun a o e n => h.1 a o e (fun q => n (s a q)), h.2⟩
/-- what was not there yet doesn't count -/
theorem Kp.less {X : List Addr} {H H' : Hp} {D : Addr} (h : Kp (D :: X) H H') (n : H D = none) : Kp X H H' := ⟨fun a o e m => h.1 a o e (fun q => by
  rcases List.mem_cons.mp q with q | q
  · rw [q, n] at e; cases e
  · exact m q), h.2⟩
theorem Kp.same {H H' : Hp} (h : Kp [] H H') : Same H H' := fun a o e => h.1 a o e (fun q => nomatch q)
mutual
theorem Ld.mono {X : List Addr} {H H' : Hp} (k : Kp X H H') : ∀ (d : PyData) (v : V), Ld X H v d → Ld X H' v d
  | .none, _, h => by cases h; exact .non
  | .bool _, _, h => by cases h; exact .bl _
  | .int _, _, h => by cases h; exact .int _
  | .str _, _, h => by cases h; exact .str _
  | .dict _, _, h => by cases h
  | .list ds, _, h => by
    cases h with
    | lst h1 h2 h3 => exact .lst (k.1 _ _ h1 h2) h2 (LdAll.mono k ds _ h3)
  | .tuple ds, _, h => by
    cases h with
    | tup h1 h2 => exact .tup (k.2 _ _ h1) (LdAll.mono k ds _ h2)
theorem LdAll.mono {X : List Addr} {H H' : Hp} (k : Kp X H H') : ∀ (ds : List PyData) (vs : List V), LdAll X H vs ds → LdAll X H' vs ds
  | [], _, h => by cases h; exact .nil
  | d :: ds, _, h => by
    cases h with
    | cons h1 h2 => exact .cons (Ld.mono k d _ h1) (LdAll.mono k ds _ h2)
end
mutual
theorem Ld.less {X Y : List Addr} {H : Hp} (s : ∀ a ∈ Y, a ∈ X) : ∀ (d : PyData) (v : V), Ld X H v d → Ld Y H v d
  | .none, _, h => by cases h; exact .non
  | .bool _, _, h => by cases h; exact .bl _
  | .int _, _, h => by cases h; exact .int _
  | .str _, _, h => by cases h; exact .str _
  | .dict _, _, h => by cases h
  | .list ds, _, h => by
    cases h with
    | lst h1 h2 h3 => exact .lst h1 (fun q => h2 (s _ q)) (LdAll.less s ds _ h3)
  | .tuple ds, _, h => by
    cases h with
    | tup h1 h2 => exact .tup h1 (LdAll.less s ds _ h2)
theorem LdAll.less {X Y : List Addr} {H : Hp} (s : ∀ a ∈ Y, a ∈ X) : ∀ (ds : List PyData) (vs : List V), LdAll X H vs ds → LdAll Y H vs ds
  | [], _, h => by cases h; exact .nil
  | d :: ds, _, h => by
    cases h with
    | cons h1 h2 => exact .cons (Ld.less s d _ h1) (LdAll.less s ds _ h2)
end
mutual
/-- what comes later is none of it -/
theorem Ld.fresh {X : List Addr} {H : Hp} {D : Addr} (n : H D = none) : ∀ (d : PyData) (v : V), Ld X H v d → Ld (D :: X) H v d
  | .none, _, h => by cases h; exact .non
  | .bool _, _, h => by cases h; exact .bl _
  | .int _, _, h => by cases h; exact .int _
  | .str _, _, h => by cases h; exact .str _
  | .dict _, _, h => by cases h
  | .list ds, _, h => by
    cases h with
    | lst h1 h2 h3 =>
      refine .lst h1 (fun q => ?_) (LdAll.fresh n ds _ h3)
      rcases List.mem_cons.mp q with q | q
      · rw [q, n] at h1; cases h1
      · exact h2 q
  | .tuple ds, _, h => by
    cases h with
    | tup h1 h2 => exact .tup h1 (LdAll.fresh n ds _ h2)
theorem LdAll.fresh {X : List Addr} {H : Hp} {D : Addr} (n : H D = none) : ∀ (ds : List PyData) (vs : List V), LdAll X H vs ds → LdAll (D :: X) H vs ds
  | [], _, h => by cases h; exact .nil
  | d :: ds, _, h => by
    cases h with
    | cons h1 h2 => exact .cons (Ld.fresh n d _ h1) (LdAll.fresh n ds _ h2)
end
mutual
theorem Ld.dp {X : List Addr} {K : PySem.W.Frag} {H : Hp} : ∀ (d : PyData) (v : V), Ld X H v d → Dp K H v d
  | .none, _, h => by cases h; exact .non
  | .bool _, _, h => by cases h; exact .bl _
  | .int _, _, h => by cases h; exact .int _
  | .str _, _, h => by cases h; exact .str _
  | .dict _, _, h => by cases h
  | .list ds, _, h => by
    cases h with
    | lst h1 h2 h3 => exact .lst (SqL.of h1) (LdAll.dp ds _ h3)
  | .tuple ds, _, h => by
    cases h with
    | tup h1 h2 => exact .tup h1.sq (LdAll.dp ds _ h2)
theorem LdAll.dp {X : List Addr} {K : PySem.W.Frag} {H : Hp} : ∀ (ds : List PyData) (vs : List V), LdAll X H vs ds → DpAll K H vs ds
  | [], _, h => by cases h; exact .nil
  | d :: ds, _, h => by
    cases h with
    | cons h1 h2 => exact .cons (Ld.dp d _ h1) (LdAll.dp ds _ h2)
end
mutual
theorem Im.ld {X : List Addr} {H : Hp} : ∀ (d : PyData) (v : V), Im H v d → Ld X H v d
  | .none, _, h => by cases h; exact .non
  | .bool _, _, h => by cases h; exact .bl _
  | .int _, _, h => by cases h; exact .int _
  | .str _, _, h => by cases h; exact .str _
  | .list _, _, h => by cases h
  | .dict _, _, h => by cases h
  | .tuple ds, _, h => by
    cases h with
    | tup h1 h2 => exact .tup h1 (ImAll.ld ds _ h2)
theorem ImAll.ld {X : List Addr} {H : Hp} : ∀ (ds : List PyData) (vs : List V), ImAll H vs ds → LdAll X H vs ds
  | [], _, h => by cases h; exact .nil
  | d :: ds, _, h => by
    cases h with
    | cons h1 h2 => exact .cons (Im.ld d _ h1) (ImAll.ld ds _ h2)
end
theorem LdAll.length {X : List Addr} {H : Hp} : ∀ {ds : List PyData} {vs : List V}, LdAll X H vs ds → vs.length = ds.length
  | [], _, h => by cases h; rfl
  | d :: ds, _, h => by
    cases h with
    | cons h1 h2 => rw [List.length_cons, List.length_cons, LdAll.length h2]
theorem LdAll.get {X : List Addr} {H : Hp} : ∀ {ds : List PyData} {vs : List V} {i : Nat} {v : V}, LdAll X H vs ds → vs[i]? = some v → ∃ d, ds[i]? = some d ∧ Ld X H v d
  | [], _, _, _, h, e => by cases h; simp at e
  | d :: ds, _, 0, _, h, e => by
    cases h with
    | cons h1 h2 =>
      rw [List.getElem?_cons_zero] at e
      cases e
      exact ⟨d, rfl, h1⟩
  | d :: ds, _, i + 1, v, h, e => by
    cases h with
    | cons h1 h2 =>
      rw [List.getElem?_cons_succ] at e
      obtain ⟨d', q1, q2⟩ := LdAll.get (i := i) (v := v) h2 e
      exact ⟨d', by rw [List.getElem?_cons_succ]; exact q1, q2⟩
theorem LdAll.at {α : Type} {X : List Addr} {H : Hp} {f : α → PyData} {l : List α} {vs : List V} {i : Nat} {x : α} (h : LdAll X H vs (l.map f)) (e : l[i]? = some x) : ∃ v, vs[i]? = some v ∧ Ld X H v (f x) := by
  have hl := h.length
  have il := (List.getElem?_eq_some_iff.mp e).1
  rw [List.length_map] at hl
  have hv : vs[i]? = some (vs[i]'(by omega)) := List.getElem?_eq_getElem _
  obtain ⟨d, hd, g⟩ := h.get hv
  rw [List.getElem?_map, e] at hd
  cases hd
  exact ⟨_, hv, g⟩
theorem LdAll.snoc {X : List Addr} {H : Hp} {d : PyData} {v : V} (h : Ld X H v d) : ∀ {ds : List PyData} {vs : List V}, LdAll X H vs ds → LdAll X H (vs ++ [v]) (ds ++ [d])
  | [], _, q => by cases q; exact .cons h .nil
  | _ :: _, _, q => by
    cases q with
    | cons h1 h2 => exact .cons h1 (LdAll.snoc h h2)
theorem LdAll.app {X : List Addr} {H : Hp} : ∀ {ds es : List PyData} {us vs : List V}, LdAll X H us ds → LdAll X H vs es → LdAll X H (us ++ vs) (ds ++ es)
  | [], _, _, _, h, g => by cases h; exact g
  | _ :: _, _, _, _, h, g => by
    cases h with
    | cons i t => exact .cons i (LdAll.app t g)
theorem Ld.tuple {X : List Addr} {H : Hp} {v : V} {ds : List PyData} (h : Ld X H v (.tuple ds)) : ∃ a xs, v = .ref a ∧ Tu H a xs ∧ LdAll X H xs ds := by
  cases h with
  | tup h1 h2 => exact ⟨_, _, rfl, h1, h2⟩
theorem Ld.list {X : List Addr} {H : Hp} {v : V} {ds : List PyData} (h : Ld X H v (.list ds)) : ∃ a xs, v = .ref a ∧ H a = some (.lst xs) ∧ a ∉ X ∧ LdAll X H xs ds := by
  cases h with
  | lst h1 h2 h3 => exact ⟨_, _, rfl, h1, h2, h3⟩
/-- a list of ints -/
def dLi (r : List Int) : PyData := .list (r.map PyData.int)
theorem LdAll.ints {X : List Addr} {H : Hp} : ∀ {r : List Int} {vs : List V}, LdAll X H vs (r.map PyData.int) → vs = r.map V.int
  | [], _, h => by cases h; rfl
  | z :: r, _, h => by
    cases h with
    | cons h1 h2 =>
      cases h1
      rw [LdAll.ints h2]; rfl
theorem ldInts {X : List Addr} {H : Hp} : ∀ r : List Int, LdAll X H (r.map V.int) (r.map PyData.int)
  | [] => .nil
  | z :: r => .cons (.int z) (ldInts r)
/-- a list at D that is filled -/
def AcD (X : List Addr) (G : Hp) (D : Addr) (ds : List PyData) (G1 : Hp) : Prop := ∃ us : List V, G1 D = some (.lst us) ∧ LdAll (D :: X) G1 us ds ∧ Kp X G G1
theorem acD0 {X : List Addr} {G : Hp} {D : Addr} (hD : G D = none) : AcD X G D [] (upd G D (.lst [])) := ⟨[], upd_same, .nil, Kp.of (same_upd hD)⟩
theorem acD1 {X : List Addr} {G G1 G2 : Hp} {D : Addr} {ds : List PyData} {y : V} {d : PyData} (hD : G D = none) (h : AcD X G D ds G1) (s2 : Kp X G1 G2) (nX : D ∉ X) (iy : Ld (D :: X) G2 y d) (hM : ds.length ≤ 1000) :
    ∃ acc : List V, G2 D = some (.lst acc) ∧ acc.length < sizeLine ∧ AcD X G D (ds ++ [d]) (upd G2 D (.lst (acc ++ [y]))) := by
  obtain ⟨us, h1, iu, s1⟩ := h
  have h2 := s2.1 _ _ h1 nX
  have s2' : Kp (D :: X) G1 G2 := s2.more fun a m => List.mem_cons_of_mem _ m
  have kp : Kp (D :: X) G2 (upd G2 D (.lst (us ++ [y]))) := Kp.put h2 List.mem_cons_self
  refine ⟨us, h2, small1000 (by rw [iu.length]; exact hM), us ++ [y], upd_same, LdAll.mono kp _ _ (LdAll.snoc iy (LdAll.mono s2' _ _ iu)), ?_⟩
  exact (((s1.more fun a m => List.mem_cons_of_mem _ m).trans s2').trans kp).less hD
end U
namespace U
open PySem L2
/-- data without lists -/
def Fl (d : PyData) : Prop := ∀ (X : List Addr) (H : Hp) (v : V), Ld X H v d → Im H v d
theorem fl_int (i : Int) : Fl (.int i) := fun _ _ _ h => by cases h; exact .int _
theorem fl_str (x : Str) : Fl (.str x) := fun _ _ _ h => by cases h; exact .str _
theorem fl_non : Fl .none := fun _ _ _ h => by cases h; exact .non
theorem fl_bl (b : Bool) : Fl (.bool b) := fun _ _ _ h => by cases h; exact .bl _
theorem fl_all : ∀ {ds : List PyData}, (∀ d ∈ ds, Fl d) → ∀ {X : List Addr} {H : Hp} {vs : List V}, LdAll X H vs ds → ImAll H vs ds
  | [], _, _, _, _, h => by cases h; exact .nil
  | d :: ds, f, _, _, _, h => by
    cases h with
    | cons h1 h2 => exact .cons (f d List.mem_cons_self _ _ _ h1) (fl_all (fun e he => f e (List.mem_cons_of_mem _ he)) h2)
theorem fl_tup {ds : List PyData} (f : ∀ d ∈ ds, Fl d) : Fl (.tuple ds) := fun _ _ _ h => by
  cases h with
  | tup h1 h2 => exact .tup h1 (fl_all f h2)
theorem fl_map {α : Type} {g : α → PyData} {l : List α} (f : ∀ x ∈ l, Fl (g x)) : ∀ d ∈ l.map g, Fl d := fun d hd => by
  obtain ⟨x, hx, rfl⟩ := List.mem_map.mp hd
  exact f x hx
end U

namespace M
open PySem L2 U ZN
theorem rl_ld {X : List Addr} {H : Hp} : ∀ {us : List V} {M : List (List Int)}, RL H us M → (∀ v ∈ us, ∀ a ∈ X, v ≠ .ref a) → LdAll X H us (M.map dLi)
  | _, _, .nil, _ => .nil
  | _, _, .cons h t, n => .cons (.lst h (fun q => n _ List.mem_cons_self _ q rfl) (ldInts _)) (rl_ld t fun v hv => n v (List.mem_cons_of_mem _ hv))
theorem ld_rl {X : List Addr} {H : Hp} : ∀ {us : List V} {M : List (List Int)}, LdAll X H us (M.map dLi) → RL H us M
  | _, [], h => by cases h; exact .nil
  | _, r :: M, h => by
    cases h with
    | cons i t =>
      obtain ⟨a, xs, rfl, ha, _, hx⟩ := i.list
      rw [hx.ints] at ha
      exact .cons ha (ld_rl t)
theorem rows_S {n : Nat} {S S' : Int} {M : List (List Int)} (h : Rows n S M) (h' : Rows n S' M) (n1 : 1 ≤ n) : S' = S := by
  obtain ⟨r, hr⟩ := List.exists_mem_of_length_pos (l := M) (by rw [h.l]; omega)
  rw [← (h'.r r hr).2.2, (h.r r hr).2.2]
/-! ### what is left, as a function -/
def gX (M : List (List Int)) (x : List Fr) : Int := gapT (M.map fun r => dot r (tops 1 x))
def leftI (M : List (List Int)) : Int := ((pairsF M.length).map (gapP M)).foldl mxS 0
def sumI (M : List (List Int)) : Int := ((M[0]?).getD []).sum
def leftF (M : List (List Int)) : Fr := low (leftI M) (sumI M)
theorem sumI_ok {n : Nat} {S : Int} {M : List (List Int)} (h : Rows n S M) (n1 : 1 ≤ n) : sumI M = S := by
  have e0 : M[0]? = some (M[0]'(by rw [h.l]; omega)) := List.getElem?_eq_getElem _
  unfold sumI
  rw [e0]
  exact (h.r _ (List.getElem_mem _)).2.2
theorem gapP_pos {n : Nat} {S : Int} {M : List (List Int)} (h : Rows n S M) {p : Nat × Nat} (hp : p ∈ pairsF M.length) : 0 ≤ gapP M p := by
  obtain ⟨p1, p2⟩ := pairs_lt hp
  unfold gapP
  rw [List.getElem?_eq_getElem p1, List.getElem?_eq_getElem p2]
  exact gap_pos _ _ (by show (M[p.1]).length = (M[p.2]).length; rw [(h.r _ (List.getElem_mem p1)).1, (h.r _ (List.getElem_mem p2)).1])
theorem left_is {n : Nat} {S m : Int} {M : List (List Int)} (h : Rows n S M) (hm : IsLeft M m) : m = leftI M := by
  obtain ⟨m0, _, _⟩ := left_all h hm
  unfold leftI
  by_cases e : pairsF M.length = []
  · rw [e, hm.1 e]; rfl
  · obtain ⟨⟨p, hp, e1⟩, e2⟩ := hm.2 e
    refine (fold_mx _ 0 m0 (fun b hb => ?_) (.inr (List.mem_map.mpr ⟨p, hp, e1.symm⟩))).symm
    obtain ⟨q, hq, rfl⟩ := List.mem_map.mp hb
    exact e2 q hq
theorem leftF_is {n : Nat} {S m : Int} {M : List (List Int)} (h : Rows n S M) (n1 : 1 ≤ n) (hm : IsLeft M m) : low m S = leftF M := by
  unfold leftF
  rw [← left_is h hm, sumI_ok h n1]
/-! ### the spread never grows -/
theorem ex_max : ∀ (l : List Int), l ≠ [] → ∃ m ∈ l, ∀ y ∈ l, y ≤ m
  | [], h => absurd rfl h
  | [x], _ => ⟨x, List.mem_cons_self, fun y hy => by rw [List.mem_singleton.mp hy]; exact Int.le_refl _⟩
  | x :: y :: l, _ => by
    obtain ⟨m, hm, h⟩ := ex_max (y :: l) (List.cons_ne_nil _ _)
    by_cases q : x ≤ m
    · exact ⟨m, List.mem_cons_of_mem _ hm, fun z hz => by
        rcases List.mem_cons.mp hz with rfl | hz
        · exact q
        · exact h z hz⟩
    · exact ⟨x, List.mem_cons_self, fun z hz => by
        rcases List.mem_cons.mp hz with rfl | hz
        · exact Int.le_refl _
        · have := h z hz; omega⟩
theorem dot_le {m : Int} : ∀ (r c : List Int), r.length = c.length → (∀ x ∈ r, 0 ≤ x) → (∀ y ∈ c, y ≤ m) → dot r c ≤ r.sum * m
  | [], [], _, _, _ => by rw [dot_nil, List.sum_nil, Int.zero_mul]; exact Int.le_refl _
  | [], _ :: _, h, _, _ => by simp at h
  | _ :: _, [], h, _, _ => by simp at h
  | x :: r, y :: c, h, hx, hy => by
    rw [dot_cons, List.sum_cons, Int.add_mul]
    have ih := dot_le (m := m) r c (by simpa using h) (fun z hz => hx z (List.mem_cons_of_mem _ hz)) fun z hz => hy z (List.mem_cons_of_mem _ hz)
    have := Int.mul_le_mul_of_nonneg_left (hy y List.mem_cons_self) (hx x List.mem_cons_self)
    omega
theorem dot_ge {m : Int} : ∀ (r c : List Int), r.length = c.length → (∀ x ∈ r, 0 ≤ x) → (∀ y ∈ c, m ≤ y) → r.sum * m ≤ dot r c
  | [], [], _, _, _ => by rw [dot_nil, List.sum_nil, Int.zero_mul]; exact Int.le_refl _
  | [], _ :: _, h, _, _ => by simp at h
  | _ :: _, [], h, _, _ => by simp at h
  | x :: r, y :: c, h, hx, hy => by
    rw [dot_cons, List.sum_cons, Int.add_mul]
    have ih := dot_ge (m := m) r c (by simpa using h) (fun z hz => hx z (List.mem_cons_of_mem _ hz)) fun z hz => hy z (List.mem_cons_of_mem _ hz)
    have := Int.mul_le_mul_of_nonneg_left (hy y List.mem_cons_self) (hx x List.mem_cons_self)
    omega
theorem ex_min (l : List Int) (h : l ≠ []) : ∃ m ∈ l, ∀ y ∈ l, m ≤ y := by
  obtain ⟨m, hm, g⟩ := ex_max (l.map fun x => -x) (fun e => h (List.map_eq_nil_iff.mp e))
  obtain ⟨x, hx, rfl⟩ := List.mem_map.mp hm
  exact ⟨x, hx, fun y hy => by have := g (-y) (List.mem_map_of_mem hy); omega⟩
theorem spr_less {n : Nat} {B : Int} {ps : List Fr} {ws : List (List (List Int))} {road : List Nat} (W : Wrd n ws road) (po : PartsOk B ps) (hb : B < 2 ^ 1600) (hl : ps.length = n) :
    ∀ C, PartsOk C (laterF ws ps road) → ¬ ((sprF B ps).1 * (sprF C (laterF ws ps road)).2 < (sprF C (laterF ws ps road)).1 * (sprF B ps).2) := by
  intro C pC
  have n1 := W.n1
  obtain ⟨S, k1, k4, k5, _⟩ := W.ok po hb hl
  have hS := k1.p
  have hB := po.p
  have hBS := Int.mul_pos hB hS
  rw [spr_same pC k5, ← spr_mul po hS]
  unfold sprF
  rw [low_gt hBS]
  have tl : (tops B ps).length = n := by unfold tops; rw [List.length_map, hl]
  have et : tops (B * S) (laterF ws ps road) = (rowsF n ws road).map fun r => dot r (tops B ps) := by
    rw [k4]
    exact later_tops po k1
  rw [et, tops_mul po, gap_map (Int.le_of_lt hS)]
  have tne : tops B ps ≠ [] := fun e => by rw [e] at tl; simp at tl; omega
  obtain ⟨m, hm, hM⟩ := ex_max _ tne
  obtain ⟨k, hk, hK⟩ := ex_min _ tne
  rw [gap_max hm hM hk hK]
  have row : ∀ x ∈ (rowsF n ws road).map fun r => dot r (tops B ps), x ≤ S * m ∧ S * k ≤ x := fun x hx => by
    obtain ⟨r, hr, rfl⟩ := List.mem_map.mp hx
    obtain ⟨q1, q2, q3⟩ := k1.r r hr
    have h1 := dot_le r (tops B ps) (by rw [q1, tl]) q2 hM
    have h2 := dot_ge r (tops B ps) (by rw [q1, tl]) q2 hK
    rw [q3] at h1 h2
    exact ⟨h1, h2⟩
  obtain ⟨_, _, a3⟩ := gap_is ((rowsF n ws road).map fun r => dot r (tops B ps))
  have hkm := hM k hk
  have h0 : 0 ≤ (m - k) * S := Int.mul_nonneg (by omega) (Int.le_of_lt hS)
  have e3 : (m - k) * S = S * m - S * k := by rw [Int.sub_mul, Int.mul_comm m S, Int.mul_comm k S]
  rcases a3 with e | ⟨x, hx, y, hy, e⟩
  · omega
  · have := row x hx
    have := row y hy
    omega
theorem low_cmp {a b A B : Int} (hA : 0 < A) (hB : 0 < B) : ((low a A).1 * (low b B).2 < (low b B).1 * (low a A).2) ↔ a * B < b * A := by
  have e1 : low a A = low (a * B) (A * B) := low_eq hA (Int.mul_pos hA hB) (by ac_rfl)
  have e2 : low b B = low (b * A) (A * B) := low_eq hB (Int.mul_pos hA hB) (by ac_rfl)
  rw [e1, e2]
  exact low_gt (Int.mul_pos hA hB)
theorem left_next {n : Nat} {ws : List (List (List Int))} {road : List Nat} {q : Nat} {S S' m m' : Int} (W : Wrd n ws (road ++ [q])) (h : Rows n S (rowsF n ws road)) (hS : S < 2 ^ 1600) (h' : Rows n S' (rowsF n ws (road ++ [q]))) (hm : IsLeft (rowsF n ws road) m) (hm' : IsLeft (rowsF n ws (road ++ [q])) m') :
    ¬ ((low m S).1 * (low m' S').2 < (low m' S').1 * (low m S).2) := by
  have hp := h.p
  have hp' := h'.p
  rw [low_cmp hp hp']
  obtain ⟨m0, up, _⟩ := left_ones h hm
  obtain ⟨m0', up', at'⟩ := left_ones h' hm'
  rcases at' with e | ⟨x, hx, e⟩
  · subst e
    rw [Int.zero_mul]
    have := Int.mul_nonneg m0 (Int.le_of_lt hp')
    omega
  · obtain ⟨xi, rfl, xl, xb⟩ := ones_is n x hx
    have xp := frI_parts xb
    have xlen : (frI xi).length = n := by unfold frI; rw [List.length_map, xl]
    have W0 : Wrd n ws road := ⟨W.n1, W.wo, by have := W.r12; rw [List.length_append] at this; omega, fun z hz => W.q z (List.mem_append_left _ hz)⟩
    have W1 : Wrd n ws [q] := ⟨W.n1, W.wo, by show 1 ≤ 12; decide, fun z hz => by rw [List.mem_singleton.mp hz]; exact W.q q (List.mem_append_right _ List.mem_cons_self)⟩
    obtain ⟨S0, k1, k4, k5, k6, _⟩ := W0.ok xp (by decide) xlen
    have e0 := rows_S h k1 W.n1
    subst e0
    obtain ⟨S1, j1, j4, j5, j6, _⟩ := W.ok xp (by decide) xlen
    have e1 := rows_S h' j1 W.n1
    subst e1
    have el : laterF ws (laterF ws (frI xi) road) [q] = laterF ws (frI xi) (road ++ [q]) := by unfold laterF; rw [List.foldl_append]
    have sp := spr_less W1 (ps := laterF ws (frI xi) road) k5 (by rw [Int.one_mul]; exact hS) k6 (1 * S1) (by rw [el]; exact j5)
    rw [el, j4, spr_later xp j1 (by rw [← j4]; exact j5) (by rw [← j4]; exact j5), k4, spr_later xp k1 (by rw [← k4]; exact k5) (by rw [← k4]; exact k5), Int.one_mul, Int.one_mul, low_cmp hp hp'] at sp
    have u := up _ hx
    rw [e] at sp
    have := Int.mul_le_mul_of_nonneg_right u (Int.le_of_lt hp')
    omega
/-! ### sums of fractions over one bottom -/
theorem sum_two {a b D : Int} (hD : 0 < D) : sumStep (low a D) (low b D) = low (a + b) D := by
  unfold sumStep
  obtain ⟨o1, r1, _⟩ := low_ok (t := a) hD
  obtain ⟨o2, r2, _⟩ := low_ok (t := b) hD
  have p1 := o1.p
  have p2 := o2.p
  refine low_eq (Int.mul_pos p1 p2) hD ?_
  generalize low a D = f at *
  generalize low b D = g at *
  have e1 : f.1 * g.2 * D = a * (f.2 * g.2) := by
    calc f.1 * g.2 * D = (f.1 * D) * g.2 := by ac_rfl
      _ = a * f.2 * g.2 := by rw [r1]
      _ = a * (f.2 * g.2) := by ac_rfl
  have e2 : g.1 * f.2 * D = b * (f.2 * g.2) := by
    calc g.1 * f.2 * D = (g.1 * D) * f.2 := by ac_rfl
      _ = b * g.2 * f.2 := by rw [r2]
      _ = b * (f.2 * g.2) := by ac_rfl
  rw [Int.add_mul, Int.add_mul, e1, e2]
theorem fold_sum {D : Int} (hD : 0 < D) : ∀ (l : List Int) (a : Int), (l.map fun x => low x D).foldl sumStep (low a D) = low (a + l.sum) D
  | [], a => by rw [List.sum_nil, Int.add_zero]; rfl
  | x :: l, a => by
    rw [List.map_cons, List.foldl_cons, sum_two hD, fold_sum hD l, List.sum_cons, Int.add_assoc]
theorem sum_low {D : Int} (hD : 0 < D) (l : List Int) : sumF (l.map fun x => low x D) = low l.sum D := by
  unfold sumF
  have e0 : ((0, 1) : Fr) = low 0 D := ((low_zero hD).mpr rfl).symm
  rw [e0, fold_sum hD, Int.zero_add]
theorem low_part {a D : Int} {k : Nat} (hD : 0 < D) (hk : D < 2 ^ k) (h0 : 0 ≤ a) (h1 : a ≤ D) : 0 < (low a D).2 ∧ (low a D).2.natAbs < 2 ^ k ∧ (low a D).1.natAbs < 2 ^ k ∧ 0 ≤ (low a D).1 := by
  obtain ⟨o, r, d⟩ := low_ok (t := a) hD
  have op := o.p
  have hle := Int.le_of_dvd hD d
  have e : ((2 : Int) ^ k) = ((2 ^ k : Nat) : Int) := by rw [Int.natCast_pow]; rfl
  have := low_nat (x := a) (y := D) (M := 1) hD (by omega)
  refine ⟨op, by omega, by omega, ?_⟩
  have h2 : 0 ≤ (low a D).1 * D := by rw [r]; exact Int.mul_nonneg h0 (Int.le_of_lt op)
  by_cases q : 0 ≤ (low a D).1
  · exact q
  · have := Int.mul_neg_of_neg_of_pos (show (low a D).1 < 0 by omega) hD
    omega
theorem step_low {a b D : Int} (hD : 0 < D) (hk : D < 2 ^ 3000) (h0 : 0 ≤ a) (h1 : a ≤ D) (g0 : 0 ≤ b) (g1 : b ≤ D) : StepOk (low a D) (low b D) := by
  obtain ⟨p1, p2, p3, _⟩ := low_part hD hk h0 h1
  obtain ⟨q1, q2, q3, _⟩ := low_part hD hk g0 g1
  exact ⟨mulW p3 q2 (by decide) (by decide) (by decide), mulW q3 p2 (by decide) (by decide) (by decide), mulW p2 q2 (by decide) (by decide) (by decide), Int.mul_pos p1 q1, Nat.lt_of_lt_of_le (lg (mulB p2 q2) (by decide)) (by decide)⟩
theorem take_sum : ∀ (l : List Int) (i : Nat), (∀ x ∈ l, 0 ≤ x) → 0 ≤ (l.take i).sum ∧ (l.take i).sum ≤ l.sum ∧ 0 ≤ l.sum
  | [], i, _ => by rw [List.take_nil, List.sum_nil]; exact ⟨Int.le_refl _, Int.le_refl _, Int.le_refl _⟩
  | x :: l, 0, h => by
    have := take_sum l 0 fun y hy => h y (List.mem_cons_of_mem _ hy)
    have := h x List.mem_cons_self
    rw [List.take_zero, List.sum_nil, List.sum_cons]
    exact ⟨Int.le_refl _, by omega, by omega⟩
  | x :: l, i + 1, h => by
    have := take_sum l i fun y hy => h y (List.mem_cons_of_mem _ hy)
    have := h x List.mem_cons_self
    rw [List.take_succ_cons, List.sum_cons, List.sum_cons]
    exact ⟨by omega, by omega, by omega⟩
/-- a sum of parts of one whole may be taken -/
theorem sums_ok {D : Int} {l : List Int} (hD : 0 < D) (hk : D < 2 ^ 3000) (h0 : ∀ x ∈ l, 0 ≤ x) (hs : l.sum ≤ D) : ∀ i f, (l.map fun x => low x D)[i]? = some f → StepOk (sumF ((l.map fun x => low x D).take i)) f := fun i f hf => by
  rw [List.getElem?_map] at hf
  cases hz : l[i]? with
  | none => rw [hz] at hf; cases hf
  | some x =>
    rw [hz] at hf
    cases hf
    rw [← List.map_take, sum_low hD]
    obtain ⟨t0, t1, _⟩ := take_sum l i h0
    have hx := List.mem_of_getElem? hz
    have := le_sum h0 hx
    exact step_low hD hk t0 (by omega) (h0 x hx) (by omega)
/-! ### the shares -/
def shareF (S : Int) (r : List Int) : List Fr := r.map fun x => low x S
theorem dot_at {n k : Nat} {r : List Int} (hl : r.length = n) (hk : k < n) : dot r (idRow n k) = (r[k]?).getD 0 := by
  have e : r[k]? = some (r[k]'(by omega)) := List.getElem?_eq_getElem (by omega)
  rw [dot_idRow hl e, e]
  rfl
theorem term_low {f : Fr} {w t S m : Int} (ht : 0 < t) (hS : 0 < S) (hf : f = low m S) : 0 < t * f.2 ∧ low (w * f.1) (t * f.2) = low (w * m) (t * S) := by
  subst hf
  obtain ⟨o, r, _⟩ := low_ok (t := m) hS
  have hp := Int.mul_pos ht o.p
  refine ⟨hp, low_eq hp (Int.mul_pos ht hS) ?_⟩
  generalize low m S = f at *
  calc w * f.1 * (t * S) = w * t * (f.1 * S) := by ac_rfl
    _ = w * t * (m * f.2) := by rw [r]
    _ = w * m * (t * f.2) := by ac_rfl
theorem share_day {n : Nat} {S S' : Int} {M w : List (List Int)} {x : List Int} {k : Nat} (n6 : n ≤ 6) (h : Rows n S M) (hS : S < 2 ^ 2700) (ok : WayOk n w) (h' : Rows n S' (evM (mulM n w M))) (hx : x ∈ w) (hk : k < n) :
    low (((List.range n).map fun j => (x[j]?).getD 0 * ((((M[j]?).getD [])[k]?).getD 0)).sum) (x.sum * S) = low (((evR (mulM n w M) (mulR n x M))[k]?).getD 0) S' := by
  have hg : ∀ r ∈ mulM n w M, RowG r := fun r hr => by
    unfold mulM at hr
    obtain ⟨x, hx, rfl⟩ := List.mem_map.mp hr
    obtain ⟨q1, q2, q3⟩ := mulR_ok h (ok.2 x hx)
    have rs := row_sum (ok.2 x hx) n6
    refine ⟨by omega, q2, by rw [q3]; exact Int.mul_pos rs.1 h.p, ?_⟩
    rw [q3]
    have e1 : (x.sum * S).natAbs < 2 ^ (33 + 2700) := mulB (by omega) (natAbs_lt (Int.le_of_lt h.p) hS)
    have e2 := upB e1 (show 33 + 2700 ≤ 3000 by decide)
    have e3 : ((2 : Int) ^ 3000) = ((2 ^ 3000 : Nat) : Int) := by rw [Int.natCast_pow]; rfl
    omega
  have hr : mulR n x M ∈ mulM n w M := List.mem_map_of_mem hx
  obtain ⟨lp, el, _, es, g, b, g0, b0, h1, h2⟩ := evR_ok hg hr
  obtain ⟨q1, q2, q3⟩ := mulR_ok h (ok.2 x hx)
  have rs := row_sum (ok.2 x hx) n6
  have hm : evR (mulM n w M) (mulR n x M) ∈ evM (mulM n w M) := by rw [evM_eq]; exact List.mem_map_of_mem hr
  have eS : (evR (mulM n w M) (mulR n x M)).sum = S' := (h'.r _ hm).2.2
  have e1 : ((List.range n).map fun j => (x[j]?).getD 0 * ((((M[j]?).getD [])[k]?).getD 0)).sum = dot x (colV M k) := by
    rw [dot_range (ok.2 x hx).1 (show (colV M k).length = n by unfold colV; rw [List.length_map, h.l])]
    refine congrArg List.sum (List.map_congr_left fun j hj => ?_)
    have hj := List.mem_range.mp hj
    unfold colV
    rw [List.getElem?_map, List.getElem?_eq_getElem (show j < M.length by rw [h.l]; exact hj)]
    rfl
  have e2 : ((mulR n x M)[k]?).getD 0 = dot x (colV M k) := by
    unfold mulR
    rw [List.getElem?_map, List.getElem?_range hk]
    rfl
  have h3 := h2 (idRow n k)
  rw [dot_at (el.trans q1) hk, dot_at q1 hk, e2] at h3
  rw [e1]
  refine low_eq (Int.mul_pos rs.1 h.p) h'.p ?_
  rw [eS] at h1
  rw [q3] at h1
  refine Int.eq_of_mul_eq_mul_right (a := b * g) (Int.ne_of_gt (Int.mul_pos b0 g0)) ?_
  generalize ((evR (mulM n w M) (mulR n x M))[k]?).getD 0 = u at *
  generalize dot x (colV M k) = v at *
  calc v * S' * (b * g) = (v * b) * (S' * g) := by ac_rfl
    _ = (u * g) * (x.sum * S * b) := by rw [← h3, h1]
    _ = u * (x.sum * S) * (b * g) := by ac_rfl
/-! ### two rows -/
def lesF (S : Int) (r c : List Int) : List Fr := (r.zip c).map fun p => if (low p.1 S).1 * (low p.2 S).2 < (low p.2 S).1 * (low p.1 S).2 then low p.1 S else low p.2 S
theorem lesF_eq {S : Int} (hS : 0 < S) (r c : List Int) : lesF S r c = (lessF r c).map fun x => low x S := by
  unfold lesF lessF
  rw [List.map_map]
  refine List.map_congr_left fun p _ => ?_
  show (if _ then _ else _) = low (if p.2 < p.1 then p.2 else p.1) S
  by_cases q : p.1 < p.2
  · rw [if_pos ((low_gt hS).mpr q), if_neg (by omega)]
  · rw [if_neg (fun z => q ((low_gt hS).mp z))]
    by_cases q2 : p.2 < p.1
    · rw [if_pos q2]
    · rw [if_neg q2]
      congr 1
      omega
theorem less_pos {r c : List Int} (hr : ∀ x ∈ r, 0 ≤ x) (hc : ∀ x ∈ c, 0 ≤ x) : ∀ x ∈ lessF r c, 0 ≤ x := fun x hx => by
  unfold lessF at hx
  obtain ⟨p, hp, rfl⟩ := List.mem_map.mp hx
  have := List.of_mem_zip hp
  split
  · exact hc _ this.2
  · exact hr _ this.1
theorem less_sum {r c : List Int} (hl : r.length = c.length) : (lessF r c).sum ≤ r.sum := by
  have := gap_pos r c hl
  unfold gapF at this
  omega
theorem one_less {L S : Int} (hS : 0 < S) : low ((low L S).2 - (low L S).1) (low L S).2 = low (S - L) S := by
  obtain ⟨o, r, _⟩ := low_ok (t := L) hS
  refine low_eq o.p hS ?_
  rw [Int.sub_mul, r, Int.sub_mul, Int.mul_comm S]
end M

namespace M
open PySem L2 U ZN
/-- a times f and u more -/
def affF (a : Int) (u f : Fr) : Fr := low (a * f.1 * u.2 + u.1 * f.2) (f.2 * u.2)
theorem top_z {m : Fr} {B z : Int} (h : FrOk m) (hd : m.2 ∣ B) (e : m.1 * B = z * m.2) : m.1 * (B / m.2) = z := by
  obtain ⟨c, rfl⟩ := hd
  have hp := h.p
  rw [Int.mul_ediv_cancel_left _ (Int.ne_of_gt hp)]
  refine Int.eq_of_mul_eq_mul_right (a := m.2) (Int.ne_of_gt hp) ?_
  rw [← e]
  ac_rfl
theorem aff_top {B a : Int} {u f : Fr} (hf : FrOk f) (hu : 0 < u.2) (hd : f.2 ∣ B) : FrOk (affF a u f) ∧ (affF a u f).2 ∣ B * u.2 ∧ (affF a u f).1 * (B * u.2 / (affF a u f).2) = a * u.2 * (f.1 * (B / f.2)) + u.1 * B := by
  have hp := hf.p
  have hpu := Int.mul_pos hp hu
  obtain ⟨c, hc⟩ := hd
  obtain ⟨o, r, d⟩ := low_ok (t := a * f.1 * u.2 + u.1 * f.2) hpu
  have e1 : B / f.2 = c := by rw [hc]; exact Int.mul_ediv_cancel_left _ (Int.ne_of_gt hp)
  have dd : (affF a u f).2 ∣ B * u.2 := Int.dvd_trans d (Int.mul_dvd_mul ⟨c, hc⟩ (Int.dvd_refl _))
  refine ⟨o, dd, top_z o dd ?_⟩
  rw [e1, hc]
  unfold affF
  generalize low (a * f.1 * u.2 + u.1 * f.2) (f.2 * u.2) = g at *
  grind
theorem low_ratio {t b : Int} {K : Nat} (hb : 0 < b) (h : t.natAbs ≤ K * b.natAbs) : (low t b).1.natAbs ≤ K * (low t b).2.natAbs := by
  obtain ⟨o, r, _⟩ := low_ok (t := t) hb
  generalize low t b = g at *
  have e : g.1.natAbs * b.natAbs = t.natAbs * g.2.natAbs := by rw [← Int.natAbs_mul, ← Int.natAbs_mul, r]
  refine Nat.le_of_mul_le_mul_right (c := b.natAbs) ?_ (by omega)
  rw [e]
  refine Nat.le_trans (Nat.mul_le_mul_right _ h) (Nat.le_of_eq ?_)
  ac_rfl
theorem dot_affine (p q : Int) : ∀ (r c : List Int), r.length = c.length → dot r (c.map fun t => p * t + q) = p * dot r c + q * r.sum
  | [], [], _ => by simp [dot_nil]
  | [], _ :: _, h => by simp at h
  | _ :: _, [], h => by simp at h
  | x :: r, y :: c, h => by
    rw [List.map_cons, dot_cons, dot_cons, dot_affine p q r c (by simpa using h), List.sum_cons]
    generalize dot r c = d
    generalize r.sum = s
    grind
theorem aff_mean {n : Nat} {B a : Int} {u : Fr} {ps : List Fr} {r : List Int} (hu : 0 < u.2) (po : PartsOk B ps) (hl : ps.length = n) (hr : r.length = n) (hs : 0 < r.sum) : meanF (B * u.2) (ps.map (affF a u)) r = affF a u (meanF B ps r) := by
  have hB := po.p
  have e : tops (B * u.2) (ps.map (affF a u)) = (tops B ps).map fun t => a * u.2 * t + u.1 * B := by
    unfold tops
    rw [List.map_map, List.map_map]
    exact List.map_congr_left fun f hf => (aff_top (po.f f hf).1 hu (po.f f hf).2.1).2.2
  have hp := Int.mul_pos hB hs
  obtain ⟨o, rr, _⟩ := low_ok (t := dot r (tops B ps)) hp
  have op := o.p
  show low _ _ = low (a * (low (dot r (tops B ps)) (B * r.sum)).1 * u.2 + u.1 * (low (dot r (tops B ps)) (B * r.sum)).2) ((low (dot r (tops B ps)) (B * r.sum)).2 * u.2)
  rw [e, dot_affine _ _ r _ (by unfold tops; rw [List.length_map, hr, hl])]
  refine low_eq (Int.mul_pos (Int.mul_pos hB hu) hs) (Int.mul_pos op hu) ?_
  generalize low (dot r (tops B ps)) (B * r.sum) = f at *
  generalize dot r (tops B ps) = d at *
  generalize r.sum = s at *
  grind
theorem moo_lcm {ps : List Fr} (h : ∀ f ∈ ps, MooOk f) (h6 : ps.length ≤ 6) : lcmB ps < 2 ^ 120 := by
  obtain ⟨p, q⟩ := lcmF_le (B := 1000000) (ps.map (·.2)) 1 (by decide) fun x hx => by
    obtain ⟨f, hf, rfl⟩ := List.mem_map.mp hx
    have := (h f hf).ok.p
    have := (h f hf).b
    exact ⟨by omega, by omega⟩
  have l6 : (ps.map (·.2)).length ≤ 6 := by rw [List.length_map]; exact h6
  have q2 : lcmF (ps.map (·.2)) < 2 ^ 120 := by
    refine Nat.lt_of_le_of_lt (Nat.le_trans q ?_) (show 1000000 ^ 6 < 2 ^ 120 by decide)
    rw [Nat.one_mul]
    exact Nat.pow_le_pow_right (by decide) l6
  unfold lcmB
  omega
theorem later_flat {n : Nat} {B : Int} {f : Fr} {ws : List (List (List Int))} {road : List Nat} (W : Wrd n ws road) (po : PartsOk B (List.replicate n f)) (hb : B < 2 ^ 1600) : laterF ws (List.replicate n f) road = List.replicate n f := by
  obtain ⟨S, k1, k4, _⟩ := W.ok po hb (by rw [List.length_replicate])
  have n1 := W.n1
  rw [k4]
  have hf : f ∈ List.replicate n f := List.mem_replicate.mpr ⟨by omega, rfl⟩
  refine List.eq_replicate_iff.mpr ⟨by rw [List.length_map, k1.l], fun x hx => ?_⟩
  obtain ⟨r, hr, rfl⟩ := List.mem_map.mp hx
  obtain ⟨q1, q2, q3⟩ := k1.r r hr
  obtain ⟨o, d, _⟩ := po.f f hf
  have op := o.p
  have hB := po.p
  have hs : 0 < r.sum := by rw [q3]; exact k1.p
  have e : (tops B (List.replicate n f)) = (List.replicate n (0 : Int)).map fun t => 0 * t + f.1 * (B / f.2) := by
    unfold tops
    rw [List.map_replicate, List.map_replicate, Int.zero_mul, Int.zero_add]
  unfold meanF
  rw [e, dot_affine 0 _ r _ (by rw [List.length_replicate, q1]), Int.zero_mul, Int.zero_add]
  have e : low (f.1 * (B / f.2) * r.sum) (B * r.sum) = low f.1 f.2 := by
    refine low_eq (Int.mul_pos hB hs) op ?_
    obtain ⟨c, hc⟩ := d
    rw [hc, Int.mul_ediv_cancel_left _ (Int.ne_of_gt op)]
    ac_rfl
  rw [e, low_self o]
/-- a sum of shares times thoughts -/
def dueS (ps qs : List Fr) : Fr := (ps.zip qs).foldl (fun h p => plusF h (low (p.1.1 * p.2.1) (p.1.2 * p.2.2))) (0, 1)
structure DueAt (B S : Int) (r : List Int) (ps : List Fr) (j : Nat) (f : Fr) : Prop where
  ok : FrOk f
  e : f.1 * (B * S) = f.2 * dot (r.take j) ((tops B ps).take j)
theorem due0 {B S : Int} {r : List Int} {ps : List Fr} : DueAt B S r ps 0 (0, 1) := ⟨⟨by decide, by decide⟩, by show (0 : Int) * _ = 1 * dot [] []; rw [dot_nil]; omega⟩
theorem due1 {B S x : Int} {r : List Int} {ps : List Fr} {j : Nat} {f m : Fr} (po : PartsOk B ps) (hS : 0 < S) (h : DueAt B S r ps j f) (hm : ps[j]? = some m) (hx : r[j]? = some x) :
    FrOk (low (m.1 * (low x S).1) (m.2 * (low x S).2)) ∧ 0 < m.2 * (low x S).2 ∧ DueAt B S r ps (j + 1) (plusF f (low (m.1 * (low x S).1) (m.2 * (low x S).2))) := by
  obtain ⟨mo, md, _⟩ := po.f m (List.mem_of_getElem? hm)
  obtain ⟨po2, pr, _⟩ := low_ok (t := x) hS
  have hp := Int.mul_pos mo.p po2.p
  obtain ⟨ho, hr, _⟩ := low_ok (t := m.1 * (low x S).1) hp
  have mp := mo.p
  have pp := po2.p
  have ht : (tops B ps)[j]? = some (m.1 * (B / m.2)) := by
    unfold tops
    rw [List.getElem?_map, hm]
    rfl
  have he : (low (m.1 * (low x S).1) (m.2 * (low x S).2)).1 * (B * S) = (low (m.1 * (low x S).1) (m.2 * (low x S).2)).2 * (x * (m.1 * (B / m.2))) := by
    obtain ⟨c, hc⟩ := md
    rw [hc, Int.mul_ediv_cancel_left _ (Int.ne_of_gt mp)]
    refine Int.eq_of_mul_eq_mul_right (a := (low x S).2) (Int.ne_of_gt pp) ?_
    generalize low (m.1 * (low x S).1) (m.2 * (low x S).2) = g at *
    generalize low x S = p at *
    grind
  obtain ⟨nok, nval⟩ := plus_val h.ok ho h.e he
  exact ⟨ho, hp, nok, by rw [nval, dot_take hx ht]⟩
theorem dueE {B S : Int} {r : List Int} {ps : List Fr} {n : Nat} {f : Fr} (po : PartsOk B ps) (hS : 0 < S) (h : DueAt B S r ps n f) (hl : ps.length = n) (hr : r.length = n) (hs : r.sum = S) : f = meanF B ps r := by
  have hB := po.p
  have e := h.e
  rw [List.take_of_length_le (by omega), List.take_of_length_le (by unfold tops; rw [List.length_map]; omega)] at e
  unfold meanF
  rw [hs, ← low_self h.ok]
  refine low_eq h.ok.p (Int.mul_pos hB hS) ?_
  rw [e, Int.mul_comm]
theorem sum_take_le : ∀ (r : List Int) (j : Nat), (∀ x ∈ r, 0 ≤ x) → 0 ≤ (r.take j).sum ∧ (r.take j).sum ≤ r.sum
  | [], j, _ => by simp
  | x :: r, 0, h => by
    have := sum_nonneg h
    rw [List.take_zero]
    exact ⟨Int.le_refl _, this⟩
  | x :: r, j + 1, h => by
    rw [List.take_succ_cons, List.sum_cons, List.sum_cons]
    obtain ⟨a, b⟩ := sum_take_le r j fun z hz => h z (List.mem_cons_of_mem _ hz)
    have := h x List.mem_cons_self
    omega
theorem dueB {B S : Int} {r : List Int} {ps : List Fr} {j : Nat} {f : Fr} (po : PartsOk B ps) (hB : B < 2 ^ 120) (hS : 0 < S) (hS2 : S < 2 ^ 2700) (h : DueAt B S r ps j f) (h0 : ∀ x ∈ r, 0 ≤ x) (hs : r.sum = S) : f.1.natAbs < 2 ^ 4400 ∧ f.2.natAbs < 2 ^ 4000 := by
  have hB0 := po.p
  obtain ⟨_, f2, f3⟩ := fr_bound h.ok (Int.mul_pos hB0 hS) h.e
  have Bn := natB hB0 hB
  have Sn := natB hS hS2
  have fp := h.ok.p
  have b2 : (B * S).natAbs < 2 ^ (120 + 2700) := mulB Bn Sn
  have d := dot_abs (K := 2 ^ 200 * B.natAbs) (r.take j) ((tops B ps).take j) (fun x hx => h0 x (List.mem_of_mem_take hx)) fun y hy => by
    have hy := List.mem_of_mem_take hy
    unfold tops at hy
    obtain ⟨g, hg, rfl⟩ := List.mem_map.mp hy
    obtain ⟨h1, h2, h3⟩ := po.f g hg
    exact top_bound hB0 h1 h2 h3
  obtain ⟨t0, t1⟩ := sum_take_le r j h0
  have tn : (r.take j).sum.natAbs < 2 ^ 2700 := by omega
  have kb : 2 ^ 200 * B.natAbs < 2 ^ (200 + 120) := by
    have := Nat.mul_lt_mul_of_pos_left (k := 2 ^ 200) Bn (by decide)
    rw [← Nat.pow_add] at this
    exact this
  have m := Nat.mul_lt_mul'' tn kb
  rw [← Nat.pow_add] at m
  have u1 : (2 : Nat) ^ (2700 + (200 + 120)) ≤ 2 ^ 4400 := Nat.pow_le_pow_right (by decide) (by decide)
  have u2 : (2 : Nat) ^ (120 + 2700) ≤ 2 ^ 4000 := Nat.pow_le_pow_right (by decide) (by decide)
  exact ⟨Nat.lt_of_le_of_lt f3 (Nat.lt_of_le_of_lt d (Nat.lt_of_lt_of_le m u1)), by omega⟩
theorem dot_one {n k : Nat} {r : List Int} (hr : r.length = n) : ∀ i, i ≤ n → dot (r.take i) ((oneR n k).take i) = if k < i then (r[k]?).getD 0 else 0
  | 0, _ => by rw [List.take_zero, dot_nil, if_neg (Nat.not_lt_zero k)]
  | i + 1, hi => by
    obtain ⟨x, hx⟩ : ∃ x, r[i]? = some x := ⟨_, List.getElem?_eq_getElem (by omega)⟩
    rw [dot_take hx (oneR_at (by omega)), dot_one hr i (by omega)]
    by_cases c : i = k
    · subst c
      rw [if_neg (Nat.lt_irrefl i), if_pos rfl, if_pos (Nat.lt_succ_self i), hx]
      show 0 + x * 1 = x
      omega
    · rw [if_neg c, Int.mul_zero, Int.add_zero]
      by_cases c2 : k < i
      · rw [if_pos c2, if_pos (by omega)]
      · rw [if_neg c2, if_neg (by omega)]
theorem tops_unit (n k : Nat) : tops 1 (unitF n k) = oneR n k := by
  unfold tops unitF oneR
  rw [List.map_map]
  refine List.map_congr_left fun j _ => ?_
  show (if j = k then ((1, 1) : Fr) else (0, 1)).1 * (1 / (if j = k then ((1, 1) : Fr) else (0, 1)).2) = _
  by_cases c : j = k
  · rw [if_pos c, if_pos c]; rfl
  · rw [if_neg c, if_neg c]; rfl
/-- the share of one mind in another's thought -/
theorem part_is {n : Nat} {S : Int} {ws : List (List (List Int))} {road : List Nat} {R : List (List Fr)} {q : List Fr} {i k : Nat} {r : List Int} (W : Wrd n ws road) (k1 : Rows n S (rowsF n ws road)) (hR : R[i]? = some q) (hk : k < n) (hq : q.length = n) (hc : colR R k = laterF ws (unitF n k) road) (hr : (rowsF n ws road)[i]? = some r) :
    q[k]? = some (low ((r[k]?).getD 0) S) := by
  obtain ⟨S', w1, w4, _⟩ := W.ok (unit_parts n k) (by decide +kernel) (unit_len n k)
  obtain ⟨q1, q2, q3⟩ := k1.r r (List.mem_of_getElem? hr)
  have e : (colR R k)[i]? = some (meanF 1 (unitF n k) r) := by
    rw [hc, w4, List.getElem?_map, hr]
    rfl
  unfold colR at e
  rw [List.getElem?_map, hR] at e
  obtain ⟨g, hg⟩ : ∃ g, q[k]? = some g := ⟨_, List.getElem?_eq_getElem (by omega)⟩
  have e : (q[k]?).getD (0, 1) = meanF 1 (unitF n k) r := Option.some.inj e
  rw [hg] at e ⊢
  have e : g = meanF 1 (unitF n k) r := e
  rw [e]
  unfold meanF
  have d := dot_one (k := k) q1 n (Nat.le_refl n)
  rw [List.take_of_length_le (by omega), List.take_of_length_le (by rw [oneR_len]; omega), if_pos hk] at d
  rw [tops_unit, d, q3, Int.one_mul]
theorem low_small {t b : Int} (hb : 0 < b) : 0 < (low t b).2 ∧ (low t b).2.natAbs ≤ b.natAbs ∧ (low t b).1.natAbs ≤ t.natAbs := by
  obtain ⟨o, r, _⟩ := low_ok (t := t) hb
  obtain ⟨_, h2, h3⟩ := fr_bound (S := t) o hb (by rw [r, Int.mul_comm])
  have := o.p
  exact ⟨this, by omega, h3⟩
theorem two_le {B : Int} {x : Int} (hb : B.natAbs < 2 ^ 4000) (h : x.natAbs ≤ 2 * (2 ^ 200 * B.natAbs)) : x.natAbs < 2 ^ 4201 := by
  have := Nat.mul_lt_mul_of_pos_left (k := 2 ^ 200) hb (by decide)
  rw [← Nat.pow_add] at this
  have e : (2 : Nat) ^ 4201 = 2 * 2 ^ 4200 := by rw [show 4201 = 1 + 4200 from rfl, Nat.pow_add]
  have e1 : (2 : Nat) ^ (200 + 4000) = 2 ^ 4200 := rfl
  rw [e1] at this
  generalize (2 : Nat) ^ 4200 = z at *
  generalize 2 ^ 200 * B.natAbs = y at *
  omega
theorem spr_bb {B : Int} {ps : List Fr} (po : PartsOk B ps) : (sprF B ps).1.natAbs < 2 ^ 4201 ∧ (sprF B ps).2.natAbs < 2 ^ 4000 := by
  obtain ⟨p, q, r⟩ := low_small (t := gapT (tops B ps)) po.p
  have hB := natB po.p po.b
  exact ⟨Nat.lt_of_le_of_lt r (two_le hB (gap_le (tops_le po))), Nat.lt_of_le_of_lt q hB⟩

theorem later_facts {n : Nat} {B : Int} {ps : List Fr} {ws : List (List (List Int))} {road : List Nat} (W : Wrd n ws road) (r6 : road.length ≤ 6) (po : PartsOk B ps) (hB : B < 2 ^ 160) (hl : ps.length = n) {i : Nat} (hi : i ≤ road.length) :
    PartsOk (lcmB (laterF ws ps (road.take i))) (laterF ws ps (road.take i)) ∧ lcmB (laterF ws ps (road.take i)) < 2 ^ 1600 ∧ (laterF ws ps (road.take i)).length = n := by
  obtain ⟨S, k1, sle, _, k4, k5⟩ := road_ok po (pow_up hB (by decide)) hl W.n1 W.wo W.r12 W.q i hi
  obtain ⟨d, l⟩ := lcmB_ok k5
  have hS := k1.p
  have hB0 := po.p
  have hp := Int.mul_pos hB0 hS
  have le := Int.le_of_dvd hp d
  have e1 : ((2 : Int) ^ (196 * i)) = ((2 ^ (196 * i) : Nat) : Int) := by rw [Int.natCast_pow]; rfl
  have e2 : (2 : Nat) ^ (196 * i) ≤ 2 ^ 1176 := Nat.pow_le_pow_right (by decide) (by omega)
  have e3 : (2 : Nat) ^ 1176 < 2 ^ 1177 := Nat.pow_lt_pow_right (by decide) (by decide)
  have Sn : S.natAbs < 2 ^ 1177 := by omega
  have m := mulB (natB hB0 hB) Sn
  have e4 : (2 : Nat) ^ (160 + 1177) ≤ 2 ^ 1600 := Nat.pow_le_pow_right (by decide) (by decide)
  have e5 : ((2 : Int) ^ 1600) = ((2 ^ 1600 : Nat) : Int) := by rw [Int.natCast_pow]; rfl
  exact ⟨l, by omega, by rw [k4, List.length_map, k1.l]⟩
theorem spr_day {n q i : Nat} {B : Int} {ps : List Fr} {ws : List (List (List Int))} {road : List Nat} (W : Wrd n ws road) (r6 : road.length ≤ 6) (po : PartsOk B ps) (hB : B < 2 ^ 160) (hl : ps.length = n) (hq : road[i]? = some q) :
    lessB (sprF (lcmB (laterF ws ps (road.take i))) (laterF ws ps (road.take i))) (sprF (lcmB (laterF ws ps (road.take (i + 1)))) (laterF ws ps (road.take (i + 1)))) = false := by
  have il := (List.getElem?_eq_some_iff.mp hq).1
  obtain ⟨p1, b1, l1⟩ := later_facts W r6 po hB hl (Nat.le_of_lt il)
  obtain ⟨p2, _, _⟩ := later_facts W r6 po hB hl (show i + 1 ≤ road.length from il)
  have e : laterF ws ps (road.take (i + 1)) = laterF ws (laterF ws ps (road.take i)) [q] := by
    rw [List.take_succ, hq]
    exact laterF_snoc ws ps (road.take i) q
  have W1 : Wrd n ws [q] := ⟨W.n1, W.wo, by show 1 ≤ 12; decide, fun x hx => by rw [List.mem_singleton.mp hx]; exact W.q q (List.mem_of_getElem? hq)⟩
  rw [e] at p2 ⊢
  exact decide_eq_false (spr_less W1 p1 b1 l1 _ p2)
theorem moo_parts {ps : List Fr} (h : ∀ f ∈ ps, MooOk f) (h6 : ps.length ≤ 6) : PartsOk (lcmB ps) ps := by
  have b := moo_lcm h h6
  obtain ⟨p, _⟩ := lcmF_le (B := 1000000) (ps.map (·.2)) 1 (by decide) fun x hx => by
    obtain ⟨f, hf, rfl⟩ := List.mem_map.mp hx
    have := (h f hf).ok.p
    have := (h f hf).b
    exact ⟨by omega, by omega⟩
  have p : 0 < lcmF (ps.map (·.2)) := p
  refine ⟨by unfold lcmB; omega, pow_up b (by decide), fun f hf => ?_⟩
  have m := h f hf
  have fp := m.ok.p
  have ft := m.t
  refine ⟨m.ok, lcmF_dvd (List.mem_map.mpr ⟨f, hf, rfl⟩) (Int.le_of_lt fp), ?_⟩
  have e : (1000000000 : Nat) ≤ 2 ^ 200 := by decide
  have : 2 ^ 200 * 1 ≤ 2 ^ 200 * f.2.natAbs := Nat.mul_le_mul_left _ (by omega)
  omega
theorem aff_parts {a : Int} {u : Fr} {ps : List Fr} (h : ∀ f ∈ ps, MooOk f) (h6 : ps.length ≤ 6) (ha : a.natAbs ≤ 1000000) (hu : MooOk u) : PartsOk (lcmB ps * u.2) (ps.map (affF a u)) ∧ lcmB ps * u.2 < 2 ^ 160 := by
  have po := moo_parts h h6
  have b := moo_lcm h h6
  have up := hu.ok.p
  have ub := hu.b
  have ut := hu.t
  have lp := po.p
  have u20 : u.2.natAbs < 2 ^ 20 := by omega
  have m := mulB (natB lp b) u20
  have mp := Int.mul_pos lp up
  have lt : lcmB ps * u.2 < 2 ^ 160 := by
    have e5 : ((2 : Int) ^ 160) = ((2 ^ 160 : Nat) : Int) := by rw [Int.natCast_pow]; rfl
    have e4 : (2 : Nat) ^ (120 + 20) ≤ 2 ^ 160 := Nat.pow_le_pow_right (by decide) (by decide)
    omega
  refine ⟨⟨mp, pow_up lt (by decide), fun g hg => ?_⟩, lt⟩
  obtain ⟨f, hf, rfl⟩ := List.mem_map.mp hg
  obtain ⟨o, d, _⟩ := po.f f hf
  obtain ⟨q1, q2, _⟩ := aff_top (a := a) o up d
  refine ⟨q1, q2, low_ratio (Int.mul_pos o.p up) ?_⟩
  have fm := h f hf
  have ft := fm.t
  have fp := o.p
  have n1 : (a * f.1 * u.2 + u.1 * f.2).natAbs ≤ (a * f.1 * u.2).natAbs + (u.1 * f.2).natAbs := Int.natAbs_add_le _ _
  rw [Int.natAbs_mul, Int.natAbs_mul, Int.natAbs_mul] at n1
  rw [Int.natAbs_mul]
  have af : a.natAbs * f.1.natAbs ≤ 1000000 * 1000000000 := Nat.mul_le_mul ha (by omega)
  have t1 := Nat.mul_le_mul_right u.2.natAbs af
  have t2 : u.1.natAbs * f.2.natAbs ≤ 1000000000 * f.2.natAbs := Nat.mul_le_mul_right _ (by omega)
  have f1 : 1 ≤ f.2.natAbs := by omega
  have u1 : 1 ≤ u.2.natAbs := by omega
  have g1 : u.2.natAbs ≤ f.2.natAbs * u.2.natAbs := Nat.le_mul_of_pos_left _ f1
  have g2 : f.2.natAbs ≤ f.2.natAbs * u.2.natAbs := Nat.le_mul_of_pos_right _ u1
  have e : (1000000 * 1000000000 + 1000000000 : Nat) ≤ 2 ^ 200 := by decide
  have z := Nat.mul_le_mul_right (f.2.natAbs * u.2.natAbs) e
  generalize f.2.natAbs * u.2.natAbs = w at *
  generalize 2 ^ 200 * w = y at *
  omega
theorem flat_parts {f : Fr} (h : MooOk f) (n : Nat) : PartsOk f.2 (List.replicate n f) ∧ f.2 < 2 ^ 160 := by
  have fp := h.ok.p
  have fb := h.b
  have ft := h.t
  refine ⟨⟨fp, by omega, fun g hg => ?_⟩, by omega⟩
  rw [List.eq_of_mem_replicate hg]
  refine ⟨h.ok, Int.dvd_refl _, ?_⟩
  have e : (1000000000 : Nat) ≤ 2 ^ 200 := by decide
  have : 2 ^ 200 * 1 ≤ 2 ^ 200 * f.2.natAbs := Nat.mul_le_mul_left _ (by omega)
  omega
theorem later_aff {n : Nat} {a : Int} {u : Fr} {ps : List Fr} {ws : List (List (List Int))} {road : List Nat} (W : Wrd n ws road) (h : ∀ f ∈ ps, MooOk f) (h6 : ps.length ≤ 6) (ha : a.natAbs ≤ 1000000) (hu : MooOk u) (hl : ps.length = n) :
    laterF ws (ps.map (affF a u)) road = (laterF ws ps road).map (affF a u) := by
  have po := moo_parts h h6
  obtain ⟨pa, la⟩ := aff_parts h h6 ha hu
  obtain ⟨S, k1, k4, _⟩ := W.ok po (pow_up (moo_lcm h h6) (by decide)) hl
  obtain ⟨S', k1', k4', _⟩ := W.ok pa (pow_up la (by decide)) (by rw [List.length_map]; exact hl)
  rw [k4, k4', List.map_map]
  refine List.map_congr_left fun r hr => ?_
  obtain ⟨q1, q2, q3⟩ := k1.r r hr
  exact aff_mean hu.ok.p po hl q1 (by rw [q3]; exact k1.p)
theorem as_low {B : Int} {f : Fr} (hB : 0 < B) (hf : FrOk f) (hd : f.2 ∣ B) : f = low (f.1 * (B / f.2)) B := by
  have fp := hf.p
  obtain ⟨c, hc⟩ := hd
  have e : B / f.2 = c := by rw [hc]; exact Int.mul_ediv_cancel_left _ (Int.ne_of_gt fp)
  have l : low (f.1 * (B / f.2)) B = low f.1 f.2 := by
    refine low_eq hB fp ?_
    rw [e, hc]
    ac_rfl
  rw [l, low_self hf]
/-- a mean isn't below all, nor above all -/
theorem mean_in {n : Nat} {B S : Int} {ps : List Fr} {r : List Int} (po : PartsOk B ps) (hl : ps.length = n) (n1 : 1 ≤ n) (hr : r.length = n) (h0 : ∀ x ∈ r, 0 ≤ x) (hs : r.sum = S) (hS : 0 < S) :
    (∃ m ∈ ps, lessB (meanF B ps r) m = false) ∧ ∃ m ∈ ps, lessB m (meanF B ps r) = false := by
  have hB := po.p
  have hBS := Int.mul_pos hB hS
  have tl : (tops B ps).length = n := by unfold tops; rw [List.length_map, hl]
  have tne : tops B ps ≠ [] := fun e => by rw [e] at tl; simp at tl; omega
  have key : ∀ y ∈ tops B ps, ∃ m ∈ ps, m = low (y * S) (B * S) := fun y hy => by
    unfold tops at hy
    obtain ⟨m, hm, rfl⟩ := List.mem_map.mp hy
    obtain ⟨o, d, _⟩ := po.f m hm
    refine ⟨m, hm, ?_⟩
    have e1 := as_low hB o d
    have e2 : low (m.1 * (B / m.2) * S) (B * S) = low (m.1 * (B / m.2)) B := low_eq hBS hB (by ac_rfl)
    rw [e2]
    exact e1
  have em : meanF B ps r = low (dot r (tops B ps)) (B * S) := by unfold meanF; rw [hs]
  refine ⟨?_, ?_⟩
  · obtain ⟨y, hy, hY⟩ := ex_min _ tne
    obtain ⟨m, hm, e⟩ := key y hy
    refine ⟨m, hm, decide_eq_false ?_⟩
    rw [em, e, low_gt hBS]
    have := dot_ge r (tops B ps) (by rw [hr, tl]) h0 hY
    rw [hs, Int.mul_comm] at this
    omega
  · obtain ⟨y, hy, hY⟩ := ex_max _ tne
    obtain ⟨m, hm, e⟩ := key y hy
    refine ⟨m, hm, decide_eq_false ?_⟩
    rw [em, e, low_gt hBS]
    have := dot_le r (tops B ps) (by rw [hr, tl]) h0 hY
    rw [hs, Int.mul_comm] at this
    omega
theorem later_b {n : Nat} {B : Int} {ps : List Fr} {ws : List (List (List Int))} {road : List Nat} (W : Wrd n ws road) (r6 : road.length ≤ 6) (po : PartsOk B ps) (hB : B < 2 ^ 160) (hl : ps.length = n) : ∀ f ∈ laterF ws ps road, FrOk f ∧ f.1.natAbs < 2 ^ 1900 ∧ f.2.natAbs < 2 ^ 1900 := fun f hf => by
  obtain ⟨p, b, _⟩ := later_facts W r6 po hB hl (Nat.le_refl _)
  rw [List.take_length] at p b
  obtain ⟨o, d, t⟩ := p.f f hf
  have le := Int.le_of_dvd p.p d
  have fp := o.p
  have b2 := natB p.p b
  have f2 : f.2.natAbs < 2 ^ 1600 := by omega
  refine ⟨o, ?_, upB f2 (by decide)⟩
  refine Nat.lt_of_le_of_lt t ?_
  have := Nat.mul_lt_mul_of_pos_left (k := 2 ^ 200) f2 (by decide)
  rw [← Nat.pow_add] at this
  exact Nat.lt_of_lt_of_le this (Nat.pow_le_pow_right (by decide) (by decide))
end M

namespace U
open PySem L2
/-! ### plain data with great ints: how much of it is shown -/
structure Sb (d : PyData) (b n : Nat) : Prop where
  lay : d.canLay0 = true
  shw : d.showable = true
  lv : d.leavesShort 600 = true
  bk : d.bulk ≤ b
  dp : d.depth ≤ n
structure SbA (ds : List PyData) (b n : Nat) : Prop where
  lay : PyData.canLayAll0 ds = true
  shw : PyData.showableAll ds = true
  lv : PyData.leavesShortAll 600 ds = true
  bk : PyData.bulkAll ds ≤ b
  dp : PyData.depthAll ds ≤ n
theorem Sb.mono {d : PyData} {b n c m : Nat} (h : Sb d b n) (hb : b ≤ c) (hn : n ≤ m) : Sb d c m := ⟨h.lay, h.shw, h.lv, Nat.le_trans h.bk hb, Nat.le_trans h.dp hn⟩
theorem SbA.mono {ds : List PyData} {b n c m : Nat} (h : SbA ds b n) (hb : b ≤ c) (hn : n ≤ m) : SbA ds c m := ⟨h.lay, h.shw, h.lv, Nat.le_trans h.bk hb, Nat.le_trans h.dp hn⟩

theorem log_big {i : Int} (h : i.natAbs < 2 ^ 1900) : i.natAbs.log2 < 1920 := by
  by_cases z : i.natAbs = 0
  · rw [z]; decide
  · have := (Nat.log2_lt z).mpr h
    omega
theorem Sb.int {i : Int} (h : i.natAbs < 2 ^ 1900) : Sb (.int i) 0 0 := ⟨by simp only [PyData.canLay0], by simp only [PyData.showable]; exact decide_eq_true (log_big h), by
  simp only [PyData.leavesShort]
  refine decide_eq_true ?_
  have e := int_text_length_le10 (k := 575) (by decide) (Nat.lt_of_lt_of_le h (by decide +kernel))
  show (Str.ofString (toString i)).length ≤ 600
  rw [ofString_length]
  omega, by simp only [PyData.bulk]; exact Nat.le_refl 0, by simp only [PyData.depth]; exact Nat.le_refl 0⟩
theorem SbA.nil : SbA [] 0 0 := ⟨by simp only [PyData.canLayAll0], by simp only [PyData.showableAll], by simp only [PyData.leavesShortAll], by simp only [PyData.bulkAll]; exact Nat.le_refl 0, by simp only [PyData.depthAll]; exact Nat.le_refl 0⟩
theorem SbA.cons {d : PyData} {ds : List PyData} {b c n m : Nat} (h : Sb d b n) (g : SbA ds c m) : SbA (d :: ds) (b + 1 + c) (max n m) := by
  refine ⟨?_, ?_, ?_, ?_, ?_⟩
  · simp only [PyData.canLayAll0]; rw [h.lay, g.lay]; rfl
  · simp only [PyData.showableAll]; rw [h.shw, g.shw]; rfl
  · simp only [PyData.leavesShortAll]; rw [h.lv, g.lv]; rfl
  · simp only [PyData.bulkAll]
    have := h.bk
    have := g.bk
    omega
  · simp only [PyData.depthAll]
    have := h.dp
    have := g.dp
    omega
theorem SbA.map {α : Type} {f : α → PyData} {c n : Nat} : ∀ {l : List α}, (∀ x ∈ l, Sb (f x) c n) → SbA (l.map f) (l.length * (c + 1)) n
  | [], _ => SbA.nil.mono (Nat.zero_le _) (Nat.zero_le _)
  | x :: l, h => by
    have g := SbA.cons (h x List.mem_cons_self) (SbA.map fun y hy => h y (List.mem_cons_of_mem _ hy))
    exact g.mono (by rw [List.length_cons, Nat.succ_mul]; omega) (by omega)
theorem Sb.tup {ds : List PyData} {b n : Nat} (h : SbA ds b n) : Sb (.tuple ds) b (n + 1) := by
  refine ⟨?_, ?_, ?_, ?_, ?_⟩
  · simp only [PyData.canLay0]; exact h.lay
  · simp only [PyData.showable]; exact h.shw
  · simp only [PyData.leavesShort]; exact h.lv
  · simp only [PyData.bulk]; exact h.bk
  · simp only [PyData.depth]
    have := h.dp
    omega
theorem Sb.lst {ds : List PyData} {b n : Nat} (h : SbA ds b n) : Sb (.list ds) b (n + 1) := by
  refine ⟨?_, ?_, ?_, ?_, ?_⟩
  · simp only [PyData.canLay0]; exact h.lay
  · simp only [PyData.showable]; exact h.shw
  · simp only [PyData.leavesShort]; exact h.lv
  · simp only [PyData.bulk]; exact h.bk
  · simp only [PyData.depth]
    have := h.dp
    omega

theorem Sb.w {d : PyData} {b n : Nat} (h : Sb d b n) (hb : b ≤ 4000) (hn : n ≤ 60) : Shw d := ⟨h.lay, h.shw, Nat.le_trans h.dp hn, by
  have q := PyData.shown_le_bulk 600 (by decide) d h.lv
  have e := h.bk
  rw [sizeLine_eq]
  omega⟩
end U

namespace ZN
open PySem PySem.Spec PyProof.Rows L2 U
/-! ### len(set(t)), t a tuple of tuples of ints -/
abbrev eSet (w : World) : Obj := { cls := .type "set", dict := none, data := .set #[] 0 (.fresh 0 0 (!w.params.followText "set-order")) }
section
variable {P : Program} {w : World} {A : Around} {E : Value → Shared → Prop} {s : Shared}
/-- the set at S has the tuples ks, all that stood stands -/
def Filled (P : Program) (w : World) (h0 : Heap) (ks : List (Addr × List Int)) (S : Addr) (h' : Heap) : Prop :=
  ∃ L es ep t, SetTR P w h' S L es ep t ∧ Got ks ks.length L ∧ ∀ b o, h0.get? b = some o → h'.get? b = some o
theorem set_of_tup {l : Addr} {xs : Array Value} (ks : List (Addr × List Int)) {Q : Value → Shared → Prop} (hA : A.handled = none) (ht : s.heap.IsTuple l xs) (hx : xs.toList = ks.map fun p => Value.ref p.1)
    (hT : ∀ p ∈ ks, IsT P w s.heap p.2 p.1) (h64 : ks.length < 64) (hU : A.units + 3 < cLine)
    (h : ∀ (h' : Heap) (tk : Nat), Filled P w s.heap ks s.heap.objs.size h' → Q (.ref s.heap.objs.size) { s with heap := h', toks := tk }) :
    wpAny (model P w) A (call (.type "set") [.ref l]) Q E s := by
  have sz : xs.size = ks.length := by rw [← Array.length_toList, hx, List.length_map]
  have ⟨c, tl, hm⟩ := F.called_set.mro
  have f1 := F.called_set.made; have f2 := F.called_set.sub; have f3 := F.called_set.notType
  have f4 := F.called_set.canCreate; have f5 := F.typeCall_set_1 (.ref l)
  refine wpAny_call (codeAny_of_tree (show wpAny _ _ (callAny (.type "set") _) _ _ _ from wpAny_pure ⟨Code.quiet_builtin _ (by decide +kernel), codeAny_builtin F.entry_type_call ?_⟩))
  rw [Around.under_plain (weight_type_call_type "set" [.ref l] []) rfl]
  repeat (any_goals (first | assumption | wp_step))
  refine codeAny_mono (code_set_led1 (.ref l) (E := E) (Q₁ := fun v t => v = .ref s.heap.objs.size ∧ t = { s with heap := s.heap.push (eSet w) }) ⟨rfl, rfl⟩) fun r t hr => ?_
  rcases r with e | fl
  · exact hr
  cases fl with
  | ret v =>
    obtain ⟨rfl, rfl⟩ := hr
    have gS : (s.heap.push (eSet w)).get? s.heap.objs.size = some (eSet w) := Heap.get?_push_size _ rfl
    have gT : Shared.TypeIs { s with heap := s.heap.push (eSet w) } (.ref s.heap.objs.size) "set" := ⟨_, gS, rfl⟩
    have f6 := F.called_set.init.lookup; have f7 := F.called_set.init.bind (.ref s.heap.objs.size)
    repeat (any_goals (first | assumption | wp_step))
    refine codeAny_mono (codeAny_call_builtin (R := wants (fun r t => r = .none ∧ ∃ h' tk, t = { s with heap := h', toks := tk } ∧ Filled P w s.heap ks s.heap.objs.size h') E) F.called_set.init.plain F.entry_set_init (check_set_init_1 gT ?_)) fun r₂ t₂ hr₂ => ?_
    · obtain ⟨⟨oc, od, oa, os⟩, ho, hc, n, hd⟩ := ht
      simp only at hc hd
      subst hc; subst hd
      have ho1 : (s.heap.push (eSet w)).get? l = some { cls := .type "tuple", dict := od, data := .seq xs n, slots := os } := Heap.get?_push_of_some _ ho
      have f8 := F.sub_tuple_set; have f9 := F.sub_tuple_frozenset
      have f10 : (Value.type "tuple" == Value.type "dict") = false := by decide
      have ht1 : (s.heap.push (eSet w)).IsTuple l xs := ⟨_, ho1, rfl, n, rfl⟩
      unfold Builtin.«set.__init__» noKeywords Builtin.Frozenset.updateFrom
      generalize hJ : pyIter = J
      wp_walk
      subst hJ
      refine wpAny_pyIter_tuple ht1 (wpAny_bind (wpAny_runValue ?_))
      have lS : l < s.heap.objs.size := Heap.lt_size ho
      have hA3 : A.in1.in1.in1.handled = none := by simp [hA]
      have nI : l ≠ (s.heap.push (eSet w)).objs.size := by rw [Heap.size_push]; exact Nat.ne_of_lt (Nat.lt_add_right 1 lS)
      have nS : s.heap.objs.size ∉ [(s.heap.push (eSet w)).objs.size, l] := by
        rw [Heap.size_push]; simp only [List.mem_cons, List.not_mem_nil, or_false, not_or]; exact ⟨Nat.ne_of_lt (Nat.lt_add_one _), (Nat.ne_of_lt lS).symm⟩
      have gone : ∀ b, s.heap.objs.size ≤ b → s.heap.get? b = none := fun b hb => by
        cases q : s.heap.get? b with
        | none => rfl
        | some o => exact (Nat.not_lt.mpr hb (Heap.lt_size q)).elim
      have hv : ∀ (i : Nat) (v : Value), xs[i]? = some v → ∃ p, ks[i]? = some p ∧ v = .ref p.1 := fun i v hv => by
        rw [← Array.getElem?_toList, hx, List.getElem?_map] at hv
        cases hq : ks[i]? with
        | none => rw [hq] at hv; cases hv
        | some p => rw [hq] at hv; exact ⟨p, rfl, (Option.some.inj hv).symm⟩
      refine set_update_tups ((Walks.tuple hA3 _ l nI xs).toS) s.heap.objs.size nS ks sz h64 hv s.heap hT (gone _ (Nat.le_refl _))
        (fun b hb => gone b (by rw [List.mem_singleton.mp hb, Heap.size_push]; exact Nat.le_add_right _ 1)) hU (xs.size - 0) 0 _ (by omega) (Nat.zero_le _)
        ⟨⟨_, Heap.get?_push_size _ rfl, rfl, rfl⟩, ht1.push _⟩ (fun b o e => Heap.get?_push_of_some _ (Heap.get?_push_of_some _ e)) ⟨[], #[], 0, _, setTR_fresh (Heap.get?_push_of_some _ gS), Got.zero ks⟩
        (fun s' L es ep t hm' hS' g' hk' => ?_)
      obtain ⟨h', gg, dd, tk, oo⟩ := s'
      obtain rfl : gg = s.gens := hm'.gens
      obtain rfl : dd = s.drawn := hm'.drawn
      obtain rfl : oo = s.os := hm'.os
      rw [sz] at g'
      exact wpAny_pure (wpAny_pure ⟨rfl, h', tk, rfl, L, es, ep, t, hS', g', hk'⟩)
    · rcases r₂ with e | fl₂
      · exact hr₂
      cases fl₂ with
      | ret v =>
        obtain ⟨rfl, h', tk, rfl, hf⟩ := hr₂
        repeat (any_goals (first | assumption | wp_step))
        exact h h' tk hf
      | _ => exact hr₂.elim
  | _ => exact hr.elim
end
section
variable {X : Cx}
def tLenSetT (K : PySem.W.Frag) (ta : TE) : TE := fun σ H Q => ta σ H fun x H1 => ∃ (l : Addr) (ks : List (Addr × List Int)), x = V.ref l ∧ SqT K H1 l (ks.map fun p => V.ref p.1) ∧ (∀ p ∈ ks, SqT K H1 p.1 (p.2.map V.int)) ∧ ks.length < 64 ∧
  ∀ n : Nat, n ≤ ks.length → (n = 1 ↔ ∃ k, ks ≠ [] ∧ ∀ p ∈ ks, p.2 = k) → Q (.int n) H1
theorem one_of {ks L : List (Addr × List Int)} (sub : ∀ p ∈ L, p ∈ ks) (all : ∀ p ∈ ks, p.2 ∈ L.map (·.2)) (nd : (L.map (·.2)).Nodup) : L.length = 1 ↔ ∃ k, ks ≠ [] ∧ ∀ p ∈ ks, p.2 = k := by
  constructor
  · intro h
    match L, h with
    | [q], _ =>
      refine ⟨q.2, fun e => ?_, fun p hp => ?_⟩
      · have := sub q List.mem_cons_self
        rw [e] at this
        cases this
      · have := all p hp
        simpa using this
  · rintro ⟨k, ne, h⟩
    have hL : ∀ z ∈ L.map (·.2), z = k := fun z hz => by
      obtain ⟨p, hp, rfl⟩ := List.mem_map.mp hz
      exact h p (sub p hp)
    match ks, ne with
    | p :: _, _ =>
      have hp := all p List.mem_cons_self
      match L, hL, nd, hp with
      | [], _, _, hp => simp at hp
      | [_], _, _, _ => rfl
      | a :: b :: L, hL, nd, _ =>
        have h1 := hL a.2 (by simp)
        have h2 := hL b.2 (by simp)
        rw [List.map_cons, List.map_cons, h1, h2] at nd
        exact absurd (List.mem_cons_self) (List.nodup_cons.mp nd).1
theorem pe_lenSetT {a : Expr} {ta : TE} {p p2 q pos : Pos} (hc : X.calm = true) (hu : X.A.units + 64 < cLine) (hg : Gl X "len") (hm : X.mg "len" = none) (hg2 : Gl X "set") (hm2 : X.mg "set" = none) (ha : PE X a ta)
    (na : starEach [a] X.env = (false, eval a X.env) :: starEach [] X.env := by rfl) : PE X (.Call (.Name "len" p) [.Call (.Name "set" p2) [a] [] q] [] pos) (tLenSetT X.K ta) := by
  constructor
  intro pins s σ H Q I h
  refine Call_ (ld_blt I hg hm PySem.boot_len (PyProof.Rows.callWith_builtin1 (PyProof.Rows.args_cons ?_ rfl) rfl rfl))
  refine Call_ (ld_blt I hg2 hm2 PyProof.Rows.boot_set (PyProof.Rows.callWith_type1 (PyProof.Rows.args_cons (thn (ha.run pins s σ H _ I h) fun v s1 hh => PyProof.Rows.args_nil ?_) na) na rfl))
  obtain ⟨x, H1, I1, r1, l, ks, rfl, hq, hk, h64, q1⟩ := hh
  cases r1
  obtain ⟨its, r, pl, hz⟩ := I1.tuple hq
  refine set_of_tup (P := X.prog) (w := X.w) ks (I1.ok.hd hc) pl (by simpa using refs_of_vals r) (fun p hp => I1.isT (hk p hp)) h64 (by omega) fun h' tk hF => ?_
  obtain ⟨L, es, ep, t, R, g, keep⟩ := hF
  obtain ⟨o, ho, hex, hd⟩ := R.ob
  have I2 : Inv X pins σ H1 { s1 with heap := h', toks := tk } := I1.kept fun b o e => keep b o e
  have hn : es.size = L.length := by rw [← Array.length_toList, R.rows]; unfold rowsOf; rw [List.length_map]
  have hlen : L.length ≤ ks.length := g.len
  have h1 := one_of (ks := ks) (L := L) (fun p hp => List.mem_of_mem_take (g.sub p hp)) (fun p hp => g.all p (by rw [List.take_length]; exact hp)) R.nd
  refine PyProof.Rows.args_nil (call_len_set ho hex hd (SetTR.fits (s := { s1 with heap := h', toks := tk }) R) (by rw [hn]; omega) ⟨.int L.length, H1, I2.tok _, ⟨_, by rw [hn]⟩, q1 L.length hlen h1⟩)
end
end ZN

namespace U
open PySem L2 PySem.Spec PyProof.Rows
/-! ### f(k = e, ..), a def of the module -/
structure DefK (P : Program) (w : World) (K : PySem.W.Frag) (mg : Str → Option Value) (base : Heap) (k : Nat) (x : Str) (ps : List Str) (sp : Sp) (ks : List Str) (gL : List Value → List Value → List Value) (gV : List V → List V → List V) : Prop where
  ex : ∃ (f : Addr) (fd : FuncData), FnOk P w K mg base CX0 k f fd ps sp ∧ mg x = some (.ref f) ∧ PySem.W.keepIn K (.ref f) = true ∧ KBn K fd ps 0 ks gL gV
def tCallK (n : Nat) (sp : Sp) (gV : List V → List V → List V) (tk : TA) : TE := fun σ H Q => tk σ H fun zs H2 => zs.length = n ∧ sp (gV [] zs) H2 Q E0
theorem pe_fnK {X : Cx} {k j : Nat} {x : Str} {ps ks : List Str} {sp : Sp} {gL : List Value → List Value → List Value} {gV : List V → List V → List V} {kws : List Keyword} {tk : TA} {p pos : Pos} (D : DefK X.prog X.w X.K X.mg X.base k x ps sp ks gL gV) (hr : Room j X.A) (hk : k ≤ j) (hkw : PK X kws tk) (hg : Gl X x := by rfl)
    (hall : (backToKw pos (keywordEach kws X.env)).all (·.1.isSome) = true := by rfl) (hks : (backToKw pos (keywordEach kws X.env)).filterMap (·.1) = ks := by rfl) (hdb : (x == ("__debug__" : Str)) = false := by decide)
    (hpl : ((backTo pos (starEach [] X.env)).any (·.1) || (backToKw pos (keywordEach kws X.env)).any (·.1.isNone)) = false := by rfl) :
    PE X (.Call (.Name x p) [] kws pos) (tCallK ks.length sp gV tk) := by
  obtain ⟨f, fd, F, hm, hkp, hb⟩ := D.ex
  refine ⟨fun pins s σ H Q I h => ?_⟩
  refine wpAny_Call_Name_kw (ld_glob I hg hm ?_ hdb)
  refine PySem.W.callWith_KW0 (h₀ := X.base) I.ok.mod.kin hkp hall ?_ hpl
  refine thn (hkw.run pos pins s σ H _ I h) fun ws s2 ⟨zs, H2, I2, rz, l2, q2⟩ => ⟨I2.kIn, ?_⟩
  rw [hks]
  exact run_fnN F (hr.mono hk) hb pass0 I2 .nil rz rfl l2 q2
end U

namespace M
open PySem L2 U ZN
abbrev sR63 : Stmt := top 58
abbrev nR63 : List Str := ["_law_jar", "_law_folk_here", "_law_base", "_law_many", "_law_moods", "_law_tag", "_law_row_here_here", "_law_k", "_law_by", "_law_more", "_law_under", "_law_other", "_law_top", "_law_bottom", "_law_mine", "_law_mate", "_law_flat", "_law_before", "_law_at", "_law_due", "_law_row_here", "_law_here", "_law_mood_here", "_law_part", "_law_each", "_law_late"]
abbrev pR63 : List Str := ["_law_jar"]
theorem scR63 : FnScope nR63 pR63 (defScope sR63) := ⟨rfl, rfl, rfl, by decide +kernel, rfl, by decide +kernel, by decide +kernel⟩
abbrev sLaw : Stmt := top 59
abbrev nLaw : List Str := ["_law_cells", "_law_k"]
abbrev pLaw : List Str := ["_law_cells"]
theorem scLaw : FnScope nLaw pLaw (defScope sLaw) := ⟨rfl, rfl, rfl, by decide +kernel, rfl, by decide +kernel, by decide +kernel⟩
theorem shw_frsJ {l : List Fr} (h : ∀ f ∈ l, f.1.natAbs < 2 ^ 1900 ∧ f.2.natAbs < 2 ^ 1900) (h6 : l.length ≤ 6) : Shw (dFrs l) := by
  have e : Sb (dFrs l) 30 2 := by
    refine (Sb.tup (SbA.map (c := 4) (n := 1) (f := dFr) (l := l) fun f hf => ?_)).mono (by omega) (Nat.le_refl _)
    unfold dFr
    exact (Sb.tup (.cons (Sb.int (h f hf).1) (.cons (Sb.int (h f hf).2) .nil))).mono (by omega) (by omega)
  exact e.w (by omega) (by omega)
theorem frl_shaped (ps : List Fr) : SeqAt.shaped (.list (ps.map dFr)) = true := shaped_of (by
  obtain ⟨h1, h2⟩ := frs_lay ps
  simp only [PyData.canLay0, PyData.depth]
  exact ⟨h1, by omega⟩)
theorem eqv_lnil {l : List Fr} (h : l ≠ []) : PyData.eqv (.list (l.map dFr)) (.list []) = false := by
  cases l with
  | nil => exact absurd rfl h
  | cons f l => simp [PyData.eqv, PyData.eqvAll]
theorem eqv_nilnil : PyData.eqv (.list []) (.list []) = true := by simp [PyData.eqv, PyData.eqvAll]
theorem fil_oneJ (p : Fr → Bool) (m : Fr) : List.filter p (some m).toList = if p m = true then [m] else [] := by
  show List.filter p [m] = _
  by_cases c : p m = true
  · rw [List.filter_cons_of_pos c, if_pos c]; rfl
  · rw [List.filter_cons_of_neg c, if_neg c]; rfl
theorem le_sumJ : ∀ (r : List Int) (x : Int), (∀ y ∈ r, 0 ≤ y) → x ∈ r → x ≤ r.sum
  | [], _, _, h => by cases h
  | a :: r, x, h0, h => by
    rw [List.sum_cons]
    have ha := h0 a List.mem_cons_self
    have hr : 0 ≤ r.sum := sum_nonneg fun z hz => h0 z (List.mem_cons_of_mem _ hz)
    rcases List.mem_cons.mp h with e | e
    · rw [e]; omega
    · have := le_sumJ r x (fun z hz => h0 z (List.mem_cons_of_mem _ hz)) e; omega
theorem imRep {H : Hp} {v : V} {d : PyData} (h : Im H v d) : ∀ n, ImAll H (List.replicate n v) (List.replicate n d)
  | 0 => .nil
  | n + 1 => .cons h (imRep h n)
theorem SesAt.ins {S C : Addr} {H : Hp} {x cr : Addr} {m wv tv : V} {ms : List Str} {ws : List (List (List Int))} {ps : List Fr} {d : Nat} (h : SesAt S C H x cr m wv tv ms ws ps d) : ∃ dx sa, H x = some (.ins S dx (sf (.ref sa))) := by
  obtain ⟨dx, sa, _, _, h1, _⟩ := h.ob
  exact ⟨dx, sa, h1⟩
theorem tupS_but {H H' : Hp} {x C dx : Addr} {fs : List (Str × V)} (h : H x = some (.ins C dx fs)) (b : But x H H') : TupS H H' := fun a ys e => e.keep fun o eo => b a o (e.neI h) eo
theorem SesAt.but {S C x' D' dx' : Addr} {fs' : List (Str × V)} {H H' : Hp} {x cr : Addr} {m wv tv : V} {ms : List Str} {ws : List (List (List Int))} {ps : List Fr} {d : Nat} (h : SesAt S C H x cr m wv tv ms ws ps d) (b : But x' H H') (ne : x ≠ x') (nc : cr ≠ x') (hi : H x' = some (.ins D' dx' fs')) : SesAt S C H' x cr m wv tv ms ws ps d := by
  have t := tupS_but hi b
  obtain ⟨⟨dx, sa, xs, ta, h1, h2, h3, h4⟩, h5, h6⟩ := h
  exact ⟨⟨dx, sa, xs, ta, b _ _ ne h1, t _ _ h2, h3, t _ _ h4⟩, h5.mono (fun o e => b _ _ nc e) t, Im.mono t _ _ h6⟩
def spR63 : Sp := fun vs H Q _ => ∃ (j : Addr), vs = [.ref j] ∧ WellAt H j 0 ∧ ∀ H', But j H H' → Q (.bl true) H'
def spLaw (K : PySem.W.Frag) : Sp := fun vs H Q _ => ∃ (a : Addr) (ns : List Int), vs = [.ref a] ∧ SqL K H a (ns.map V.int) ∧ ns.length ≤ 63 ∧ ∀ H', Q (.bl true) H'
section
variable {P : Program} {w : World} {K : PySem.W.Frag} {mg : Str → Option Value} {base : Heap} {S C : Addr}
theorem ok_r63 {f : Addr} {fd : FuncData} (F : Fun K "_law_right" "_law_right" sR63 f fd) (T : Bt mg) (Tz : mg "zip" = none) (U : Cn K mg C) (US : Sn K mg S) (MK : MkN P w K mg base "Council" C 11 pCIn (spCIn C) ["ways", "minds"] kwL kwV) (MS : MkN P w K mg base "Session" S 9 pSIn (spSIn S C) ["council", "thoughts"] kbL kbV) (gT : GetN P w K mg base S "thoughts" 1 (spSTh S C)) (gD : GetN P w K mg base S "days" 1 (spSDa S C)) (MD : MtN P w K mg base S "day" 7 pSDy (spSDy S C) ["way"] kbL kbV) (MP : MtN P w K mg base S "spread" 5 pSSp (spSSp S C) [] kbL kbV) (DD : DDp P w K mg base) (DF : DefX P w K mg base 5 "_law_folk" pFo spFo) (DM : DefX P w K mg base 2 "_law_mood" pMoo spMoo) (DC : DefX P w K mg base 1 "_law_cut" pCut spLow) (DP : DefX P w K mg base 2 "_law_plus" pPlu spPlu) (DL : DefX P w K mg base 1 "_law_is_less" pLes spLes) (DPt : DefX P w K mg base 4 "_law_parts" pPts spPts) : FnG P w K mg base CX0 13 f fd pR63 spR63 := by
  refine fnG0 F scR63 (fun vs H Q E h => ?_) (fun cdv A outer s H vs Q E hg hr h => ?_)
  · obtain ⟨j, rfl, _⟩ := h
    rfl
  · obtain ⟨j, rfl, J, k⟩ := h
    refine ⟨_, (pss_cons (ps_set (i := 1) scR63.nd rfl (Or.inr rfl) (pe_fn DF hr (by decide) (pa_cons (pv 0) (pa_cons pe_int (pa_cons pe_int (pa_cons pe_int pa_nil))))))
      (pss_cons (ps_par (i := 2) (j := 3) (by rfl) scR63.nd rfl rfl (by decide) rfl rfl (pa_cons (pe_mk MK hr (by decide) (pa_cons (pe_ix (ixT K) (pv 1) pe_int (fun _ _ => rfl)) (pa_cons (pe_ix (ixT K) (pv 1) pe_int (fun _ _ => rfl)) pa_nil))) (pa_cons (pe_callB (lenQ K) (by rfl) T.len (by decide +kernel) (pa_cons (pe_ix (ixT K) (pv 1) pe_int (fun _ _ => rfl)) pa_nil)) pa_nil)) (by rfl))
      (pss_cons (ps_set (i := 4) scR63.nd rfl (Or.inr rfl) (pe_callTy (tupO K) (by rfl) T.tuple (by decide +kernel) (pa_cons (pe_lc (own := [("_law_tag", 5)]) (g := gName 5) (tt := tYes) rfl scR63.nd (piT K (pe_ix (ixT K) (pv 1) pe_int (fun _ _ => rfl))) (blkOk_by (own := [("_law_tag", 5)]) (N := nR63) (sc := defScope sR63) (by decide +kernel)) (fun _ _ _ _ _ => (pg_name (i := 5) scR63.nd rfl (Or.inl rfl))) (fun _ _ _ _ _ => pts_nil)
          (fun _ _ _ _ _ => (pe_fn DM hr (by decide) (pa_cons (pv 0) pa_nil)))) pa_nil)))
      (pss_cons (ps_setLc (i := 6) (own := [("_law_k", 7)]) (g := gName 7) (tt := tYes) rfl scR63.nd rfl rfl (sw_true rfl rfl rfl (by decide +kernel)) (pi_range1 rfl T.range (pa_cons (pe_op op_add pe_int (pe_fn DD hr (by decide) (pa_cons (pv 0) (pa_cons pe_int pa_nil)))) pa_nil)) (blkOk_by (own := [("_law_k", 7)]) (N := nR63) (sc := defScope sR63) (by decide +kernel)) (fun _ _ _ _ _ => (pg_name (i := 7) scR63.nd rfl (Or.inl rfl))) (fun _ _ _ _ _ => pts_nil)
          (fun _ _ _ _ _ => (pe_fn DD hr (by decide) (pa_cons (pv 0) (pa_cons (pe_callB (lenQ K) (by rfl) T.len (by decide +kernel) (pa_cons (pe_ix (ixT K) (pv 1) pe_int (fun _ _ => rfl)) pa_nil)) pa_nil)))))
      (pss_cons (ps_asg (pe_tup (pa_cons (pe_ix (ixL K) (pe_lst (pa_cons pe_int (pa_cons (pe_un un_neg pe_int) (pa_cons (pe_op op_pow pe_int pe_int) pa_nil)))) (pe_fn DD hr (by decide) (pa_cons (pv 0) (pa_cons pe_int pa_nil))) (fun _ _ => rfl)) (pa_cons (pe_fn DM hr (by decide) (pa_cons (pv 0) pa_nil)) pa_nil))) (pg_tup (by rfl) (pgs_cons (pg_name (i := 8) scR63.nd rfl (Or.inr rfl)) (pgs_cons (pg_tup (by rfl) (pgs_cons (pg_name (i := 9) scR63.nd rfl (Or.inr rfl)) (pgs_cons (pg_name (i := 10) scR63.nd rfl (Or.inr rfl)) pgs_nil))) pgs_nil))))
      (pss_cons (ps_set (i := 11) scR63.nd rfl (Or.inl rfl) (pe_callTy (tupO K) (by rfl) T.tuple (by decide +kernel) (pa_cons (pe_lc (own := [("_law_top", 12), ("_law_bottom", 13)]) (tt := tYes) rfl scR63.nd (piT K (pv 4)) (blkOk_by (own := [("_law_top", 12), ("_law_bottom", 13)]) (N := nR63) (sc := defScope sR63) (by decide +kernel)) (fun _ _ _ _ _ => (pgT K 2 (pgs_cons (pg_name (i := 12) scR63.nd rfl (Or.inl rfl)) (pgs_cons (pg_name (i := 13) scR63.nd rfl (Or.inl rfl)) pgs_nil)))) (fun _ _ _ _ _ => pts_nil)
          (fun _ _ _ _ _ => (pe_fn DC hr (by decide) (pa_cons (pe_op op_add (pe_op op_mulW (pe_op op_mulW (pv 8) (pv 12)) (pv 10)) (pe_op op_mulW (pv 9) (pv 13))) (pa_cons (pe_op op_mulW (pv 13) (pv 10)) pa_nil))))) pa_nil)))
      (pss_cons (ps_par3 (i := 14) (j := 15) (l := 16) (by rfl) scR63.nd rfl rfl rfl (by decide) (by decide) (by decide) rfl rfl rfl (pa_cons (pe_mk MS hr (by decide) (pa_cons (pv 2) (pa_cons (pv 4) pa_nil))) (pa_cons (pe_mk MS hr (by decide) (pa_cons (pv 2) (pa_cons (pv 11) pa_nil))) (pa_cons (pe_mk MS hr (by decide) (pa_cons (pv 2) (pa_cons (pe_op (repN K) (pe_tup (pa_cons (pe_ix (ixT K) (pv 4) pe_int (fun _ _ => rfl)) pa_nil)) (pv 3)) pa_nil))) pa_nil))) (by rfl))
      (pss_cons (ps_set (i := 17) scR63.nd rfl (Or.inl rfl) (pe_mtZ MP hr (by decide) (pv 14)))
      (pss_cons (ps_for PassesOwn.never rfl (piL K (pv 6)) (pg_name (i := 18) scR63.nd rfl (Or.inl rfl))
        (pss_cons (ps_if (PW.pt (pw_or (pt_cmpR (neD K hr.units) (pe_lst (pa_cons (pe_mtN MD hr (by decide) (pv 14) (pa_cons (pv 18) pa_nil)) (pa_cons (pe_mtK MD hr (by decide) (pv 15) (pk_cons (pv 18) pk_nil)) (pa_cons (pe_mtN MD hr (by decide) (pv 16) (pa_cons (pv 18) pa_nil)) pa_nil)))) (pe_op op_rep (pe_lst (pa_cons pe_non pa_nil)) pe_int) (nomark _)) (pw_or1 (pt_val (pe_fn DL hr (by decide) (pa_cons (pv 17) (pa_cons (pe_mtZ MP hr (by decide) (pv 14)) pa_nil)))))))
        (pss_one (ps_ret pe_bl)) pss_nil)
      (pss_one (ps_set (i := 17) scR63.nd rfl (Or.inl rfl) (pe_mtZ MP hr (by decide) (pv 14))))))
      (pss_cons (ps_set (i := 19) scR63.nd rfl (Or.inl rfl) (pe_lst pa_nil))
      (pss_cons (ps_for PassesOwn.never rfl (piL K (pe_fn DPt hr (by decide) (pa_cons (pv 3) (pa_cons (pe_lc (own := [("_law_at", 18)]) (g := gName 18) (tt := tYes) rfl scR63.nd (piL K (pv 6)) (blkOk_by (own := [("_law_at", 18)]) (N := nR63) (sc := defScope sR63) (by decide +kernel)) (fun _ _ _ _ _ => (pg_name (i := 18) scR63.nd rfl (Or.inl rfl))) (fun _ _ _ _ _ => pts_nil)
          (fun _ _ _ _ _ => (pe_ix (ixT K) (pe_ix (ixT K) (pv 1) pe_int (fun _ _ => rfl)) (pv 18) (fun _ _ => rfl)))) pa_nil)))) (pg_name (i := 20) scR63.nd rfl (Or.inl rfl))
        (pss_cons (ps_set (i := 21) scR63.nd rfl (Or.inl rfl) (pe_tup (pa_cons pe_int (pa_cons pe_int pa_nil))))
      (pss_cons (ps_for PassesOwn.never rfl (zipQ K (by rfl) Tz (pa_cons (pv 4) (pa_cons (pv 20) pa_nil))) (pg_tup (by rfl) (pgs_cons (pg_name (i := 22) scR63.nd rfl (Or.inl rfl)) (pgs_cons (pg_name (i := 23) scR63.nd rfl (Or.inl rfl)) pgs_nil)))
        (pss_one (ps_set (i := 21) scR63.nd rfl (Or.inl rfl) (pe_fn DP hr (by decide) (pa_cons (pv 21) (pa_cons (pe_fn DC hr (by decide) (pa_cons (pe_op op_mulW (pe_ix (ixT K) (pv 22) pe_int (fun _ _ => rfl)) (pe_ix (ixT K) (pv 23) pe_int (fun _ _ => rfl))) (pa_cons (pe_op op_mulW (pe_ix (ixT K) (pv 22) pe_int (fun _ _ => rfl)) (pe_ix (ixT K) (pv 23) pe_int (fun _ _ => rfl))) pa_nil))) pa_nil))))))
      (pss_one (ps_expr (pbm K PySem.F.plainAttrs_list PySem.F.slot_list_append PySem.F.type_list_append mt_append (pv 19) (pa_cons (pv 21) pa_nil)))))))
      (pss_cons (ps_if (PW.pt (pw_or (pt_cmpR op_ne (pe_callB (reprV K hg hr.units) (by rfl) T.repr (by decide +kernel) (pa_cons (pe_prp gT US.cl hr (by decide) (pv 14)) pa_nil)) (pe_callB (reprV K hg hr.units) (by rfl) T.repr (by decide +kernel) (pa_cons (pe_callTy (tupO K) (by rfl) T.tuple (by decide +kernel) (pa_cons (pv 19) pa_nil)) pa_nil)) (nomark _)) (pw_or (pt_cmpR (neD K hr.units) (pe_prp gT US.cl hr (by decide) (pv 16)) (pe_op (repN K) (pe_tup (pa_cons (pe_ix (ixT K) (pv 4) pe_int (fun _ _ => rfl)) pa_nil)) (pv 3)) (nomark _)) (pw_or1 (pt_cmpR op_ne (pe_prp gD US.cl hr (by decide) (pv 14)) (pe_callB (lenQ K) (by rfl) T.len (by decide +kernel) (pa_cons (pv 6) pa_nil)) (nomark _))))))
        (pss_one (ps_ret pe_bl)) pss_nil)
      (pss_cons (ps_if (pt_cmpR (neD K hr.units) (pe_lc (own := [("_law_each", 24)]) (g := gName 24) rfl scR63.nd (piL K (pv 19)) (blkOk_by (own := [("_law_each", 24)]) (N := nR63) (sc := defScope sR63) (by decide +kernel)) (fun _ _ _ _ _ => (pg_name (i := 24) scR63.nd rfl (Or.inr rfl))) (fun _ _ _ _ _ => (pts_one (pt_cmpR (eqD K hr.units) (pe_lc (own := [("_law_mood_here", 22)]) (g := gName 22) rfl scR63.nd (piT K (pv 4)) (blkOk_by (own := [("_law_mood_here", 22)]) (N := nR63) (sc := _) (by kernel_rfl)) (fun _ _ _ _ _ => (pg_name (i := 22) scR63.nd rfl (Or.inl rfl))) (fun _ _ _ _ _ => (pts_one (pt_not (pt_val (pe_fn DL hr (by decide) (pa_cons (pv 24) (pa_cons (pv 22) pa_nil)))))))
          (fun _ _ _ _ _ => (pv 22))) (pe_lst pa_nil) (nomark _))))
          (fun _ _ _ _ _ => (pv 24))) (pe_lst pa_nil) (nomark _))
        (pss_one (ps_ret pe_bl)) pss_nil)
      (pss_cons (ps_if (pt_cmpR (neD K hr.units) (pe_lc (own := [("_law_each", 24)]) (g := gName 24) rfl scR63.nd (piL K (pv 19)) (blkOk_by (own := [("_law_each", 24)]) (N := nR63) (sc := defScope sR63) (by decide +kernel)) (fun _ _ _ _ _ => (pg_name (i := 24) scR63.nd rfl (Or.inr rfl))) (fun _ _ _ _ _ => (pts_one (pt_cmpR (eqD K hr.units) (pe_lc (own := [("_law_mood_here", 22)]) (g := gName 22) rfl scR63.nd (piT K (pv 4)) (blkOk_by (own := [("_law_mood_here", 22)]) (N := nR63) (sc := _) (by kernel_rfl)) (fun _ _ _ _ _ => (pg_name (i := 22) scR63.nd rfl (Or.inl rfl))) (fun _ _ _ _ _ => (pts_one (pt_not (pt_val (pe_fn DL hr (by decide) (pa_cons (pv 22) (pa_cons (pv 24) pa_nil)))))))
          (fun _ _ _ _ _ => (pv 22))) (pe_lst pa_nil) (nomark _))))
          (fun _ _ _ _ _ => (pv 24))) (pe_lst pa_nil) (nomark _))
        (pss_one (ps_ret pe_bl)) pss_nil)
      (pss_cons (ps_set (i := 25) scR63.nd rfl (Or.inl rfl) (pe_callTy (tupO K) (by rfl) T.tuple (by decide +kernel) (pa_cons (pe_lc (own := [("_law_top", 12), ("_law_bottom", 13)]) (tt := tYes) rfl scR63.nd (piL K (pv 19)) (blkOk_by (own := [("_law_top", 12), ("_law_bottom", 13)]) (N := nR63) (sc := defScope sR63) (by decide +kernel)) (fun _ _ _ _ _ => (pgT K 2 (pgs_cons (pg_name (i := 12) scR63.nd rfl (Or.inl rfl)) (pgs_cons (pg_name (i := 13) scR63.nd rfl (Or.inl rfl)) pgs_nil)))) (fun _ _ _ _ _ => pts_nil)
          (fun _ _ _ _ _ => (pe_fn DC hr (by decide) (pa_cons (pe_op op_add (pe_op op_mulW (pe_op op_mulW (pv 8) (pv 12)) (pv 10)) (pe_op op_mulW (pv 9) (pv 13))) (pa_cons (pe_op op_mulW (pv 13) (pv 10)) pa_nil))))) pa_nil)))
      (pss_one (ps_ret (pe_cmpR op_eq (pe_callB (reprV K hg hr.units) (by rfl) T.repr (by decide +kernel) (pa_cons (pe_prp gT US.cl hr (by decide) (pv 15)) pa_nil)) (pe_callB (reprV K hg hr.units) (by rfl) T.repr (by decide +kernel) (pa_cons (pv 25) pa_nil)) (nomark _))))))))))))))))))), ?_⟩
    refine ⟨_, rfl, j, 1, 4, 3, 0, rfl, by decide, by decide, by decide, by decide, by decide, by decide, J, fun H1 p c b ms ws b1 J1 np hp ic ib mo wo l1 l4 w3 => ?_⟩
    obtain ⟨c', cs, ec, hc, hcs⟩ := ic.tuple
    cases ec
    have ecs := hcs.strs
    subst ecs
    obtain ⟨b', bs, eb, hb, hbs⟩ := ib.tuple
    cases eb
    have bl : bs.length = ws.length := by rw [hbs.length, List.length_map]
    refine ⟨_, rfl, p, _, _, _, rfl, rfl, SqT.of hp, rfl, _, rfl, p, _, _, _, rfl, rfl, SqT.of hp, rfl, fun x1 dx nx1 ndx hne => ?_⟩
    have t4 := mk_same (C := C) nx1 ndx hne
    refine ⟨x1, dx, _, _, ms, ws, rfl, upd_same, Im.mono (Same.tups t4) _ _ ic, Im.mono (Same.tups t4) _ _ ib, mo, wo, fun H2 bt2 c2 => ?_⟩
    have s2 : Same H1 H2 := fun b o e => bt2 b o (ne_of_none e nx1) (t4 b o e)
    refine ⟨rfl, ?_⟩
    have J2 := J1.same s2
    have b2 := b1.trans (But.of s2)
    have hp := s2 _ _ hp
    have hc := hc.same s2
    have hb := hb.same s2
    have ib := Im.mono (Same.tups s2) _ _ ib
    clear ic hcs t4 bt2 s2 b1 J1 J np nx1 ndx hne
    refine ⟨_, rfl, p, _, _, _, rfl, rfl, SqT.of hp, rfl, c, _, rfl, .inr hc.sq, _, _, rfl, ?_⟩
    dsimp only [List.set]
    have hpj : p ≠ j := fun e => by
      obtain ⟨_, _, _, e2, _⟩ := J2
      rw [e, e2] at hp; cases hp
    refine ⟨_, rfl, p, _, _, _, rfl, rfl, SqT.of hp, rfl, c, rfl, ⟨_, hc.sq⟩, fun D hD => ?_⟩
    have hDj : D ≠ j := (J2.ne hD).symm
    refine lc_it (walk_tup (K := K) (a := c) (xs := ms.map V.str)) (fun i G => ∃ (ps : List Fr) (vs : List V), G D = some (.lst vs) ∧ ImAll G vs (ps.map dFr) ∧ ps.length = i ∧ (∀ f ∈ ps, MooOk f) ∧ But j H2 G ∧ WellAt G j (700 + 5 * i))
      ⟨[], [], upd_same, .nil, rfl, (fun _ h => nomatch h), But.new hD, (J2.upd hD).le (by omega)⟩ (fun i G _ ⟨_, _, _, _, _, _, hB, _⟩ => (hB.tups J2.jug _ _ hc).sq) ?_ (fun G h => ?_)
    · rintro i x _ G hi ⟨ps, vs, hG, iv, pl, pm, hB, JG⟩ ⟨rfl, hx⟩
      refine ⟨rfl, turnY ?_⟩
      have i6 : i < 6 := by
        have := mo.m6
        rw [List.length_map] at hi
        omega
      refine ⟨_, rfl, j, _, rfl, by omega, JG, fun G2 q fq b3 J3 nq iq fm => ?_⟩
      have hG2 := b3 D _ hDj hG
      have vl : vs.length = i := by rw [iv.length, List.length_map, pl]
      refine ⟨_, hG2, small1000 (by omega), ps ++ [fq], vs ++ [.ref q], upd_same, ?_, by rw [List.length_append, pl]; rfl, fun z hz => ?_, (hB.trans b3).put hD, (J3.put hDj.symm).le (by omega)⟩
      · rw [List.map_append]
        exact ImAll.mono (TupS.lst hG2) _ _ (ImAll.snoc iq (ImAll.mono (b3.tups JG.jug) _ _ iv))
      · rcases List.mem_append.mp hz with h | h
        · exact pm z h
        · rw [List.mem_singleton.mp h]; exact fm
    obtain ⟨ps, vs, hG, iv, pl, pm, hB, JG⟩ := h
    rw [List.length_map] at pl JG
    refine ⟨D, vs, rfl, .inl ⟨SqL.of hG, fun pd npd => ?_⟩⟩
    dsimp only [List.set]
    have m6 := mo.m6
    have m1 := mo.m1
    have b3 : But j H2 (upd G pd (.tup vs)) := hB.trans (But.new npd)
    have J3 : WellAt (upd G pd (.tup vs)) j 730 := (JG.upd npd).le (by omega)
    have im : Im (upd G pd (.tup vs)) (.ref pd) (dFrs ps) := .tup Tu.up (ImAll.mono (TupS.new npd) _ _ iv)
    generalize upd G pd (.tup vs) = H3 at b3 J3 im ⊢
    clear hG iv hB JG npd hD hDj
    have c3 := CouncilAt.but c2 b3 J2.jug
    have hp3 := b3 _ _ hpj hp
    have hb3 := b3.tups J2.jug _ _ hb
    show (tSeq _ _) _ ([some (.ref j), some (.ref p), some (.ref x1), some (.int ((ms.map V.str).length : Nat)), some (.ref pd), none, none, none, none, none, none, none, none, none, none, none, none, none, none, none, none, none, none, none, none, none] : L2.St) H3
    rw [List.length_map]
    have w1 := wo.w1
    have w6 := wo.w6
    refine ⟨_, rfl, j, 6, _, rfl, by decide, by decide, by omega, J3, fun H4 e b4 J4 e0 e1 => ⟨_, _, rfl, rfl, ?_⟩⟩
    obtain ⟨m, hm⟩ : ∃ m : Nat, 1 + e = m := ⟨(1 + e).toNat, by omega⟩
    refine ⟨m, by rw [← hm], by omega, by omega, fun DR hDR => ?_⟩
    have hDRj : DR ≠ j := (J4.ne hDR).symm
    have hp4 := b4 _ _ hpj hp3
    have hb4 := b4.tups J3.jug _ _ hb3
    refine lc_range (lo := 0) (n := m) (fun i G => ∃ r : List Nat, G DR = some (.lst (r.map fun (q : Nat) => V.int (q : Int))) ∧ r.length = i ∧ (∀ q ∈ r, q < ws.length) ∧ But j H4 G ∧ WellAt G j (731 + i)) ⟨[], upd_same, rfl, (fun _ h => nomatch h), But.new hDR, (J4.upd hDR).le (by omega)⟩ ?_ (fun G h => ?_)
    · rintro i G hi ⟨r, hr1, hl, hx, hB, JG⟩
      refine ⟨rfl, turnY ?_⟩
      refine ⟨_, rfl, _, rfl, p, _, _, _, rfl, rfl, SqT.of (hB _ _ hpj hp4), rfl, b, _, rfl, .inr (hB.tups J4.jug _ _ hb4).sq, j, (bs.length : Int), _, rfl, by omega, by omega, by omega, JG, fun G3 e b6 J6 e0 e1 => ?_⟩
      obtain ⟨z, rfl⟩ : ∃ q : Nat, e = q := ⟨e.toNat, by omega⟩
      refine ⟨_, b6 DR _ hDRj hr1, small1000 (by rw [List.length_map]; omega), r ++ [z], ?_, by rw [List.length_append, hl]; rfl, fun x hx' => ?_, (hB.trans b6).put hDR, (J6.put hDRj.symm).le (by omega)⟩
      · rw [upd_same, List.map_append]; rfl
      · rcases List.mem_append.mp hx' with y | y
        · exact hx x y
        · rw [List.mem_singleton.mp y]; omega
    obtain ⟨road, hR, rl, rq, hB, JG⟩ := h
    have m7 : m ≤ 6 := by omega
    have J5 : WellAt G j 740 := JG.le (by omega)
    have b5 := (b2.trans b3).trans (b4.trans hB)
    have b35 : But j H3 G := b4.trans hB
    have c5 := CouncilAt.but c3 b35 J3.jug
    have im5 := Im.mono (b35.tups J3.jug) _ _ im
    have hp5 := hB _ _ hpj hp4
    have hb5 := hB.tups J4.jug _ _ hb4
    have ib5 := Im.mono ((b3.trans b35).tups J2.jug) _ _ ib
    clear hB JG b4 J4 hDR hp4 hb4 b35 c3 im hp3 hb3 b3 J3 c2 hp hc hb ib b2 J2 e0 e1 hm
    generalize G = H5 at hR J5 b5 c5 im5 hp5 hb5 ib5 ⊢
    refine gN0 ?_
    dsimp only [List.set]
    refine ⟨_, rfl, _, _, rfl, rfl, ⟨by decide, by decide, by decide⟩, by show 3 ≤ sizeLine; decide, fun l nl => ?_⟩
    refine ⟨_, rfl, j, 3, _, rfl, by decide, by decide, by omega, J5.upd nl, fun H6 d b6 J6 d0 d1 => ?_⟩
    have hlj : l ≠ j := (J5.ne nl).symm
    obtain ⟨a, ha, hat⟩ := pick (xs := [2, -3, 1000000]) d0 (by simpa using d1)
    have ha' : a.natAbs ≤ 1000000 := by
      simp only [List.mem_cons, List.mem_nil_iff, or_false] at ha
      rcases ha with r | r | r <;> omega
    refine ⟨l, _, d, _, rfl, rfl, SqL.of (b6 l _ hlj upd_same), hat, ?_⟩
    refine ⟨_, rfl, j, _, rfl, by omega, J6, fun H7 q u b7 J7 nq iq um => ?_⟩
    have b67 := ((But.new nl).trans b6).trans b7
    refine ⟨by show 2 ≤ sizeLine; decide, fun pt npt => ?_⟩
    obtain ⟨q', eq', hq⟩ := im_fr iq
    cases eq'
    have hqT := TupS.new (o := HO.tup [.int a, .ref q]) npt _ _ hq
    refine ⟨pt, _, rfl, SqT.of upd_same, rfl, _, _, rfl, _, _, rfl, q, _, rfl, hqT.sq, rfl, _, _, rfl, _, _, rfl, rfl, rfl, ?_⟩
    dsimp only [List.set]
    have s78 : Same H7 (upd H7 pt (.tup [.int a, .ref q])) := same_upd npt
    have b57 := b67.trans (But.of s78)
    have J8 := J7.same s78
    have t58 := b57.tups J5.jug
    have b8 := b5.trans b57
    have c8 := CouncilAt.but c5 b57 J5.jug
    have im8 := Im.mono t58 _ _ im5
    have hp8 := b57 _ _ hpj hp5
    have hb8 := t58 _ _ hb5
    have ib8 := Im.mono t58 _ _ ib5
    have hR8 := b57 DR _ hDRj hR
    clear hR J5 b5 c5 im5 hp5 hb5 ib5 b67 b57 t58 b6 b7 J6 J7 nq iq nl npt hqT hat s78 hq d0 d1 ha
    generalize upd H7 pt (.tup [.int a, .ref q]) = H8 at b8 c8 im8 hp8 hb8 ib8 hR8 J8 ⊢
    obtain ⟨pd', vs8, epd, hpd, hvs⟩ := im8.tuple
    cases epd
    have vl8 : vs8.length = ms.length := by rw [hvs.length, List.length_map, pl]
    have up := um.ok.p
    have ub := um.b
    have ut := um.t
    have u2b : u.2.natAbs < 2 ^ 20 := by omega
    have u1b : u.1.natAbs < 2 ^ 30 := by omega
    have ab : a.natAbs < 2 ^ 20 := by omega
    -- an affine image of thoughts, as the program makes it
    have affD : ((ps.map (affF a u)).map dFr).length = ms.length := by rw [List.length_map, List.length_map, pl]
    refine ⟨_, rfl, pd, rfl, ⟨_, hpd.sq⟩, fun D5 hD5 => ?_⟩
    refine lc_it (walk_tup (K := K) (a := pd) (xs := vs8)) (IvS H8 D5 ((ps.map (affF a u)).map dFr)) (ivs0 hD5) (fun i G _ ⟨_, _, _, s'⟩ => (hpd.same s').sq) ?_ (fun G h => ?_)
    · rintro i x _ G hi h ⟨rfl, hx⟩
      obtain ⟨df, hdf, jf⟩ := hvs.get hx
      obtain ⟨fq, hfq⟩ : ∃ fq, ps[i]? = some fq := ⟨_, List.getElem?_eq_getElem (by omega)⟩
      rw [List.getElem?_map, hfq] at hdf
      obtain rfl : dFr fq = df := Option.some.inj hdf
      have fm := pm fq (List.mem_of_getElem? hfq)
      have fp := fm.ok.p
      have fb := fm.b
      have ft := fm.t
      have f1b : fq.1.natAbs < 2 ^ 30 := by omega
      have f2b : fq.2.natAbs < 2 ^ 20 := by omega
      obtain ⟨vs', hD', iv', sG⟩ := id h
      obtain ⟨fa, rfl, hfa⟩ := im_fr (Im.mono (Same.tups sG) _ _ jf)
      refine ⟨fa, _, rfl, hfa.sq, rfl, _, _, rfl, _, _, rfl, rfl, rfl, turnY ?_⟩
      refine ⟨_, rfl, _, rfl, _, _, rfl, rfl, mulW ab f1b (by decide) (by decide) (by decide), _, rfl, _, _, rfl, rfl, mulW (mulB ab f1b) u2b (by decide) (by decide) (by decide), _, rfl, _, rfl, _, _, rfl, rfl, mulW u1b f2b (by decide) (by decide) (by decide), _, _, rfl, rfl, _, rfl, _, rfl, _, _, rfl, rfl, mulW f2b u2b (by decide) (by decide) (by decide), ?_⟩
      refine ⟨_, _, rfl, Int.mul_pos fp up, Nat.lt_of_lt_of_le (lg (mulB f2b u2b) (by decide)) (by decide), fun G2 p2 s2 n2 im2 => ?_⟩
      exact ivs1 hD5 h s2 im2 (by rw [affD]; omega) (by rw [List.getElem?_map, List.getElem?_map, hfq]; rfl)
    obtain ⟨vs', sG, hD', iv'⟩ := ivsE h (by rw [affD, vl8])
    refine ⟨D5, vs', rfl, .inl ⟨SqL.of hD', fun po npo => ?_⟩⟩
    have s9 : Same H8 (upd G po (.tup vs')) := sG.trans (same_upd npo)
    have io : Im (upd G po (.tup vs')) (.ref po) (dFrs (ps.map (affF a u))) := .tup Tu.up (ImAll.mono (TupS.new npo) _ _ iv')
    generalize upd G po (.tup vs') = H9 at s9 io ⊢
    refine gN0 ?_
    dsimp only [List.set]
    have affOk : ∀ f ∈ ps.map (affF a u), FrOk f := fun f hf => by
      obtain ⟨g, hg, rfl⟩ := List.mem_map.mp hf
      exact (low_ok (Int.mul_pos (pm g hg).ok.p up)).1
    have c9 := c8.same s9
    have im9 := Im.mono (Same.tups s9) _ _ im8
    -- the sessions
    refine ⟨_, rfl, _, rfl, fun y1 dy1 ny1 ndy1 hne1 => ?_⟩
    have m1s := mk_same (C := S) ny1 ndy1 hne1
    have J9 := J8.same s9
    have fy1 : H y1 = none := (b8.trans (But.of s9)).freeJ J9.jug ny1
    have nx1 : x1 ≠ y1 := fun e => by
      obtain ⟨dq, hq⟩ := c9.ob
      rw [e, ny1] at hq; cases hq
    refine ⟨y1, dy1, x1, _, _, .ref pd, ms, ws, ps, rfl, upd_same, c9.same m1s, nx1, Im.mono (Same.tups m1s) _ _ im9, fun f hf => (pm f hf).ok, pl, fun H10 bt1 ses1 => ⟨rfl, ?_⟩⟩
    have s10 : Same H9 H10 := fun b o e => bt1 b o (ne_of_none e ny1) (m1s b o e)
    refine ⟨_, rfl, _, rfl, fun y2 dy2 ny2 ndy2 hne2 => ?_⟩
    have m2s := mk_same (C := S) ny2 ndy2 hne2
    have fy2 : H y2 = none := (b8.trans (But.of (s9.trans s10))).freeJ (J9.same s10).jug ny2
    have nx2 : x1 ≠ y2 := fun e => by
      obtain ⟨dq, hq⟩ := (c9.same s10).ob
      rw [e, ny2] at hq; cases hq
    have ny12 : y1 ≠ y2 := fun e => by
      obtain ⟨_, _, _, _, hq, _⟩ := ses1.ob
      rw [e, ny2] at hq; cases hq
    refine ⟨y2, dy2, x1, _, _, .ref po, ms, ws, _, rfl, upd_same, (c9.same s10).same m2s, nx2, Im.mono ((Same.tups s10).trans (Same.tups m2s)) _ _ io, affOk, by rw [List.length_map, pl], fun H11 bt2 ses2 => ⟨rfl, ?_⟩⟩
    have s11 : Same H10 H11 := fun b o e => bt2 b o (ne_of_none e ny2) (m2s b o e)
    obtain ⟨f0, hf0⟩ : ∃ f0, ps[0]? = some f0 := ⟨_, List.getElem?_eq_getElem (by omega)⟩
    obtain ⟨v0, hv0⟩ : ∃ v0, vs8[0]? = some v0 := ⟨_, List.getElem?_eq_getElem (by omega)⟩
    obtain ⟨d0, hd0, i0⟩ := hvs.get hv0
    rw [List.getElem?_map, hf0] at hd0
    obtain rfl : dFr f0 = d0 := Option.some.inj hd0
    have s811 := (s9.trans s10).trans s11
    refine ⟨_, rfl, _, rfl, pd, _, _, _, rfl, rfl, (hpd.same s811).sq, atI_nat (j := 0) hv0, by show 1 ≤ sizeLine; decide, fun p1 np1 => ⟨_, rfl, ?_⟩⟩
    have s12 : Same H11 (upd H11 p1 (.tup [v0])) := same_upd np1
    refine repTu2 (n := ms.length) (Tu.up (xs := [v0])) (Nat.le_refl 1) (by show 1 ≤ 100; decide) m1 (by omega) fun p2 H12 s13 hp2 => ?_
    rw [List.flatten_replicate_singleton] at hp2
    refine fun y3 dy3 ny3 ndy3 hne3 => ?_
    have m3s := mk_same (C := S) ny3 ndy3 hne3
    have s912 := ((s10.trans s11).trans s12).trans s13
    have c12 := c9.same s912
    have fy3 : H y3 = none := (b8.trans (But.of (s9.trans s912))).freeJ (J9.same s912).jug ny3
    have nx3 : x1 ≠ y3 := fun e => by
      obtain ⟨dq, hq⟩ := c12.ob
      rw [e, ny3] at hq; cases hq
    have ses1 := ses1.same ((s11.trans s12).trans s13)
    have ses2 := ses2.same (s12.trans s13)
    have ny13 : y1 ≠ y3 := fun e => by
      obtain ⟨_, _, _, _, hq, _⟩ := ses1.ob
      rw [e, ny3] at hq; cases hq
    have ny23 : y2 ≠ y3 := fun e => by
      obtain ⟨_, _, _, _, hq, _⟩ := ses2.ob
      rw [e, ny3] at hq; cases hq
    have i0' := Im.mono (Same.tups ((s811.trans s12).trans s13)) _ _ i0
    have ip2 : Im H12 (.ref p2) (dFrs (List.replicate ms.length f0)) := by
      refine .tup hp2 ?_
      rw [List.map_replicate]
      exact imRep i0' _
    have f0m := pm f0 (List.mem_of_getElem? hf0)
    refine ⟨y3, dy3, x1, _, _, .ref p2, ms, ws, List.replicate ms.length f0, rfl, upd_same, c12.same m3s, nx3, Im.mono (Same.tups m3s) _ _ ip2, fun f hf => by rw [List.eq_of_mem_replicate hf]; exact f0m.ok, List.length_replicate, fun H13 bt3 ses3 => ⟨rfl, _, _, _, rfl, ?_⟩⟩
    have s14 : Same H12 H13 := fun b o e => bt3 b o (ne_of_none e ny3) (m3s b o e)
    dsimp only [List.set]
    have ses1 := ses1.same s14
    have ses2 := ses2.same s14
    have s813 := ((s811.trans s12).trans s13).trans s14
    have b13 := b8.trans (But.of s813)
    have hpd13 := hpd.same s813
    have hvs13 := ImAll.mono (Same.tups s813) _ _ hvs
    have hp13 := s813 _ _ hp8
    have hb13 := hb8.same s813
    have ib13 := Im.mono (Same.tups s813) _ _ ib8
    have hR13 := s813 _ _ hR8
    clear s14 bt3 s813 m3s ndy3 hne3 ny3 ip2 i0' c12 s912 s12 s13 hp2 np1 s811 i0 s11 bt2 m2s ndy2 hne2 ny2 s10 bt1 m1s ndy1 hne1 ny1 im9 c9 io s9 npo hD' iv' sG hD5 hpd hvs hp8 hb8 ib8 hR8 im8 c8 b8
    have n6 : ps.length ≤ 6 := by omega
    have W : Wrd ms.length ws road := ⟨m1, wo, by omega, rq⟩
    have r6 : road.length ≤ 6 := by omega
    have po1 := moo_parts pm n6
    have pb1 := pow_up (moo_lcm pm n6) (show 120 ≤ 160 by decide)
    obtain ⟨po2, pb2⟩ := aff_parts pm n6 ha' um
    obtain ⟨po3, pb3⟩ := flat_parts f0m ms.length
    have al : (ps.map (affF a u)).length = ms.length := by rw [List.length_map, pl]
    have fl3 : (List.replicate ms.length f0).length = ms.length := List.length_replicate
    obtain ⟨dx1, sa1, hy1⟩ := ses1.ins
    refine ⟨_, rfl, y1, dx1, _, rfl, hy1, sf_no _ (by decide +kernel), y1, x1, _, _, _, ms, ws, ps, 0, lcmB ps, rfl, ses1, po1, by omega, by omega, fun H14 pb s15 npb ibf => ?_⟩
    refine gN0 ?_
    dsimp only [List.set]
    have ses1 := ses1.same s15
    have ses2 := ses2.same s15
    have ses3 := ses3.same s15
    have b14 := b13.trans (But.of s15)
    have hpd14 := hpd13.same s15
    have hvs14 := ImAll.mono (Same.tups s15) _ _ hvs13
    have hp14 := s15 _ _ hp13
    have hb14 := hb13.same s15
    have ib14 := Im.mono (Same.tups s15) _ _ ib13
    have hR14 := s15 _ _ hR13
    clear b13 hpd13 hvs13 hp13 hb13 ib13 hR13 hy1 npb s15
    obtain ⟨dx1, sa1, hy1⟩ := ses1.ins
    obtain ⟨dx2, sa2, hy2⟩ := ses2.ins
    obtain ⟨dx3, sa3, hy3⟩ := ses3.ins
    have r1 : DR ≠ y1 := fun e => by rw [e, hy1] at hR14; cases hR14
    have r2 : DR ≠ y2 := fun e => by rw [e, hy2] at hR14; cases hR14
    have r3 : DR ≠ y3 := fun e => by rw [e, hy3] at hR14; cases hR14
    refine ⟨_, rfl, DR, rfl, ⟨_, SqL.of hR14⟩, for_list (K := K) (a := DR) (xs := road.map fun (q : Nat) => V.int (q : Int)) (fun i σ G => ∃ (bv : V) (v18 : Option V) (tv1 tv2 tv3 : V), σ = [some (.ref j), some (.ref p), some (.ref x1), some (.int ms.length), some (.ref pd), none, some (.ref DR), none, some (.int a), some (.int u.1), some (.int u.2), some (.ref po), none, none, some (.ref y1), some (.ref y2), some (.ref y3), some bv, v18, none, none, none, none, none, none, none] ∧ (∀ b o, b ≠ y1 → b ≠ y2 → b ≠ y3 → H14 b = some o → G b = some o) ∧ SesAt S C G y1 x1 (.ref c) (.ref b) tv1 ms ws (laterF ws ps (road.take i)) i ∧ SesAt S C G y2 x1 (.ref c) (.ref b) tv2 ms ws (laterF ws (ps.map (affF a u)) (road.take i)) i ∧ SesAt S C G y3 x1 (.ref c) (.ref b) tv3 ms ws (laterF ws (List.replicate ms.length f0) (road.take i)) i ∧ Im G bv (dFr (sprF (lcmB (laterF ws ps (road.take i))) (laterF ws ps (road.take i)))))
      ⟨.ref pb, none, _, _, _, rfl, fun b o _ _ _ e => e, ses1, ses2, ses3, ibf⟩ (fun i σ G _ ⟨_, _, _, _, _, _, hk, _⟩ => SqL.of (hk _ _ r1 r2 r3 hR14)) ?_ ?_⟩
    · clear ses1 ses2 ses3 ibf
      rintro i x σ G hx ⟨bv, v18, tv1, tv2, tv3, rfl, hk, e1, e2, e3, ibv⟩
      rw [List.getElem?_map] at hx
      have il : i < road.length := by
        by_cases c : i < road.length
        · exact c
        · rw [List.getElem?_eq_none (by omega)] at hx; cases hx
      obtain ⟨q, hq⟩ : ∃ q, road[i]? = some q := ⟨_, List.getElem?_eq_getElem il⟩
      rw [hq] at hx
      obtain rfl : V.int (q : Int) = x := Option.some.inj hx
      have qw := rq q (List.mem_of_getElem? hq)
      have hw : ws[q]? = some (wAt ws q) := by
        unfold wAt
        rw [List.getElem?_eq_getElem qw]
        rfl
      have ev : ∀ ps : List Fr, laterF ws ps (road.take (i + 1)) = dayF (wAt ws q) (laterF ws ps (road.take i)) := fun ps => by
        rw [List.take_succ, hq]
        exact laterF_snoc ws ps (road.take i) q
      obtain ⟨q1, k1, l1'⟩ := later_facts W r6 po1 pb1 pl (Nat.le_of_lt il)
      obtain ⟨q2, k2, l2'⟩ := later_facts W r6 po2 pb2 al (Nat.le_of_lt il)
      obtain ⟨q3, k3, l3'⟩ := later_facts W r6 po3 pb3 fl3 (Nat.le_of_lt il)
      obtain ⟨q4, k4, l4'⟩ := later_facts W r6 po1 pb1 pl (show i + 1 ≤ road.length from il)
      have lss := spr_day W r6 po1 pb1 pl hq
      refine gN0 ?_
      dsimp only [List.set]
      obtain ⟨dx1, sa1, hy1⟩ := e1.ins
      refine ⟨_, rfl, y1, dx1, _, rfl, hy1, sf_no _ (by decide +kernel), _, rfl, y1, x1, _, _, tv1, ms, ws, _, i, q, _, _, rfl, e1, nx1, hw, by omega, q1, l1', fun G1 tw1 bt1 e1' => ?_⟩
      have e2 := e2.but bt1 (fun z => ny12 z.symm) nx1 hy1
      have e3 := e3.but bt1 (fun z => ny13 z.symm) nx1 hy1
      obtain ⟨dx2, sa2, hy2⟩ := e2.ins
      refine ⟨_, rfl, y2, dx2, _, rfl, hy2, sf_no _ (by decide +kernel), _, rfl, rfl, y2, x1, _, _, tv2, ms, ws, _, i, q, _, _, rfl, e2, nx2, hw, by omega, q2, l2', fun G2 tw2 bt2 e2' => ?_⟩
      have e1' := e1'.but bt2 ny12 nx2 hy2
      have e3 := e3.but bt2 (fun z => ny23 z.symm) nx2 hy2
      obtain ⟨dx3, sa3, hy3⟩ := e3.ins
      refine ⟨_, rfl, y3, dx3, _, rfl, hy3, sf_no _ (by decide +kernel), _, rfl, y3, x1, _, _, tv3, ms, ws, _, i, q, _, _, rfl, e3, nx3, hw, by omega, q3, l3', fun G3 tw3 bt3 e3' => ?_⟩
      have e1' := e1'.but bt3 ny13 nx3 hy3
      have e2' := e2'.but bt3 ny23 nx3 hy3
      rw [← ev] at e1' e2' e3'
      have hk3 : ∀ b o, b ≠ y1 → b ≠ y2 → b ≠ y3 → H14 b = some o → G3 b = some o := fun b o h1 h2 h3 e => bt3 b o h3 (bt2 b o h2 (bt1 b o h1 (hk b o h1 h2 h3 e)))
      have ibv := Im.mono (tupS_but hy3 bt3) _ _ (Im.mono (tupS_but hy2 bt2) _ _ (Im.mono (tupS_but hy1 bt1) _ _ ibv))
      clear hk bt1 bt2 bt3 e1 e2 e3 hy1 hy2 hy3
      refine ⟨by show 3 ≤ sizeLine; decide, fun p7 np7 => ?_⟩
      have s7 : Same G3 (upd G3 p7 (.lst [.non, .non, .non])) := same_upd np7
      have l7 : (upd G3 p7 (.lst [.non, .non, .non])) p7 = some (.lst [.non, .non, .non]) := upd_same
      generalize upd G3 p7 (.lst [.non, .non, .non]) = G4 at s7 l7 ⊢
      refine ⟨by show 1 ≤ sizeLine; decide, fun p8 np8 => ⟨p8, 3, _, rfl, rfl, upd_same, by decide, by decide, by show 1 * 3 ≤ sizeLine; decide, fun p9 np9 => ?_⟩⟩
      have s9 : Same G4 (upd (upd G4 p8 (.lst [.non])) p9 (.lst [.non, .non, .non])) := (same_upd np8).trans (same_upd np9)
      have l9 : (upd (upd G4 p8 (.lst [.non])) p9 (.lst [.non, .non, .non])) p9 = some (.lst [.non, .non, .non]) := upd_same
      show rNeD K _ _ (upd (upd G4 p8 (.lst [.non])) p9 (.lst [.non, .non, .non])) _
      generalize upd (upd G4 p8 (.lst [.non])) p9 (.lst [.non, .non, .non]) = G5 at s9 l9 ⊢
      have s35 := s7.trans s9
      have ee : PyData.eqv (.list [.none, .none, .none]) (.list [.none, .none, .none]) = true := by simp [PyData.eqv, PyData.eqvAll]
      refine ⟨.list [.none, .none, .none], .list [.none, .none, .none], .lst (SqL.of (s9 _ _ l7)) (.cons .non (.cons .non (.cons .non .nil))), .lst (SqL.of l9) (.cons .non (.cons .non (.cons .non .nil))), by decide +kernel, by decide +kernel, ?_⟩
      rw [ee]
      refine ⟨_, rfl, iteF ?_⟩
      have e1' := e1'.same s35
      have e2' := e2'.same s35
      have e3' := e3'.same s35
      have ibv := Im.mono (Same.tups s35) _ _ ibv
      obtain ⟨dx1, sa1, hy1⟩ := e1'.ins
      refine ⟨_, rfl, _, rfl, y1, dx1, _, rfl, hy1, sf_no _ (by decide +kernel), y1, x1, _, _, tw1, ms, ws, _, i + 1, _, rfl, e1', q4, by omega, by omega, fun G6 p10 s17 n10 ia => ?_⟩
      refine ⟨bv, .ref p10, _, _, rfl, Im.mono (Same.tups s17) _ _ ibv, ia, upB (spr_bb q1).1 (by decide), (spr_bb q1).2, upB (spr_bb q4).1 (by decide), (spr_bb q4).2, _, rfl, ?_⟩
      rw [lss]
      refine iteF ?_
      have e1' := e1'.same s17
      refine ⟨_, rfl, y1, dx1, _, rfl, s17 _ _ hy1, sf_no _ (by decide +kernel), y1, x1, _, _, tw1, ms, ws, _, i + 1, _, rfl, e1', q4, by omega, by omega, fun G7 p11 s18 n11 ia2 => ?_⟩
      have s57 := s17.trans s18
      exact ⟨.ref p11, _, tw1, tw2, tw3, rfl, fun b o h1 h2 h3 e => s57 _ _ (s35 _ _ (hk3 b o h1 h2 h3 e)), e1'.same s18, e2'.same s57, e3'.same s57, ia2⟩
    · rintro σ G ⟨bv, v18, tv1, tv2, tv3, rfl, hk, e1, e2, e3, _⟩
      rw [List.length_map, List.take_length] at e1 e2 e3
      have tH : TupS H14 G := fun a xs e => e.keep fun o eo => hk a o (e.neI hy1) (e.neI hy2) (e.neI hy3) eo
      have hpdG := tH _ _ hpd14
      have hvsG := ImAll.mono tH _ _ hvs14
      have hpG := hk p _ (fun e => by rw [e, hy1] at hp14; cases hp14) (fun e => by rw [e, hy2] at hp14; cases hp14) (fun e => by rw [e, hy3] at hp14; cases hp14) hp14
      have hbG := tH _ _ hb14
      have ibG := Im.mono tH _ _ ib14
      have hRG := hk _ _ r1 r2 r3 hR14
      have bG : But j H G := fun a o na e => by
        refine hk a o ?_ ?_ ?_ (b14 a o na e)
        · intro z; rw [z, fy1] at e; cases e
        · intro z; rw [z, fy2] at e; cases e
        · intro z; rw [z, fy3] at e; cases e
      clear hk ses1 ses2 ses3 ibf b14 hpd14 hvs14 hp14 hb14 ib14 hR14 tH hy1 hy2 hy3
      obtain ⟨S0, k1, k4, _, _, S27⟩ := W.ok po1 (pow_up pb1 (by decide)) pl
      have S0p := k1.p
      refine ⟨by show 0 ≤ sizeLine; decide, fun DU nDU => ?_⟩
      refine gN0 ?_
      dsimp only [List.set]
      have sU : Same G (upd G DU (.lst [])) := same_upd nDU
      have i0U : IvS G DU ((laterF ws ps road).map dFr) 0 (upd G DU (.lst [])) := ivs0 nDU
      have Ll : (laterF ws ps road).length = ms.length := by rw [k4, List.length_map, k1.l]
      have dl : ((laterF ws ps road).map dFr).length = ms.length := by rw [List.length_map, Ll]
      generalize upd G DU (.lst []) = G0 at sU i0U ⊢
      have wl : ((road.map (wAt ws)).map dWay).length = road.length := by rw [List.length_map, List.length_map]
      refine ⟨_, rfl, _, rfl, DR, rfl, ⟨_, SqL.of (sU _ _ hRG)⟩, fun D6 hD6 => ?_⟩
      refine lc_list (K := K) (a := DR) (xs := road.map fun (q : Nat) => V.int (q : Int)) (IvS G0 D6 ((road.map (wAt ws)).map dWay)) (ivs0 hD6) (fun i G' _ ⟨_, _, _, s'⟩ => SqL.of ((sU.trans s') _ _ hRG)) ?_ (fun G2 h2 => ?_)
      · rintro i x G' hx h
        rw [List.getElem?_map] at hx
        have il : i < road.length := by
          by_cases c : i < road.length
          · exact c
          · rw [List.getElem?_eq_none (by omega)] at hx; cases hx
        obtain ⟨q, hq⟩ : ∃ q, road[i]? = some q := ⟨_, List.getElem?_eq_getElem il⟩
        rw [hq] at hx
        obtain rfl : V.int (q : Int) = x := Option.some.inj hx
        have qw := rq q (List.mem_of_getElem? hq)
        obtain ⟨vs', hD', iv', sG⟩ := id h
        have s0' := sU.trans sG
        obtain ⟨b', xw, eb, hbw, hxw⟩ := (Im.mono (Same.tups s0') _ _ ibG).tuple
        cases eb
        have xwl : xw.length = ws.length := by rw [hxw.length, List.length_map]
        obtain ⟨wv', hwv⟩ : ∃ wv, xw[q]? = some wv := ⟨_, List.getElem?_eq_getElem (by omega)⟩
        obtain ⟨dw, hdw, iw⟩ := hxw.get hwv
        have hw : ws[q]? = some (wAt ws q) := by
          unfold wAt
          rw [List.getElem?_eq_getElem qw]
          rfl
        rw [List.getElem?_map, hw] at hdw
        obtain rfl : dWay (wAt ws q) = dw := Option.some.inj hdw
        refine ⟨rfl, turnY ?_⟩
        refine ⟨_, rfl, p, _, _, _, rfl, rfl, SqT.of (s0' _ _ hpG), rfl, _, rfl, b, _, _, _, rfl, rfl, hbw.sq, atI_nat hwv, ?_⟩
        exact ivs1 hD6 h (Same.refl _) iw (by rw [wl]; omega) (by rw [List.getElem?_map, List.getElem?_map, hq]; rfl)
      obtain ⟨vs6, s6, hD6', iv6⟩ := ivsE h2 (by rw [wl, List.length_map])
      refine ⟨D6, vs6, ms.length, ws, road, rfl, hD6', iv6, W, fun G3 L3 us3 R s7 hL3 iR Rl Rq hcol => ?_⟩
      have s03 := s6.trans s7
      have i0U : IvS G DU ((laterF ws ps road).map dFr) 0 G3 := by
        obtain ⟨vs', hD', iv', sG⟩ := i0U
        exact ⟨vs', s03 _ _ hD', ImAll.mono (Same.tups s03) _ _ iv', sG.trans s03⟩
      have usl : us3.length = ms.length := by rw [iR.length, List.length_map, Rl]
      have hDU3 : G3 DU = some (.lst []) := by
        obtain ⟨vs', hD', iv', _⟩ := i0U
        cases iv'
        exact hD'
      have nLD : L3 ≠ DU := fun e => by
        rw [e, hDU3] at hL3
        cases hL3
        simp at usl
        omega
      have s0G3 := sU.trans s03
      have hpd3 := hpdG.same s0G3
      have hvs3 := ImAll.mono (Same.tups s0G3) _ _ hvsG
      refine ⟨L3, rfl, ⟨_, SqL.of hL3⟩, for_list (K := K) (a := L3) (xs := us3) (fun i σ G' => ∃ v20 v21 v22 v23 : Option V, σ = [some (.ref j), some (.ref p), some (.ref x1), some (.int ms.length), some (.ref pd), none, some (.ref DR), none, some (.int a), some (.int u.1), some (.int u.2), some (.ref po), none, none, some (.ref y1), some (.ref y2), some (.ref y3), some bv, v18, some (.ref DU), v20, v21, v22, v23, none, none] ∧ IvS G DU ((laterF ws ps road).map dFr) i G' ∧ ∀ b o, b ≠ DU → G3 b = some o → G' b = some o)
        ⟨none, none, none, none, rfl, i0U, fun b o _ e => e⟩ (fun i σ G' _ ⟨_, _, _, _, _, _, h⟩ => SqL.of (h _ _ nLD hL3)) ?_ ?_⟩
      · rintro i x σ G' hx ⟨v20, v21, v22, v23, rfl, hI, hk⟩
        have il : i < ms.length := by rw [← usl]; exact (List.getElem?_eq_some_iff.mp hx).1
        obtain ⟨dq, hdq, iq⟩ := iR.get hx
        obtain ⟨q, hq⟩ : ∃ q, R[i]? = some q := ⟨_, List.getElem?_eq_getElem (by omega)⟩
        rw [List.getElem?_map, hq] at hdq
        obtain rfl : dFrs q = dq := Option.some.inj hdq
        have ql := Rq q (List.mem_of_getElem? hq)
        obtain ⟨r, hr⟩ : ∃ r, (rowsF ms.length ws road)[i]? = some r := ⟨_, List.getElem?_eq_getElem (by rw [k1.l]; exact il)⟩
        obtain ⟨rl', r0, rs⟩ := k1.r r (List.mem_of_getElem? hr)
        have t3 : TupS G3 G' := fun a xs e => e.keep fun o eo => hk a o (e.neL hDU3) eo
        obtain ⟨ra, xs, rfl, hra, hxs⟩ := (Im.mono t3 _ _ iq).tuple
        have xl : xs.length = ms.length := by rw [hxs.length, List.length_map, ql]
        have hpd' := t3 _ _ hpd3
        have hvs' := ImAll.mono t3 _ _ hvs3
        refine gN0 ?_
        dsimp only [List.set]
        refine ⟨by show 2 ≤ sizeLine; decide, fun p0 np0 => ?_⟩
        dsimp only [List.set]
        have s0 : Same G' (upd G' p0 (.tup [.int 0, .int 1])) := same_upd np0
        have im0 : Im (upd G' p0 (.tup [.int 0, .int 1])) (.ref p0) (dFr (0, 1)) := .tup Tu.up (.cons (.int _) (.cons (.int _) .nil))
        generalize upd G' p0 (.tup [.int 0, .int 1]) = G4 at s0 im0 ⊢
        refine ⟨_, rfl, _, rfl, pd, ra, vs8, xs, rfl, .inr ⟨(hpd'.same s0).sq, (hra.same s0).sq, for_it (walk_zipT (K := K) (a := pd) (b := ra) (xs := vs8) (ys := xs) (n := ms.length) vl8.symm xl.symm)
          (fun z σ G'' => ∃ (hv : V) (v22 v23 : Option V) (f : Fr), σ = [some (.ref j), some (.ref p), some (.ref x1), some (.int ms.length), some (.ref pd), none, some (.ref DR), none, some (.int a), some (.int u.1), some (.int u.2), some (.ref po), none, none, some (.ref y1), some (.ref y2), some (.ref y3), some bv, v18, some (.ref DU), some (.ref ra), some hv, v22, v23, none, none] ∧ Same G4 G'' ∧ Im G'' hv (dFr f) ∧ DueAt (lcmB ps) S0 r ps z f)
          ⟨.ref p0, v22, v23, (0, 1), rfl, Same.refl _, im0, due0⟩ (fun z σ G'' _ ⟨_, _, _, _, _, s', _⟩ => ⟨((hpd'.same s0).same s').sq, ((hra.same s0).same s').sq⟩) ?_ ?_⟩⟩
        · rintro z x σ G5 G6 hz ⟨hv, v22, v23, fh, rfl, s5, ihv, due⟩ ⟨T', y1', y2', rfl, hT, rfl, e1', e2'⟩
          have e1' : vs8[z]? = some y1' := e1'
          have e2' : xs[z]? = some y2' := e2'
          obtain ⟨dm, hdm, jm⟩ := hvs'.get e1'
          obtain ⟨m0, hm0⟩ : ∃ m0, ps[z]? = some m0 := ⟨_, List.getElem?_eq_getElem (by omega)⟩
          rw [List.getElem?_map, hm0] at hdm
          obtain rfl : dFr m0 = dm := Option.some.inj hdm
          obtain ⟨dp, hdp, jp⟩ := hxs.get e2'
          have hpart := part_is W k1 hq hz ql (hcol z hz) hr
          rw [List.getElem?_map, hpart] at hdp
          obtain rfl : dFr (low ((r[z]?).getD 0) S0) = dp := Option.some.inj hdp
          obtain ⟨xr, hxr⟩ : ∃ xr, r[z]? = some xr := ⟨_, List.getElem?_eq_getElem (by omega)⟩
          have egd : (r[z]?).getD 0 = xr := by rw [hxr]; rfl
          rw [egd] at jp
          have xr0 := r0 xr (List.mem_of_getElem? hxr)
          have xrs : xr ≤ S0 := by
            rw [← rs]
            exact le_sumJ r xr r0 (List.mem_of_getElem? hxr)
          obtain ⟨hok, hpos, due'⟩ := due1 po1 S0p due hm0 hxr
          obtain ⟨fb1, fb2⟩ := dueB po1 (moo_lcm pm n6) S0p S27 due r0 rs
          have mm := pm m0 (List.mem_of_getElem? hm0)
          have mmp := mm.ok.p
          have mmt := mm.t
          have mmb := mm.b
          have m1b : m0.1.natAbs < 2 ^ 30 := by omega
          have m2b : m0.2.natAbs < 2 ^ 20 := by omega
          obtain ⟨c1, c2', c3⟩ := low_small (t := xr) S0p
          have S0n := natB S0p S27
          have p1b : (low xr S0).1.natAbs < 2 ^ 2700 := by omega
          have p2b : (low xr S0).2.natAbs < 2 ^ 2700 := by omega
          have sT : Same G5 (upd G5 T' (.tup [y1', y2'])) := same_upd hT
          have s46 := s5.trans sT
          have jm := Im.mono (Same.tups (s0.trans s46)) _ _ jm
          have jp := Im.mono (Same.tups (s0.trans s46)) _ _ jp
          refine ⟨T', _, rfl, SqT.of upd_same, rfl, _, _, rfl, _, _, rfl, rfl, ?_⟩
          dsimp only [List.set]
          have ihv := Im.mono (Same.tups sT) _ _ ihv
          generalize upd G5 T' (.tup [y1', y2']) = G7 at sT s46 jm jp ihv ⊢
          obtain ⟨ma, rfl, hma⟩ := im_fr jm
          obtain ⟨pa, rfl, hpa⟩ := im_fr jp
          refine ⟨_, rfl, _, rfl, ma, _, _, _, rfl, rfl, hma.sq, rfl, _, rfl, pa, _, _, _, rfl, rfl, hpa.sq, rfl, _, _, rfl, rfl, mulW m1b p1b (by decide) (by decide) (by decide), _, rfl, ma, _, _, _, rfl, rfl, hma.sq, rfl, _, rfl, pa, _, _, _, rfl, rfl, hpa.sq, rfl, _, _, rfl, rfl, mulW m2b p2b (by decide) (by decide) (by decide), ?_⟩
          refine ⟨_, _, rfl, hpos, Nat.lt_of_lt_of_le (lg (mulB m2b p2b) (by decide)) (by decide), fun G8 p8 s8 n8 im8' => ?_⟩
          obtain ⟨d1', d2', d3'⟩ := low_small (t := m0.1 * (low xr S0).1) hpos
          have b1' := mulB m1b p1b
          have b2' := mulB m2b p2b
          refine ⟨hv, .ref p8, fh, _, rfl, Im.mono (Same.tups s8) _ _ ihv, im8', due.ok.p, hok.p, fb1, fb2, Nat.lt_of_le_of_lt d3' (upB b1' (by decide)), Nat.lt_of_le_of_lt d2' (upB b2' (by decide)), fun G9 p9 s9 n9 im9' => ?_⟩
          exact ⟨_, _, _, _, rfl, s46.trans (s8.trans s9), im9', due'⟩
        · rintro σ G5 ⟨hv, v22, v23, fh, rfl, s5, ihv, due⟩
          obtain ⟨acc0, hDU', ivU, sGU⟩ := id hI
          have s05 := s0.trans s5
          have ef := dueE po1 S0p due pl rl' rs
          obtain ⟨acc, hacc, sm, hI'⟩ := ivs1 nDU hI s05 ihv (by rw [dl]; omega) (by rw [List.getElem?_map, k4, List.getElem?_map, hr, ef]; rfl)
          refine ⟨_, rfl, .inl ⟨rfl, _, SqL.of (s05 _ _ hDU')⟩, _, rfl, DU, acc, hv, rfl, rfl, hacc, sm, _, _, _, _, rfl, hI', fun b o nb e => ?_⟩
          rw [upd_ne nb]
          exact s05 _ _ (hk b o nb e)
      · rintro σ GF ⟨v20, v21, v22, v23, rfl, hI, hk⟩
        rw [usl] at hI
        obtain ⟨dvs, sGU, hDU, ivD⟩ := ivsE hI dl
        have e1 := e1.same sGU
        have e2 := e2.same sGU
        have e3 := e3.same sGU
        have hpdF := hpdG.same sGU
        have hvsF := ImAll.mono (Same.tups sGU) _ _ hvsG
        have hRF := sGU _ _ hRG
        have bF := bG.trans (But.of sGU)
        clear hI hk hpd3 hvs3 s0G3 nLD hDU3 i0U s03 hL3 iR s7 hD6' iv6 s6 h2 hD6 hpdG hvsG hpG hbG ibG hRG bG sGU nDU sU
        obtain ⟨dx1, sa1, hy1⟩ := e1.ins
        obtain ⟨dx2, sa2, hy2⟩ := e2.ins
        obtain ⟨dx3, sa3, hy3⟩ := e3.ins
        have lb1 := later_b W r6 po1 pb1 pl
        have lb2 := later_b W r6 po2 pb2 al
        have L2 : (laterF ws (ps.map (affF a u)) road).length = ms.length := by
          have := (later_facts W r6 po2 pb2 al (Nat.le_refl _)).2.2
          rwa [List.take_length] at this
        have sh1 := shw_frsJ (fun f hf => (lb1 f hf).2) (by omega)
        have sh2 := shw_frsJ (fun f hf => (lb2 f hf).2) (by omega)
        refine ⟨_, rfl, y1, dx1, _, rfl, hy1, y1, x1, _, _, tv1, ms, ws, _, _, rfl, e1, ?_⟩
        refine ⟨_, _, rfl, Vw.of (Im.dp _ _ e1.im) sh1, ?_⟩
        refine ⟨_, rfl, DU, dvs, rfl, .inl ⟨SqL.of hDU, fun pt npt => ?_⟩⟩
        have sT : Same GF (upd GF pt (.tup dvs)) := same_upd npt
        have imT : Im (upd GF pt (.tup dvs)) (.ref pt) (dFrs (laterF ws ps road)) := .tup Tu.up (ImAll.mono (TupS.new npt) _ _ ivD)
        generalize upd GF pt (.tup dvs) = HF at sT imT ⊢
        refine ⟨_, _, rfl, Vw.of (Im.dp _ _ imT) sh1, rfl, _, rfl, ?_⟩
        rw [decide_eq_true rfl]
        refine iteF ?_
        have e1 := e1.same sT
        have e2 := e2.same sT
        have e3 := e3.same sT
        have hpdH := hpdF.same sT
        have hvsH := ImAll.mono (Same.tups sT) _ _ hvsF
        have hDUH := sT _ _ hDU
        have ivH := ImAll.mono (Same.tups sT) _ _ ivD
        have hRH := sT _ _ hRF
        have bH := bF.trans (But.of sT)
        clear imT hDU ivD hpdF hvsF hRF bF
        refine ⟨_, rfl, y3, dx3, _, rfl, sT _ _ hy3, y3, x1, _, _, tv3, ms, ws, _, _, rfl, e3, ?_⟩
        refine ⟨_, rfl, pd, _, _, _, rfl, rfl, hpdH.sq, atI_nat (j := 0) hv0, by show 1 ≤ sizeLine; decide, fun p1 np1 => ⟨_, rfl, ?_⟩⟩
        have s20 : Same HF (upd HF p1 (.tup [v0])) := same_upd np1
        refine repTu2 (n := ms.length) (Tu.up (xs := [v0])) (Nat.le_refl 1) (by show 1 ≤ 100; decide) m1 (by omega) fun p2 H12 s13 hp2 => ?_
        rw [List.flatten_replicate_singleton] at hp2
        have s20 := s20.trans s13
        obtain ⟨d0', hd0', i0'⟩ := hvsH.get hv0
        rw [List.getElem?_map, hf0] at hd0'
        obtain rfl : dFr f0 = d0' := Option.some.inj hd0'
        have ip2 : Im H12 (.ref p2) (dFrs (List.replicate ms.length f0)) := by
          refine .tup hp2 ?_
          rw [List.map_replicate]
          exact imRep (Im.mono (Same.tups s20) _ _ i0') _
        refine ⟨_, _, Im.dp _ _ (Im.mono (Same.tups s20) _ _ e3.im), Im.dp _ _ ip2, frs_shaped _, frs_shaped _, ?_⟩
        rw [eqv_dFrs, later_flat W po3 (pow_up pb3 (by decide)), decide_eq_true rfl]
        refine ⟨_, rfl, iteF ?_⟩
        have e1 := e1.same s20
        have e2 := e2.same s20
        have hpdF := hpdH.same s20
        have hvsF := ImAll.mono (Same.tups s20) _ _ hvsH
        have hDUF := s20 _ _ hDUH
        have ivF := ImAll.mono (Same.tups s20) _ _ ivH
        have bF := bH.trans (But.of s20)
        refine ⟨_, rfl, y1, dx1, _, rfl, s20 _ _ (sT _ _ hy1), y1, x1, _, _, tv1, ms, ws, _, _, rfl, e1, ?_⟩
        refine ⟨_, rfl, DR, _, rfl, .inl (SqL.of (s20 _ _ hRH)), rfl, _, rfl, ?_⟩
        rw [List.length_map, decide_eq_true rfl]
        refine iteF ?_
        have hy2 := s20 _ _ (sT _ _ hy2)
        clear hpdH hvsH hDUH ivH hRH bH s20 s13 hp2 ip2 np1 sT hy1 hy3 e1 e3 i0'
        refine ⟨_, rfl, DU, rfl, ⟨_, SqL.of hDUF⟩, fun D1 hD1 => ?_⟩
        refine lc_list (K := K) (a := DU) (xs := dvs) (fun i G => Same H12 G ∧ G D1 = some (.lst [])) ⟨same_upd hD1, upd_same⟩ (fun i G _ h => SqL.of (h.1 _ _ hDUF)) ?_ (fun G h => ?_)
        · rintro i ev G hx ⟨s21, hD1'⟩
          obtain ⟨de, hde, je⟩ := ivF.get hx
          obtain ⟨e, he⟩ : ∃ e, (laterF ws ps road)[i]? = some e := ⟨_, List.getElem?_eq_getElem (by
            have := (List.getElem?_eq_some_iff.mp hx).1
            have := ivF.length
            omega)⟩
          rw [List.getElem?_map, he] at hde
          obtain rfl : dFr e = de := Option.some.inj hde
          have eb := lb1 e (List.mem_of_getElem? he)
          have bet : (∃ m ∈ ps, lessB e m = false) ∧ ∃ m ∈ ps, lessB m e = false := by
            rw [k4, List.getElem?_map] at he
            cases hr : (rowsF ms.length ws road)[i]? with
            | none => rw [hr] at he; cases he
            | some r =>
              rw [hr] at he
              obtain ⟨w1', w2', w3'⟩ := k1.r r (List.mem_of_getElem? hr)
              have ee : meanF (lcmB ps) ps r = e := Option.some.inj he
              rw [← ee]
              exact mean_in po1 pl m1 w1' w2' w3' S0p
          refine ⟨rfl, ?_⟩
          refine ⟨_, rfl, pd, rfl, ⟨_, (hpdF.same s21).sq⟩, fun D2 hD2 => ?_⟩
          have nD : D2 ≠ D1 := fun z => by rw [z, hD1'] at hD2; cases hD2
          refine lc_it (walk_tup (K := K) (a := pd) (xs := vs8)) (fun z G1 => Same G G1 ∧ ∃ us, G1 D2 = some (.lst us) ∧ ImAll G1 us (((ps.take z).filter fun m => !(lessB e m)).map dFr)) ⟨same_upd hD2, [], upd_same, .nil⟩ (fun z G1 _ h => ((hpdF.same s21).same h.1).sq) ?_ (fun G1 h1 => ?_)
          · rintro z mv _ G1 hz ⟨s22, us, hus, ius⟩ ⟨rfl, hy⟩
            obtain ⟨dm, hdm, jm⟩ := hvsF.get hy
            obtain ⟨m, hm⟩ : ∃ m, ps[z]? = some m := ⟨_, List.getElem?_eq_getElem (by omega)⟩
            rw [List.getElem?_map, hm] at hdm
            obtain rfl : dFr m = dm := Option.some.inj hdm
            have mm := pm m (List.mem_of_getElem? hm)
            have mmp := mm.ok.p
            have mmt := mm.t
            have mmb := mm.b
            have mb1 : m.1.natAbs < 2 ^ 30 := by omega
            have mb2 : m.2.natAbs < 2 ^ 20 := by omega
            have je2 := Im.mono (Same.tups (s21.trans s22)) _ _ je
            have jm2 := Im.mono (Same.tups (s21.trans s22)) _ _ jm
            have tk : (ps.take (z + 1)).filter (fun m => !(lessB e m)) = (ps.take z).filter (fun m => !(lessB e m)) ++ if (!(lessB e m)) = true then [m] else [] := by
              rw [List.take_succ, hm, List.filter_append]
              exact congrArg _ (fil_oneJ (fun m => !(lessB e m)) m)
            refine ⟨rfl, ?_⟩
            refine ⟨_, rfl, _, rfl, ev, mv, e, m, rfl, je2, jm2, upB eb.2.1 (by decide), upB eb.2.2 (by decide), upB mb1 (by decide), upB mb2 (by decide), _, rfl, ?_⟩
            refine ite2 (fun c => ?_) (fun c => ?_)
            · rw [if_pos c] at tk
              have ul : us.length ≤ 6 := by
                rw [ius.length, List.length_map]
                have := List.length_filter_le (fun m => !(lessB e m)) (ps.take z)
                rw [List.length_take] at this
                omega
              refine ⟨_, rfl, us, hus, small1000 (by omega), fun b o q => ?_, us ++ [mv], upd_same, ?_⟩
              · rw [upd_ne (ne_of_none q hD2)]
                exact s22 _ _ q
              · rw [tk, List.map_append]
                exact ImAll.mono (TupS.lst hus) _ _ (ImAll.snoc jm2 ius)
            · rw [if_neg c, List.append_nil] at tk
              exact ⟨s22, us, hus, by rw [tk]; exact ius⟩
          · obtain ⟨s22, us, hus, ius⟩ := h1
            rw [List.take_of_length_le (by omega)] at ius
            refine ⟨by show 0 ≤ sizeLine; decide, fun D3 hD3 => ?_⟩
            have s23 : Same G1 (upd G1 D3 (.lst [])) := same_upd hD3
            refine ⟨.list ((ps.filter fun m => !(lessB e m)).map dFr), .list [], .lst (SqL.of (s23 _ _ hus)) (ImAll.dp _ _ (ImAll.mono (Same.tups s23) _ _ ius)), .lst (SqL.of upd_same) .nil, frl_shaped _, by decide +kernel, ?_⟩
            have ne : ps.filter (fun m => !(lessB e m)) ≠ [] := fun z => by
              obtain ⟨m, hm, hl⟩ := bet.1
              have := List.filter_eq_nil_iff.mp z m hm
              rw [hl] at this
              exact this rfl
            rw [eqv_lnil ne]
            refine ⟨_, rfl, iteF ⟨s21.trans (s22.trans s23), ?_⟩⟩
            exact s23 _ _ (s22 _ _ hD1')
        obtain ⟨s21, hD1'⟩ := h
        refine ⟨by show 0 ≤ sizeLine; decide, fun D3 hD3 => ?_⟩
        have s23 : Same G (upd G D3 (.lst [])) := same_upd hD3
        refine ⟨.list [], .list [], .lst (SqL.of (s23 _ _ hD1')) .nil, .lst (SqL.of upd_same) .nil, by decide +kernel, by decide +kernel, ?_⟩
        rw [eqv_nilnil]
        refine ⟨_, rfl, iteF ?_⟩
        have sC := s21.trans s23
        have e2 := e2.same sC
        have hpdF := hpdF.same sC
        have hvsF := ImAll.mono (Same.tups sC) _ _ hvsF
        have hDUF := sC _ _ hDUF
        have ivF := ImAll.mono (Same.tups sC) _ _ ivF
        have bF := bF.trans (But.of sC)
        have hy2 := sC _ _ hy2
        clear hD1' s21 s23 hD3 hD1 sC
        generalize upd G D3 (.lst []) = H12 at e2 hpdF hvsF hDUF ivF bF hy2 ⊢
        refine ⟨_, rfl, DU, rfl, ⟨_, SqL.of hDUF⟩, fun D1 hD1 => ?_⟩
        refine lc_list (K := K) (a := DU) (xs := dvs) (fun i G => Same H12 G ∧ G D1 = some (.lst [])) ⟨same_upd hD1, upd_same⟩ (fun i G _ h => SqL.of (h.1 _ _ hDUF)) ?_ (fun G h => ?_)
        · rintro i ev G hx ⟨s21, hD1'⟩
          obtain ⟨de, hde, je⟩ := ivF.get hx
          obtain ⟨e, he⟩ : ∃ e, (laterF ws ps road)[i]? = some e := ⟨_, List.getElem?_eq_getElem (by
            have := (List.getElem?_eq_some_iff.mp hx).1
            have := ivF.length
            omega)⟩
          rw [List.getElem?_map, he] at hde
          obtain rfl : dFr e = de := Option.some.inj hde
          have eb := lb1 e (List.mem_of_getElem? he)
          have bet : (∃ m ∈ ps, lessB e m = false) ∧ ∃ m ∈ ps, lessB m e = false := by
            rw [k4, List.getElem?_map] at he
            cases hr : (rowsF ms.length ws road)[i]? with
            | none => rw [hr] at he; cases he
            | some r =>
              rw [hr] at he
              obtain ⟨w1', w2', w3'⟩ := k1.r r (List.mem_of_getElem? hr)
              have ee : meanF (lcmB ps) ps r = e := Option.some.inj he
              rw [← ee]
              exact mean_in po1 pl m1 w1' w2' w3' S0p
          refine ⟨rfl, ?_⟩
          refine ⟨_, rfl, pd, rfl, ⟨_, (hpdF.same s21).sq⟩, fun D2 hD2 => ?_⟩
          have nD : D2 ≠ D1 := fun z => by rw [z, hD1'] at hD2; cases hD2
          refine lc_it (walk_tup (K := K) (a := pd) (xs := vs8)) (fun z G1 => Same G G1 ∧ ∃ us, G1 D2 = some (.lst us) ∧ ImAll G1 us (((ps.take z).filter fun m => !(lessB m e)).map dFr)) ⟨same_upd hD2, [], upd_same, .nil⟩ (fun z G1 _ h => ((hpdF.same s21).same h.1).sq) ?_ (fun G1 h1 => ?_)
          · rintro z mv _ G1 hz ⟨s22, us, hus, ius⟩ ⟨rfl, hy⟩
            obtain ⟨dm, hdm, jm⟩ := hvsF.get hy
            obtain ⟨m, hm⟩ : ∃ m, ps[z]? = some m := ⟨_, List.getElem?_eq_getElem (by omega)⟩
            rw [List.getElem?_map, hm] at hdm
            obtain rfl : dFr m = dm := Option.some.inj hdm
            have mm := pm m (List.mem_of_getElem? hm)
            have mmp := mm.ok.p
            have mmt := mm.t
            have mmb := mm.b
            have mb1 : m.1.natAbs < 2 ^ 30 := by omega
            have mb2 : m.2.natAbs < 2 ^ 20 := by omega
            have je2 := Im.mono (Same.tups (s21.trans s22)) _ _ je
            have jm2 := Im.mono (Same.tups (s21.trans s22)) _ _ jm
            have tk : (ps.take (z + 1)).filter (fun m => !(lessB m e)) = (ps.take z).filter (fun m => !(lessB m e)) ++ if (!(lessB m e)) = true then [m] else [] := by
              rw [List.take_succ, hm, List.filter_append]
              exact congrArg _ (fil_oneJ (fun m => !(lessB m e)) m)
            refine ⟨rfl, ?_⟩
            refine ⟨_, rfl, _, rfl, mv, ev, m, e, rfl, jm2, je2, upB mb1 (by decide), upB mb2 (by decide), upB eb.2.1 (by decide), upB eb.2.2 (by decide), _, rfl, ?_⟩
            refine ite2 (fun c => ?_) (fun c => ?_)
            · rw [if_pos c] at tk
              have ul : us.length ≤ 6 := by
                rw [ius.length, List.length_map]
                have := List.length_filter_le (fun m => !(lessB m e)) (ps.take z)
                rw [List.length_take] at this
                omega
              refine ⟨_, rfl, us, hus, small1000 (by omega), fun b o q => ?_, us ++ [mv], upd_same, ?_⟩
              · rw [upd_ne (ne_of_none q hD2)]
                exact s22 _ _ q
              · rw [tk, List.map_append]
                exact ImAll.mono (TupS.lst hus) _ _ (ImAll.snoc jm2 ius)
            · rw [if_neg c, List.append_nil] at tk
              exact ⟨s22, us, hus, by rw [tk]; exact ius⟩
          · obtain ⟨s22, us, hus, ius⟩ := h1
            rw [List.take_of_length_le (by omega)] at ius
            refine ⟨by show 0 ≤ sizeLine; decide, fun D3 hD3 => ?_⟩
            have s23 : Same G1 (upd G1 D3 (.lst [])) := same_upd hD3
            refine ⟨.list ((ps.filter fun m => !(lessB m e)).map dFr), .list [], .lst (SqL.of (s23 _ _ hus)) (ImAll.dp _ _ (ImAll.mono (Same.tups s23) _ _ ius)), .lst (SqL.of upd_same) .nil, frl_shaped _, by decide +kernel, ?_⟩
            have ne : ps.filter (fun m => !(lessB m e)) ≠ [] := fun z => by
              obtain ⟨m, hm, hl⟩ := bet.2
              have := List.filter_eq_nil_iff.mp z m hm
              rw [hl] at this
              exact this rfl
            rw [eqv_lnil ne]
            refine ⟨_, rfl, iteF ⟨s21.trans (s22.trans s23), ?_⟩⟩
            exact s23 _ _ (s22 _ _ hD1')
        obtain ⟨s21, hD1'⟩ := h
        refine ⟨by show 0 ≤ sizeLine; decide, fun D3 hD3 => ?_⟩
        have s23 : Same G (upd G D3 (.lst [])) := same_upd hD3
        refine ⟨.list [], .list [], .lst (SqL.of (s23 _ _ hD1')) .nil, .lst (SqL.of upd_same) .nil, by decide +kernel, by decide +kernel, ?_⟩
        rw [eqv_nilnil]
        refine ⟨_, rfl, iteF ?_⟩
        have sC := s21.trans s23
        have e2 := e2.same sC
        have hpdF := hpdF.same sC
        have hvsF := ImAll.mono (Same.tups sC) _ _ hvsF
        have hDUF := sC _ _ hDUF
        have ivF := ImAll.mono (Same.tups sC) _ _ ivF
        have bF := bF.trans (But.of sC)
        have hy2 := sC _ _ hy2
        clear hD1' s21 s23 hD3 hD1 sC
        generalize upd G D3 (.lst []) = H12 at e2 hpdF hvsF hDUF ivF bF hy2 ⊢
        have affD2 : (((laterF ws ps road).map (affF a u)).map dFr).length = ms.length := by rw [List.length_map, List.length_map, Ll]
        have dvl : dvs.length = ms.length := by rw [ivF.length, dl]
        refine ⟨_, rfl, DU, rfl, ⟨_, SqL.of hDUF⟩, fun D5 hD5 => ?_⟩
        refine lc_list (K := K) (a := DU) (xs := dvs) (IvS H12 D5 (((laterF ws ps road).map (affF a u)).map dFr)) (ivs0 hD5) (fun i G _ ⟨_, _, _, s'⟩ => SqL.of (s' _ _ hDUF)) ?_ (fun G h => ?_)
        · rintro i x G hx h
          obtain ⟨de, hde, je⟩ := ivF.get hx
          obtain ⟨e, he⟩ : ∃ e, (laterF ws ps road)[i]? = some e := ⟨_, List.getElem?_eq_getElem (by
            have := (List.getElem?_eq_some_iff.mp hx).1
            omega)⟩
          rw [List.getElem?_map, he] at hde
          obtain rfl : dFr e = de := Option.some.inj hde
          obtain ⟨eo, f1b, f2b⟩ := lb1 e (List.mem_of_getElem? he)
          have fp := eo.p
          obtain ⟨vs', hD', iv', sG⟩ := id h
          obtain ⟨fa, rfl, hfa⟩ := im_fr (Im.mono (Same.tups sG) _ _ je)
          refine ⟨fa, _, rfl, hfa.sq, rfl, _, _, rfl, _, _, rfl, rfl, rfl, turnY ?_⟩
          refine ⟨_, rfl, _, rfl, _, _, rfl, rfl, mulW ab f1b (by decide) (by decide) (by decide), _, rfl, _, _, rfl, rfl, mulW (mulB ab f1b) u2b (by decide) (by decide) (by decide), _, rfl, _, rfl, _, _, rfl, rfl, mulW u1b f2b (by decide) (by decide) (by decide), _, _, rfl, rfl, _, rfl, _, rfl, _, _, rfl, rfl, mulW f2b u2b (by decide) (by decide) (by decide), ?_⟩
          refine ⟨_, _, rfl, Int.mul_pos fp up, Nat.lt_of_lt_of_le (lg (mulB f2b u2b) (by decide)) (by decide), fun G2 p2 s2 n2 im2 => ?_⟩
          exact ivs1 hD5 h s2 im2 (by rw [affD2]; omega) (by rw [List.getElem?_map, List.getElem?_map, he]; rfl)
        obtain ⟨vs', sG, hD', iv'⟩ := ivsE h (by rw [affD2, dvl])
        refine ⟨D5, vs', rfl, .inl ⟨SqL.of hD', fun po' npo => ?_⟩⟩
        have s9 : Same H12 (upd G po' (.tup vs')) := sG.trans (same_upd npo)
        have io' : Im (upd G po' (.tup vs')) (.ref po') (dFrs ((laterF ws ps road).map (affF a u))) := .tup Tu.up (ImAll.mono (TupS.new npo) _ _ iv')
        rw [← later_aff W pm n6 ha' um pl] at io'
        generalize upd G po' (.tup vs') = HZ at s9 io' ⊢
        have e2 := e2.same s9
        refine ⟨_, rfl, y2, dx2, _, rfl, s9 _ _ hy2, y2, x1, _, _, tv2, ms, ws, _, _, rfl, e2, ?_⟩
        refine ⟨_, _, rfl, Vw.of (Im.dp _ _ e2.im) sh2, ?_⟩
        refine ⟨_, rfl, _, _, rfl, Vw.of (Im.dp _ _ io') sh2, rfl, ?_⟩
        rw [decide_eq_true rfl]
        exact k _ (bF.trans (But.of s9))
theorem ok_law {f : Addr} {fd : FuncData} (F : Fun K "law" "law" sLaw f fd) (T : Bt mg) (DCe : DefX P w K mg base 1 "_law_cell" pCel (spCel K)) (DW : DefX P w K mg base 1 "_law_well" pWel spWel) (DR : DefG P w K mg base 13 "_law_right" pR63 spR63) : FnG P w K mg base CX0 15 f fd pLaw (spLaw K) := by
  refine fnG0 F scLaw (fun vs H Q E h => ?_) (fun cdv A outer s H vs Q E hg hr h => ?_)
  · obtain ⟨a, ns, rfl, _⟩ := h
    rfl
  · obtain ⟨a, ns, rfl, hS, hlen, k⟩ := h
    refine ⟨_, (pss_one (ps_ret (pe_cmpR (eqD K hr.units) (pe_lc (own := [("_law_k", 1)]) (g := gName 1) rfl scLaw.nd (pi_range1 rfl T.range (pa_cons (pe_callB (call_max2 rfl) (by rfl) T.max (by decide +kernel) (pa_cons pe_int (pa_cons (pe_callB (call_min2 rfl) (by rfl) T.min (by decide +kernel) (pa_cons (pe_callB (lenQ K) (by rfl) T.len (by decide +kernel) (pa_cons (pv 0) pa_nil)) (pa_cons pe_int pa_nil))) pa_nil))) pa_nil)) (blkOk_by (own := [("_law_k", 1)]) (N := nLaw) (sc := defScope sLaw) (by decide +kernel)) (fun _ _ _ _ _ => (pg_name (i := 1) scLaw.nd rfl (Or.inl rfl))) (fun _ _ _ _ _ => (pts_one (pt_not (pt_val (pe_fnG DR hg hr (by decide) (pa_cons (pe_fn DW hr (by decide) (pa_cons (pe_fn DCe hr (by decide) (pa_cons (pv 0) (pa_cons (pv 1) pa_nil))) pa_nil)) pa_nil))))))
          (fun _ _ _ _ _ => (pv 1))) (pe_lst pa_nil) (nomark _)))), ?_⟩
    obtain ⟨n, hn5, hn⟩ : ∃ n : Nat, n ≤ 4 ∧ (if (if (4 : Int) < (ns.map V.int).length then (4 : Int) else (ns.map V.int).length) > 2 then (if (4 : Int) < (ns.map V.int).length then (4 : Int) else (ns.map V.int).length) else 2) = (n : Int) := by
      generalize (ns.map V.int).length = m
      by_cases h4 : (4 : Int) < m
      · refine ⟨4, by decide, ?_⟩
        rw [if_pos h4, if_pos (by decide)]; rfl
      · rw [if_neg h4]
        by_cases h2 : (m : Int) > 2
        · exact ⟨m, by omega, by rw [if_pos h2]⟩
        · exact ⟨2, by decide, by rw [if_neg h2]; rfl⟩
    refine ⟨_, rfl, a, _, rfl, .inl hS, _, _, rfl, _, _, rfl, n, by rw [hn], by omega, by omega, fun D hD => ?_⟩
    rw [Int.toNat_natCast]
    refine lc_range (lo := 0) (n := n) (fun i G => Same H G ∧ G D = some (.lst [])) ⟨same_upd hD, upd_same⟩ ?_ (fun G h => ?_)
    · rintro i G hi ⟨s1, hD1⟩
      refine ⟨rfl, ?_⟩
      refine ⟨_, rfl, _, rfl, a, ns, i, by show [V.ref a, V.int (0 + (i : Int))] = _; rw [Int.zero_add], s1.seq hS, hlen, fun H2 z s2 => ?_⟩
      refine ⟨z, rfl, fun H3 j s3 nj J3 => ?_⟩
      refine ⟨j, rfl, J3, fun H4 b4 => ⟨_, rfl, iteF ⟨fun b o e => ?_, ?_⟩⟩⟩
      · have e1 := s2 _ _ (s1 b o e)
        exact b4 b o (ne_of_none e1 nj) (s3 _ _ e1)
      · have e1 := s2 _ _ hD1
        exact b4 D _ (ne_of_none e1 nj) (s3 _ _ e1)
    · obtain ⟨s1, hD1⟩ := h
      refine ⟨by show 0 ≤ sizeLine; decide, fun D3 hD3 => ?_⟩
      refine ⟨.list [], .list [], .lst (SqL.of (same_upd hD3 _ _ hD1)) .nil, .lst (SqL.of upd_same) .nil, by decide +kernel, by decide +kernel, ?_⟩
      rw [eqv_nilnil]
      exact k _
end
end M

namespace M
open PySem L2 U
abbrev sCWy : Stmt := inClass (top 32) 3
abbrev nCWy : List Str := ["self"]
abbrev pCWy : List Str := ["self"]
theorem scCWy : FnScope nCWy pCWy (defScope sCWy) := ⟨rfl, rfl, rfl, by decide +kernel, rfl, by decide +kernel, by decide +kernel⟩
theorem kit_self' (K : PySem.W.Frag) (C : Addr) : PySem.W.kitOne K (.ref C) (.ref C) = some true := by
  unfold PySem.W.kitOne
  rw [if_pos (beq_iff_eq.mpr rfl)]
theorem vals_rev : ∀ {vs : List V} {us : List Value}, Vals vs us → Vals vs.reverse us.reverse
  | _, _, .nil => .nil
  | _, _, .cons r1 rr => by
    rw [List.reverse_cons, List.reverse_cons]
    exact (vals_rev rr).append (.cons r1 .nil)
theorem all_mk {l : PySem.W.OpenLaw} {w : World} {K : PySem.W.Frag} {h : Heap} {mg : Str → Option Value} {fa : Addr} (X : K.In h) (G : h.Ns mainGlobals mg) (hfa : mg "law" = some (.ref fa))
    {fInt : Addr} {odInt anInt : Option Addr} {slInt : Array (Option Value)} {ocInt kVInt dcInt pmInt cdInt ctInt : Value}
    {fIdx : Addr} {odIdx anIdx : Option Addr} {slIdx : Array (Option Value)} {ocIdx kVIdx dcIdx pmIdx cdIdx ctIdx : Value}
    {fName : Addr} {odName anName : Option Addr} {slName : Array (Option Value)} {ocName kVName dcName pmName cdName ctName : Value}
    {fFra : Addr} {odFra anFra : Option Addr} {slFra : Array (Option Value)} {ocFra kVFra dcFra pmFra cdFra ctFra : Value}
    {fWgt : Addr} {odWgt anWgt : Option Addr} {slWgt : Array (Option Value)} {ocWgt kVWgt dcWgt pmWgt cdWgt ctWgt : Value}
    {fRoww : Addr} {odRoww anRoww : Option Addr} {slRoww : Array (Option Value)} {ocRoww kVRoww dcRoww pmRoww cdRoww ctRoww : Value}
    {fWay : Addr} {odWay anWay : Option Addr} {slWay : Array (Option Value)} {ocWay kVWay dcWay pmWay cdWay ctWay : Value}
    {fCMi : Addr} {odCMi anCMi : Option Addr} {slCMi : Array (Option Value)} {ocCMi kVCMi dcCMi pmCMi cdCMi ctCMi : Value}
    {fCWa : Addr} {odCWa anCWa : Option Addr} {slCWa : Array (Option Value)} {ocCWa kVCWa dcCWa pmCWa cdCWa ctCWa : Value}
    {fCkC : Addr} {odCkC anCkC : Option Addr} {slCkC : Array (Option Value)} {ocCkC kVCkC dcCkC pmCkC cdCkC ctCkC : Value}
    {fCkW : Addr} {odCkW anCkW : Option Addr} {slCkW : Array (Option Value)} {ocCkW kVCkW dcCkW pmCkW cdCkW ctCkW : Value}
    {fCkF : Addr} {odCkF anCkF : Option Addr} {slCkF : Array (Option Value)} {ocCkF kVCkF dcCkF pmCkF cdCkF ctCkF : Value}
    {fCkT : Addr} {odCkT anCkT : Option Addr} {slCkT : Array (Option Value)} {ocCkT kVCkT dcCkT pmCkT cdCkT ctCkT : Value}
    {fLws : Addr} {odLws anLws : Option Addr} {slLws : Array (Option Value)} {ocLws kVLws dcLws pmLws cdLws ctLws : Value}
    {fOob : Addr} {odOob anOob : Option Addr} {slOob : Array (Option Value)} {ocOob kVOob dcOob pmOob cdOob ctOob : Value}
    {fWgh : Addr} {odWgh anWgh : Option Addr} {slWgh : Array (Option Value)} {ocWgh kVWgh dcWgh pmWgh cdWgh ctWgh : Value}
    {fMno : Addr} {odMno anMno : Option Addr} {slMno : Array (Option Value)} {ocMno kVMno dcMno pmMno cdMno ctMno : Value}
    {fSpO : Addr} {odSpO anSpO : Option Addr} {slSpO : Array (Option Value)} {ocSpO kVSpO dcSpO pmSpO cdSpO ctSpO : Value}
    {fCel : Addr} {odCel anCel : Option Addr} {slCel : Array (Option Value)} {ocCel kVCel dcCel pmCel cdCel ctCel : Value}
    {fWel : Addr} {odWel anWel : Option Addr} {slWel : Array (Option Value)} {ocWel kVWel dcWel pmWel cdWel ctWel : Value}
    {fDp : Addr} {odDp anDp : Option Addr} {slDp : Array (Option Value)} {ocDp kVDp dcDp pmDp cdDp ctDp : Value}
    {fNms : Addr} {odNms anNms : Option Addr} {slNms : Array (Option Value)} {ocNms kVNms dcNms pmNms cdNms ctNms : Value}
    {fWei : Addr} {odWei anWei : Option Addr} {slWei : Array (Option Value)} {ocWei kVWei dcWei pmWei cdWei ctWei : Value}
    {fRw : Addr} {odRw anRw : Option Addr} {slRw : Array (Option Value)} {ocRw kVRw dcRw pmRw cdRw ctRw : Value}
    {fTa : Addr} {odTa anTa : Option Addr} {slTa : Array (Option Value)} {ocTa kVTa dcTa pmTa cdTa ctTa : Value}
    {fFo : Addr} {odFo anFo : Option Addr} {slFo : Array (Option Value)} {ocFo kVFo dcFo pmFo cdFo ctFo : Value}
    {fCut : Addr} {odCut anCut : Option Addr} {slCut : Array (Option Value)} {ocCut kVCut dcCut pmCut cdCut ctCut : Value}
    {fMoo : Addr} {odMoo anMoo : Option Addr} {slMoo : Array (Option Value)} {ocMoo kVMoo dcMoo pmMoo cdMoo ctMoo : Value}
    {fPlu : Addr} {odPlu anPlu : Option Addr} {slPlu : Array (Option Value)} {ocPlu kVPlu dcPlu pmPlu cdPlu ctPlu : Value}
    {fTmR : Addr} {odTmR anTmR : Option Addr} {slTmR : Array (Option Value)} {ocTmR kVTmR dcTmR pmTmR cdTmR ctTmR : Value}
    {fPts : Addr} {odPts anPts : Option Addr} {slPts : Array (Option Value)} {ocPts kVPts dcPts pmPts cdPts ctPts : Value}
    {fLes : Addr} {odLes anLes : Option Addr} {slLes : Array (Option Value)} {ocLes kVLes dcLes pmLes cdLes ctLes : Value}
    {fR63 : Addr} {odR63 anR63 : Option Addr} {slR63 : Array (Option Value)} {ocR63 kVR63 dcR63 pmR63 cdR63 ctR63 : Value}
    {fLaw : Addr} {odLaw anLaw : Option Addr} {slLaw : Array (Option Value)} {ocLaw kVLaw dcLaw pmLaw cdLaw ctLaw : Value}
    {cC : Addr}
    {fCIn : Addr} {odCIn anCIn : Option Addr} {slCIn : Array (Option Value)} {ocCIn kVCIn dcCIn pmCIn cdCIn ctCIn : Value}
    {fCLe : Addr} {odCLe anCLe : Option Addr} {slCLe : Array (Option Value)} {ocCLe kVCLe dcCLe pmCLe cdCLe ctCLe : Value}
    {fCWy qCWy : Addr} {rCWy : List Value} {odCWy anCWy : Option Addr} {slCWy : Array (Option Value)} {ocCWy kVCWy dcCWy pmCWy cdCWy ctCWy : Value}
    {cS : Addr}
    {fSIn : Addr} {odSIn anSIn : Option Addr} {slSIn : Array (Option Value)} {ocSIn kVSIn dcSIn pmSIn cdSIn ctSIn : Value}
    {fSGo : Addr} {odSGo anSGo : Option Addr} {slSGo : Array (Option Value)} {ocSGo kVSGo dcSGo pmSGo cdSGo ctSGo : Value}
    {fSDy : Addr} {odSDy anSDy : Option Addr} {slSDy : Array (Option Value)} {ocSDy kVSDy dcSDy pmSDy cdSDy ctSDy : Value}
    {fSSp : Addr} {odSSp anSSp : Option Addr} {slSSp : Array (Option Value)} {ocSSp kVSSp dcSSp pmSSp cdSSp ctSSp : Value}
    {fSCo qSCo : Addr} {rSCo : List Value} {odSCo anSCo : Option Addr} {slSCo : Array (Option Value)} {ocSCo kVSCo dcSCo pmSCo cdSCo ctSCo : Value}
    {fSTh qSTh : Addr} {rSTh : List Value} {odSTh anSTh : Option Addr} {slSTh : Array (Option Value)} {ocSTh kVSTh dcSTh pmSTh cdSTh ctSTh : Value}
    {fSDa qSDa : Addr} {rSDa : List Value} {odSDa anSDa : Option Addr} {slSDa : Array (Option Value)} {ocSDa kVSDa dcSDa pmSDa cdSDa ctSDa : Value}
    {tLETTERS : Tok}
    {tLETTERS_AND_DIGITS : Tok}
    {tLONGEST_NAME : Tok}
    {tMOST_MINDS : Tok}
    {tMOST_WAYS : Tok}
    {tMOST_WEIGHT : Tok}
    (aInt : PySem.W.nsIn K mainGlobals "is_integer" = some (some (.ref fInt)))
    (lInt : K.lookup fInt = some ⟨ocInt, odInt, .func (PySem.W.fnOf "is_integer" "is_integer" (defArgs sInt) (defBody sInt) (defScope sInt) .none kVInt dcInt pmInt anInt cdInt ctInt), slInt⟩)
    (cInt : PySem.W.codeIn K cdInt "is_integer" = true)
    (kInt : PySem.W.keepIn K (.ref fInt) = true)
    (aIdx : PySem.W.nsIn K mainGlobals "is_index" = some (some (.ref fIdx)))
    (lIdx : K.lookup fIdx = some ⟨ocIdx, odIdx, .func (PySem.W.fnOf "is_index" "is_index" (defArgs sIdx) (defBody sIdx) (defScope sIdx) .none kVIdx dcIdx pmIdx anIdx cdIdx ctIdx), slIdx⟩)
    (cIdx : PySem.W.codeIn K cdIdx "is_index" = true)
    (kIdx : PySem.W.keepIn K (.ref fIdx) = true)
    (aName : PySem.W.nsIn K mainGlobals "is_name" = some (some (.ref fName)))
    (lName : K.lookup fName = some ⟨ocName, odName, .func (PySem.W.fnOf "is_name" "is_name" (defArgs sName) (defBody sName) (defScope sName) .none kVName dcName pmName anName cdName ctName), slName⟩)
    (cName : PySem.W.codeIn K cdName "is_name" = true)
    (kName : PySem.W.keepIn K (.ref fName) = true)
    (aFra : PySem.W.nsIn K mainGlobals "is_fraction" = some (some (.ref fFra)))
    (lFra : K.lookup fFra = some ⟨ocFra, odFra, .func (PySem.W.fnOf "is_fraction" "is_fraction" (defArgs sFra) (defBody sFra) (defScope sFra) .none kVFra dcFra pmFra anFra cdFra ctFra), slFra⟩)
    (cFra : PySem.W.codeIn K cdFra "is_fraction" = true)
    (kFra : PySem.W.keepIn K (.ref fFra) = true)
    (aWgt : PySem.W.nsIn K mainGlobals "is_weight" = some (some (.ref fWgt)))
    (lWgt : K.lookup fWgt = some ⟨ocWgt, odWgt, .func (PySem.W.fnOf "is_weight" "is_weight" (defArgs sWgt) (defBody sWgt) (defScope sWgt) .none kVWgt dcWgt pmWgt anWgt cdWgt ctWgt), slWgt⟩)
    (cWgt : PySem.W.codeIn K cdWgt "is_weight" = true)
    (kWgt : PySem.W.keepIn K (.ref fWgt) = true)
    (aRoww : PySem.W.nsIn K mainGlobals "is_row" = some (some (.ref fRoww)))
    (lRoww : K.lookup fRoww = some ⟨ocRoww, odRoww, .func (PySem.W.fnOf "is_row" "is_row" (defArgs sRoww) (defBody sRoww) (defScope sRoww) .none kVRoww dcRoww pmRoww anRoww cdRoww ctRoww), slRoww⟩)
    (cRoww : PySem.W.codeIn K cdRoww "is_row" = true)
    (kRoww : PySem.W.keepIn K (.ref fRoww) = true)
    (aWay : PySem.W.nsIn K mainGlobals "is_way" = some (some (.ref fWay)))
    (lWay : K.lookup fWay = some ⟨ocWay, odWay, .func (PySem.W.fnOf "is_way" "is_way" (defArgs sWay) (defBody sWay) (defScope sWay) .none kVWay dcWay pmWay anWay cdWay ctWay), slWay⟩)
    (cWay : PySem.W.codeIn K cdWay "is_way" = true)
    (kWay : PySem.W.keepIn K (.ref fWay) = true)
    (aCMi : PySem.W.nsIn K mainGlobals "check_minds" = some (some (.ref fCMi)))
    (lCMi : K.lookup fCMi = some ⟨ocCMi, odCMi, .func (PySem.W.fnOf "check_minds" "check_minds" (defArgs sCMi) (defBody sCMi) (defScope sCMi) .none kVCMi dcCMi pmCMi anCMi cdCMi ctCMi), slCMi⟩)
    (cCMi : PySem.W.codeIn K cdCMi "check_minds" = true)
    (kCMi : PySem.W.keepIn K (.ref fCMi) = true)
    (aCWa : PySem.W.nsIn K mainGlobals "check_ways" = some (some (.ref fCWa)))
    (lCWa : K.lookup fCWa = some ⟨ocCWa, odCWa, .func (PySem.W.fnOf "check_ways" "check_ways" (defArgs sCWa) (defBody sCWa) (defScope sCWa) .none kVCWa dcCWa pmCWa anCWa cdCWa ctCWa), slCWa⟩)
    (cCWa : PySem.W.codeIn K cdCWa "check_ways" = true)
    (kCWa : PySem.W.keepIn K (.ref fCWa) = true)
    (aCkC : PySem.W.nsIn K mainGlobals "check_council" = some (some (.ref fCkC)))
    (lCkC : K.lookup fCkC = some ⟨ocCkC, odCkC, .func (PySem.W.fnOf "check_council" "check_council" (defArgs sCkC) (defBody sCkC) (defScope sCkC) .none kVCkC dcCkC pmCkC anCkC cdCkC ctCkC), slCkC⟩)
    (cCkC : PySem.W.codeIn K cdCkC "check_council" = true)
    (kCkC : PySem.W.keepIn K (.ref fCkC) = true)
    (aCkW : PySem.W.nsIn K mainGlobals "check_way" = some (some (.ref fCkW)))
    (lCkW : K.lookup fCkW = some ⟨ocCkW, odCkW, .func (PySem.W.fnOf "check_way" "check_way" (defArgs sCkW) (defBody sCkW) (defScope sCkW) .none kVCkW dcCkW pmCkW anCkW cdCkW ctCkW), slCkW⟩)
    (cCkW : PySem.W.codeIn K cdCkW "check_way" = true)
    (kCkW : PySem.W.keepIn K (.ref fCkW) = true)
    (aCkF : PySem.W.nsIn K mainGlobals "check_fractions" = some (some (.ref fCkF)))
    (lCkF : K.lookup fCkF = some ⟨ocCkF, odCkF, .func (PySem.W.fnOf "check_fractions" "check_fractions" (defArgs sCkF) (defBody sCkF) (defScope sCkF) .none kVCkF dcCkF pmCkF anCkF cdCkF ctCkF), slCkF⟩)
    (cCkF : PySem.W.codeIn K cdCkF "check_fractions" = true)
    (kCkF : PySem.W.keepIn K (.ref fCkF) = true)
    (aCkT : PySem.W.nsIn K mainGlobals "check_thoughts" = some (some (.ref fCkT)))
    (lCkT : K.lookup fCkT = some ⟨ocCkT, odCkT, .func (PySem.W.fnOf "check_thoughts" "check_thoughts" (defArgs sCkT) (defBody sCkT) (defScope sCkT) .none kVCkT dcCkT pmCkT anCkT cdCkT ctCkT), slCkT⟩)
    (cCkT : PySem.W.codeIn K cdCkT "check_thoughts" = true)
    (kCkT : PySem.W.keepIn K (.ref fCkT) = true)
    (aLws : PySem.W.nsIn K mainGlobals "lowest" = some (some (.ref fLws)))
    (lLws : K.lookup fLws = some ⟨ocLws, odLws, .func (PySem.W.fnOf "lowest" "lowest" (defArgs sLws) (defBody sLws) (defScope sLws) .none kVLws dcLws pmLws anLws cdLws ctLws), slLws⟩)
    (cLws : PySem.W.codeIn K cdLws "lowest" = true)
    (kLws : PySem.W.keepIn K (.ref fLws) = true)
    (aOob : PySem.W.nsIn K mainGlobals "over_one_bottom" = some (some (.ref fOob)))
    (lOob : K.lookup fOob = some ⟨ocOob, odOob, .func (PySem.W.fnOf "over_one_bottom" "over_one_bottom" (defArgs sOob) (defBody sOob) (defScope sOob) .none kVOob dcOob pmOob anOob cdOob ctOob), slOob⟩)
    (cOob : PySem.W.codeIn K cdOob "over_one_bottom" = true)
    (kOob : PySem.W.keepIn K (.ref fOob) = true)
    (aWgh : PySem.W.nsIn K mainGlobals "weighed" = some (some (.ref fWgh)))
    (lWgh : K.lookup fWgh = some ⟨ocWgh, odWgh, .func (PySem.W.fnOf "weighed" "weighed" (defArgs sWgh) (defBody sWgh) (defScope sWgh) .none kVWgh dcWgh pmWgh anWgh cdWgh ctWgh), slWgh⟩)
    (cWgh : PySem.W.codeIn K cdWgh "weighed" = true)
    (kWgh : PySem.W.keepIn K (.ref fWgh) = true)
    (aMno : PySem.W.nsIn K mainGlobals "means_of" = some (some (.ref fMno)))
    (lMno : K.lookup fMno = some ⟨ocMno, odMno, .func (PySem.W.fnOf "means_of" "means_of" (defArgs sMno) (defBody sMno) (defScope sMno) .none kVMno dcMno pmMno anMno cdMno ctMno), slMno⟩)
    (cMno : PySem.W.codeIn K cdMno "means_of" = true)
    (kMno : PySem.W.keepIn K (.ref fMno) = true)
    (aSpO : PySem.W.nsIn K mainGlobals "spread_of" = some (some (.ref fSpO)))
    (lSpO : K.lookup fSpO = some ⟨ocSpO, odSpO, .func (PySem.W.fnOf "spread_of" "spread_of" (defArgs sSpO) (defBody sSpO) (defScope sSpO) .none kVSpO dcSpO pmSpO anSpO cdSpO ctSpO), slSpO⟩)
    (cSpO : PySem.W.codeIn K cdSpO "spread_of" = true)
    (kSpO : PySem.W.keepIn K (.ref fSpO) = true)
    (aCel : PySem.W.nsIn K mainGlobals "_law_cell" = some (some (.ref fCel)))
    (lCel : K.lookup fCel = some ⟨ocCel, odCel, .func (PySem.W.fnOf "_law_cell" "_law_cell" (defArgs sCel) (defBody sCel) (defScope sCel) .none kVCel dcCel pmCel anCel cdCel ctCel), slCel⟩)
    (cCel : PySem.W.codeIn K cdCel "_law_cell" = true)
    (kCel : PySem.W.keepIn K (.ref fCel) = true)
    (aWel : PySem.W.nsIn K mainGlobals "_law_well" = some (some (.ref fWel)))
    (lWel : K.lookup fWel = some ⟨ocWel, odWel, .func (PySem.W.fnOf "_law_well" "_law_well" (defArgs sWel) (defBody sWel) (defScope sWel) .none kVWel dcWel pmWel anWel cdWel ctWel), slWel⟩)
    (cWel : PySem.W.codeIn K cdWel "_law_well" = true)
    (kWel : PySem.W.keepIn K (.ref fWel) = true)
    (aDp : PySem.W.nsIn K mainGlobals "_law_dip" = some (some (.ref fDp)))
    (lDp : K.lookup fDp = some ⟨ocDp, odDp, .func (PySem.W.fnOf "_law_dip" "_law_dip" (defArgs sDp) (defBody sDp) (defScope sDp) .none kVDp dcDp pmDp anDp cdDp ctDp), slDp⟩)
    (cDp : PySem.W.codeIn K cdDp "_law_dip" = true)
    (kDp : PySem.W.keepIn K (.ref fDp) = true)
    (aNms : PySem.W.nsIn K mainGlobals "_law_names" = some (some (.ref fNms)))
    (lNms : K.lookup fNms = some ⟨ocNms, odNms, .func (PySem.W.fnOf "_law_names" "_law_names" (defArgs sNms) (defBody sNms) (defScope sNms) .none kVNms dcNms pmNms anNms cdNms ctNms), slNms⟩)
    (cNms : PySem.W.codeIn K cdNms "_law_names" = true)
    (kNms : PySem.W.keepIn K (.ref fNms) = true)
    (aWei : PySem.W.nsIn K mainGlobals "_law_weight" = some (some (.ref fWei)))
    (lWei : K.lookup fWei = some ⟨ocWei, odWei, .func (PySem.W.fnOf "_law_weight" "_law_weight" (defArgs sWei) (defBody sWei) (defScope sWei) .none kVWei dcWei pmWei anWei cdWei ctWei), slWei⟩)
    (cWei : PySem.W.codeIn K cdWei "_law_weight" = true)
    (kWei : PySem.W.keepIn K (.ref fWei) = true)
    (aRw : PySem.W.nsIn K mainGlobals "_law_row" = some (some (.ref fRw)))
    (lRw : K.lookup fRw = some ⟨ocRw, odRw, .func (PySem.W.fnOf "_law_row" "_law_row" (defArgs sRw) (defBody sRw) (defScope sRw) .none kVRw dcRw pmRw anRw cdRw ctRw), slRw⟩)
    (cRw : PySem.W.codeIn K cdRw "_law_row" = true)
    (kRw : PySem.W.keepIn K (.ref fRw) = true)
    (aTa : PySem.W.nsIn K mainGlobals "_law_table" = some (some (.ref fTa)))
    (lTa : K.lookup fTa = some ⟨ocTa, odTa, .func (PySem.W.fnOf "_law_table" "_law_table" (defArgs sTa) (defBody sTa) (defScope sTa) .none kVTa dcTa pmTa anTa cdTa ctTa), slTa⟩)
    (cTa : PySem.W.codeIn K cdTa "_law_table" = true)
    (kTa : PySem.W.keepIn K (.ref fTa) = true)
    (aFo : PySem.W.nsIn K mainGlobals "_law_folk" = some (some (.ref fFo)))
    (lFo : K.lookup fFo = some ⟨ocFo, odFo, .func (PySem.W.fnOf "_law_folk" "_law_folk" (defArgs sFo) (defBody sFo) (defScope sFo) .none kVFo dcFo pmFo anFo cdFo ctFo), slFo⟩)
    (cFo : PySem.W.codeIn K cdFo "_law_folk" = true)
    (kFo : PySem.W.keepIn K (.ref fFo) = true)
    (aCut : PySem.W.nsIn K mainGlobals "_law_cut" = some (some (.ref fCut)))
    (lCut : K.lookup fCut = some ⟨ocCut, odCut, .func (PySem.W.fnOf "_law_cut" "_law_cut" (defArgs sCut) (defBody sCut) (defScope sCut) .none kVCut dcCut pmCut anCut cdCut ctCut), slCut⟩)
    (cCut : PySem.W.codeIn K cdCut "_law_cut" = true)
    (kCut : PySem.W.keepIn K (.ref fCut) = true)
    (aMoo : PySem.W.nsIn K mainGlobals "_law_mood" = some (some (.ref fMoo)))
    (lMoo : K.lookup fMoo = some ⟨ocMoo, odMoo, .func (PySem.W.fnOf "_law_mood" "_law_mood" (defArgs sMoo) (defBody sMoo) (defScope sMoo) .none kVMoo dcMoo pmMoo anMoo cdMoo ctMoo), slMoo⟩)
    (cMoo : PySem.W.codeIn K cdMoo "_law_mood" = true)
    (kMoo : PySem.W.keepIn K (.ref fMoo) = true)
    (aPlu : PySem.W.nsIn K mainGlobals "_law_plus" = some (some (.ref fPlu)))
    (lPlu : K.lookup fPlu = some ⟨ocPlu, odPlu, .func (PySem.W.fnOf "_law_plus" "_law_plus" (defArgs sPlu) (defBody sPlu) (defScope sPlu) .none kVPlu dcPlu pmPlu anPlu cdPlu ctPlu), slPlu⟩)
    (cPlu : PySem.W.codeIn K cdPlu "_law_plus" = true)
    (kPlu : PySem.W.keepIn K (.ref fPlu) = true)
    (aTmR : PySem.W.nsIn K mainGlobals "_law_times_row" = some (some (.ref fTmR)))
    (lTmR : K.lookup fTmR = some ⟨ocTmR, odTmR, .func (PySem.W.fnOf "_law_times_row" "_law_times_row" (defArgs sTmR) (defBody sTmR) (defScope sTmR) .none kVTmR dcTmR pmTmR anTmR cdTmR ctTmR), slTmR⟩)
    (cTmR : PySem.W.codeIn K cdTmR "_law_times_row" = true)
    (kTmR : PySem.W.keepIn K (.ref fTmR) = true)
    (aPts : PySem.W.nsIn K mainGlobals "_law_parts" = some (some (.ref fPts)))
    (lPts : K.lookup fPts = some ⟨ocPts, odPts, .func (PySem.W.fnOf "_law_parts" "_law_parts" (defArgs sPts) (defBody sPts) (defScope sPts) .none kVPts dcPts pmPts anPts cdPts ctPts), slPts⟩)
    (cPts : PySem.W.codeIn K cdPts "_law_parts" = true)
    (kPts : PySem.W.keepIn K (.ref fPts) = true)
    (aLes : PySem.W.nsIn K mainGlobals "_law_is_less" = some (some (.ref fLes)))
    (lLes : K.lookup fLes = some ⟨ocLes, odLes, .func (PySem.W.fnOf "_law_is_less" "_law_is_less" (defArgs sLes) (defBody sLes) (defScope sLes) .none kVLes dcLes pmLes anLes cdLes ctLes), slLes⟩)
    (cLes : PySem.W.codeIn K cdLes "_law_is_less" = true)
    (kLes : PySem.W.keepIn K (.ref fLes) = true)
    (aR63 : PySem.W.nsIn K mainGlobals "_law_right" = some (some (.ref fR63)))
    (lR63 : K.lookup fR63 = some ⟨ocR63, odR63, .func (PySem.W.fnOf "_law_right" "_law_right" (defArgs sR63) (defBody sR63) (defScope sR63) .none kVR63 dcR63 pmR63 anR63 cdR63 ctR63), slR63⟩)
    (cR63 : PySem.W.codeIn K cdR63 "_law_right" = true)
    (kR63 : PySem.W.keepIn K (.ref fR63) = true)
    (aLaw : PySem.W.nsIn K mainGlobals "law" = some (some (.ref fLaw)))
    (lLaw : K.lookup fLaw = some ⟨ocLaw, odLaw, .func (PySem.W.fnOf "law" "law" (defArgs sLaw) (defBody sLaw) (defScope sLaw) .none kVLaw dcLaw pmLaw anLaw cdLaw ctLaw), slLaw⟩)
    (cLaw : PySem.W.codeIn K cdLaw "law" = true)
    (kLaw : PySem.W.keepIn K (.ref fLaw) = true)
    (acC : PySem.W.nsIn K mainGlobals "Council" = some (some (.ref cC)))
    (aCIn : PySem.W.findIn K (.ref cC) "__init__" = some (some (.ref fCIn)))
    (iCIn : PySem.W.isFn K (.ref fCIn) = true)
    (lCIn : K.lookup fCIn = some ⟨ocCIn, odCIn, .func (PySem.W.fnOf "__init__" "Council.__init__" (defArgs sCIn) (defBody sCIn) (defScope sCIn) .none kVCIn dcCIn pmCIn anCIn cdCIn ctCIn), slCIn⟩)
    (cCIn : PySem.W.codeIn K cdCIn "Council.__init__" = true)
    (kCIn : PySem.W.keepIn K (.ref fCIn) = true)
    (aCLe : PySem.W.findIn K (.ref cC) "__len__" = some (some (.ref fCLe)))
    (iCLe : PySem.W.isFn K (.ref fCLe) = true)
    (lCLe : K.lookup fCLe = some ⟨ocCLe, odCLe, .func (PySem.W.fnOf "__len__" "Council.__len__" (defArgs sCLe) (defBody sCLe) (defScope sCLe) .none kVCLe dcCLe pmCLe anCLe cdCLe ctCLe), slCLe⟩)
    (cCLe : PySem.W.codeIn K cdCLe "Council.__len__" = true)
    (kCLe : PySem.W.keepIn K (.ref fCLe) = true)
    (uCWy : PySem.W.findIn K (.ref cC) "ways" = some (some (.ref qCWy)))
    (vCWy : PySem.W.specialIn K (.ref qCWy) "__get__" = some (some (.builtin "property.__get__")))
    (wCWy : PySem.W.takesIn K (.ref qCWy) = some true)
    (xCWy : PySem.W.recIn K qCWy "property" = some (.ref fCWy :: rCWy))
    (lCWy : K.lookup fCWy = some ⟨ocCWy, odCWy, .func (PySem.W.fnOf "ways" "Council.ways" (defArgs sCWy) (defBody sCWy) (defScope sCWy) .none kVCWy dcCWy pmCWy anCWy cdCWy ctCWy), slCWy⟩)
    (cCWy : PySem.W.codeIn K cdCWy "Council.ways" = true)
    (kCWy : PySem.W.keepIn K (.ref fCWy) = true)
    (pg : PySem.W.plainGet K cC Str.empty = true)
    (hd : PySem.W.hasDictIn K cC = true)
    (po : PySem.W.plainOver K cC = true)
    (sa : PySem.W.findIn K (.ref cC) "__setattr__" = some (some (.builtin "object.__setattr__")))
    (mk : PySem.W.makesIn K cC = true)
    (kc : PySem.W.keepIn K (.ref cC) = true)
    (nM : PySem.W.findIn K (.ref cC) "_minds" = some none)
    (nW : PySem.W.findIn K (.ref cC) "_ways" = some none)
    (o1 : PySem.W.findIn K (.ref cC) "__class__" = some (some (.builtin "object.__class__")))
    (o2 : PySem.W.specialIn K (.builtin "object.__class__") "__get__" = some (some (.builtin "getset_descriptor.__get__")))
    (o3 : PySem.W.takesIn K (.builtin "object.__class__") = some true)
    (o5 : PySem.W.mroIn K cC (.type "object") = some true)
    (acS : PySem.W.nsIn K mainGlobals "Session" = some (some (.ref cS)))
    (aSIn : PySem.W.findIn K (.ref cS) "__init__" = some (some (.ref fSIn)))
    (iSIn : PySem.W.isFn K (.ref fSIn) = true)
    (lSIn : K.lookup fSIn = some ⟨ocSIn, odSIn, .func (PySem.W.fnOf "__init__" "Session.__init__" (defArgs sSIn) (defBody sSIn) (defScope sSIn) .none kVSIn dcSIn pmSIn anSIn cdSIn ctSIn), slSIn⟩)
    (cSIn : PySem.W.codeIn K cdSIn "Session.__init__" = true)
    (kSIn : PySem.W.keepIn K (.ref fSIn) = true)
    (aSGo : PySem.W.findIn K (.ref cS) "_go_on" = some (some (.ref fSGo)))
    (iSGo : PySem.W.isFn K (.ref fSGo) = true)
    (lSGo : K.lookup fSGo = some ⟨ocSGo, odSGo, .func (PySem.W.fnOf "_go_on" "Session._go_on" (defArgs sSGo) (defBody sSGo) (defScope sSGo) .none kVSGo dcSGo pmSGo anSGo cdSGo ctSGo), slSGo⟩)
    (cSGo : PySem.W.codeIn K cdSGo "Session._go_on" = true)
    (kSGo : PySem.W.keepIn K (.ref fSGo) = true)
    (aSDy : PySem.W.findIn K (.ref cS) "day" = some (some (.ref fSDy)))
    (iSDy : PySem.W.isFn K (.ref fSDy) = true)
    (lSDy : K.lookup fSDy = some ⟨ocSDy, odSDy, .func (PySem.W.fnOf "day" "Session.day" (defArgs sSDy) (defBody sSDy) (defScope sSDy) .none kVSDy dcSDy pmSDy anSDy cdSDy ctSDy), slSDy⟩)
    (cSDy : PySem.W.codeIn K cdSDy "Session.day" = true)
    (kSDy : PySem.W.keepIn K (.ref fSDy) = true)
    (aSSp : PySem.W.findIn K (.ref cS) "spread" = some (some (.ref fSSp)))
    (iSSp : PySem.W.isFn K (.ref fSSp) = true)
    (lSSp : K.lookup fSSp = some ⟨ocSSp, odSSp, .func (PySem.W.fnOf "spread" "Session.spread" (defArgs sSSp) (defBody sSSp) (defScope sSSp) .none kVSSp dcSSp pmSSp anSSp cdSSp ctSSp), slSSp⟩)
    (cSSp : PySem.W.codeIn K cdSSp "Session.spread" = true)
    (kSSp : PySem.W.keepIn K (.ref fSSp) = true)
    (uSCo : PySem.W.findIn K (.ref cS) "council" = some (some (.ref qSCo)))
    (vSCo : PySem.W.specialIn K (.ref qSCo) "__get__" = some (some (.builtin "property.__get__")))
    (wSCo : PySem.W.takesIn K (.ref qSCo) = some true)
    (xSCo : PySem.W.recIn K qSCo "property" = some (.ref fSCo :: rSCo))
    (lSCo : K.lookup fSCo = some ⟨ocSCo, odSCo, .func (PySem.W.fnOf "council" "Session.council" (defArgs sSCo) (defBody sSCo) (defScope sSCo) .none kVSCo dcSCo pmSCo anSCo cdSCo ctSCo), slSCo⟩)
    (cSCo : PySem.W.codeIn K cdSCo "Session.council" = true)
    (kSCo : PySem.W.keepIn K (.ref fSCo) = true)
    (uSTh : PySem.W.findIn K (.ref cS) "thoughts" = some (some (.ref qSTh)))
    (vSTh : PySem.W.specialIn K (.ref qSTh) "__get__" = some (some (.builtin "property.__get__")))
    (wSTh : PySem.W.takesIn K (.ref qSTh) = some true)
    (xSTh : PySem.W.recIn K qSTh "property" = some (.ref fSTh :: rSTh))
    (lSTh : K.lookup fSTh = some ⟨ocSTh, odSTh, .func (PySem.W.fnOf "thoughts" "Session.thoughts" (defArgs sSTh) (defBody sSTh) (defScope sSTh) .none kVSTh dcSTh pmSTh anSTh cdSTh ctSTh), slSTh⟩)
    (cSTh : PySem.W.codeIn K cdSTh "Session.thoughts" = true)
    (kSTh : PySem.W.keepIn K (.ref fSTh) = true)
    (uSDa : PySem.W.findIn K (.ref cS) "days" = some (some (.ref qSDa)))
    (vSDa : PySem.W.specialIn K (.ref qSDa) "__get__" = some (some (.builtin "property.__get__")))
    (wSDa : PySem.W.takesIn K (.ref qSDa) = some true)
    (xSDa : PySem.W.recIn K qSDa "property" = some (.ref fSDa :: rSDa))
    (lSDa : K.lookup fSDa = some ⟨ocSDa, odSDa, .func (PySem.W.fnOf "days" "Session.days" (defArgs sSDa) (defBody sSDa) (defScope sSDa) .none kVSDa dcSDa pmSDa anSDa cdSDa ctSDa), slSDa⟩)
    (cSDa : PySem.W.codeIn K cdSDa "Session.days" = true)
    (kSDa : PySem.W.keepIn K (.ref fSDa) = true)
    (pgS : PySem.W.plainGet K cS Str.empty = true)
    (hdS : PySem.W.hasDictIn K cS = true)
    (poS : PySem.W.plainOver K cS = true)
    (saS : PySem.W.findIn K (.ref cS) "__setattr__" = some (some (.builtin "object.__setattr__")))
    (mkS : PySem.W.makesIn K cS = true)
    (kcS : PySem.W.keepIn K (.ref cS) = true)
    (nSt : PySem.W.findIn K (.ref cS) "_states" = some none)
    (gLETTERS : PySem.W.nsIn K mainGlobals "LETTERS" = some (some (.str "abcdefghijklmnopqrstuvwxyz" tLETTERS)))
    (gLETTERS_AND_DIGITS : PySem.W.nsIn K mainGlobals "LETTERS_AND_DIGITS" = some (some (.str "abcdefghijklmnopqrstuvwxyz0123456789" tLETTERS_AND_DIGITS)))
    (gLONGEST_NAME : PySem.W.nsIn K mainGlobals "LONGEST_NAME" = some (some (.int 8 tLONGEST_NAME)))
    (gMOST_MINDS : PySem.W.nsIn K mainGlobals "MOST_MINDS" = some (some (.int 6 tMOST_MINDS)))
    (gMOST_WAYS : PySem.W.nsIn K mainGlobals "MOST_WAYS" = some (some (.int 6 tMOST_WAYS)))
    (gMOST_WEIGHT : PySem.W.nsIn K mainGlobals "MOST_WEIGHT" = some (some (.int 1000000000 tMOST_WEIGHT)))
    (zlen : PySem.W.nsIn K mainGlobals "len" = some none)
    (zrange : PySem.W.nsIn K mainGlobals "range" = some none)
    (zint : PySem.W.nsIn K mainGlobals "int" = some none)
    (zabs : PySem.W.nsIn K mainGlobals "abs" = some none)
    (zdivmod : PySem.W.nsIn K mainGlobals "divmod" = some none)
    (zsum : PySem.W.nsIn K mainGlobals "sum" = some none)
    (ztuple : PySem.W.nsIn K mainGlobals "tuple" = some none)
    (zall : PySem.W.nsIn K mainGlobals "all" = some none)
    (zmax : PySem.W.nsIn K mainGlobals "max" = some none)
    (zmin : PySem.W.nsIn K mainGlobals "min" = some none)
    (zstr : PySem.W.nsIn K mainGlobals "str" = some none)
    (zbool : PySem.W.nsIn K mainGlobals "bool" = some none)
    (zisinstance : PySem.W.nsIn K mainGlobals "isinstance" = some none)
    (zenumerate : PySem.W.nsIn K mainGlobals "enumerate" = some none)
    (zrepr : PySem.W.nsIn K mainGlobals "repr" = some none)
    (zzip : PySem.W.nsIn K mainGlobals "zip" = some none)
    (qgcd : PySem.W.nsIn K mainGlobals "gcd" = some (some (.builtin "math.gcd")))
    (qlcm : PySem.W.nsIn K mainGlobals "lcm" = some (some (.builtin "math.lcm"))) :
    ∃ fd : FuncData, (∀ (s : Shared) (v : Value), BindsTo s fd ⟨[v], []⟩ [("_law_cells", v)]) ∧ ∀ base : Heap, K.In base → base.Ns mainGlobals mg → FnG l.prog w K mg base CX0 15 fa fd ["_law_cells"] (spLaw K) := by
  have e := hfa.symm.trans (PySem.W.mg_of X G aLaw)
  cases e
  have FInt := fun_mk (st := sInt) lInt cInt kInt
  have bInt := FInt.binds (ps := pInt) fun _ _ _ _ _ _ us hl => match us, hl with | [_], _ => rfl
  have FIdx := fun_mk (st := sIdx) lIdx cIdx kIdx
  have bIdx := FIdx.binds (ps := pIdx) fun _ _ _ _ _ _ us hl => match us, hl with | [_, _], _ => rfl
  have FName := fun_mk (st := sName) lName cName kName
  have bName := FName.binds (ps := pName) fun _ _ _ _ _ _ us hl => match us, hl with | [_], _ => rfl
  have FFra := fun_mk (st := sFra) lFra cFra kFra
  have bFra := FFra.binds (ps := pFra) fun _ _ _ _ _ _ us hl => match us, hl with | [_], _ => rfl
  have FWgt := fun_mk (st := sWgt) lWgt cWgt kWgt
  have bWgt := FWgt.binds (ps := pWgt) fun _ _ _ _ _ _ us hl => match us, hl with | [_], _ => rfl
  have FRoww := fun_mk (st := sRoww) lRoww cRoww kRoww
  have bRoww := FRoww.binds (ps := pRoww) fun _ _ _ _ _ _ us hl => match us, hl with | [_, _], _ => rfl
  have FWay := fun_mk (st := sWay) lWay cWay kWay
  have bWay := FWay.binds (ps := pWay) fun _ _ _ _ _ _ us hl => match us, hl with | [_, _], _ => rfl
  have FCMi := fun_mk (st := sCMi) lCMi cCMi kCMi
  have bCMi := FCMi.binds (ps := pCMi) fun _ _ _ _ _ _ us hl => match us, hl with | [_], _ => rfl
  have FCWa := fun_mk (st := sCWa) lCWa cCWa kCWa
  have bCWa := FCWa.binds (ps := pCWa) fun _ _ _ _ _ _ us hl => match us, hl with | [_, _], _ => rfl
  have FCkC := fun_mk (st := sCkC) lCkC cCkC kCkC
  have bCkC := FCkC.binds (ps := pCkC) fun _ _ _ _ _ _ us hl => match us, hl with | [_], _ => rfl
  have FCkW := fun_mk (st := sCkW) lCkW cCkW kCkW
  have bCkW := FCkW.binds (ps := pCkW) fun _ _ _ _ _ _ us hl => match us, hl with | [_, _], _ => rfl
  have FCkF := fun_mk (st := sCkF) lCkF cCkF kCkF
  have bCkF := FCkF.binds (ps := pCkF) fun _ _ _ _ _ _ us hl => match us, hl with | [_], _ => rfl
  have FCkT := fun_mk (st := sCkT) lCkT cCkT kCkT
  have bCkT := FCkT.binds (ps := pCkT) fun _ _ _ _ _ _ us hl => match us, hl with | [_, _], _ => rfl
  have FLws := fun_mk (st := sLws) lLws cLws kLws
  have bLws := FLws.binds (ps := pLws) fun _ _ _ _ _ _ us hl => match us, hl with | [_, _], _ => rfl
  have FOob := fun_mk (st := sOob) lOob cOob kOob
  have bOob := FOob.binds (ps := pOob) fun _ _ _ _ _ _ us hl => match us, hl with | [_], _ => rfl
  have FWgh := fun_mk (st := sWgh) lWgh cWgh kWgh
  have bWgh := FWgh.binds (ps := pWgh) fun _ _ _ _ _ _ us hl => match us, hl with | [_, _], _ => rfl
  have FMno := fun_mk (st := sMno) lMno cMno kMno
  have bMno := FMno.binds (ps := pMno) fun _ _ _ _ _ _ us hl => match us, hl with | [_, _], _ => rfl
  have FSpO := fun_mk (st := sSpO) lSpO cSpO kSpO
  have bSpO := FSpO.binds (ps := pSpO) fun _ _ _ _ _ _ us hl => match us, hl with | [_], _ => rfl
  have FCel := fun_mk (st := sCel) lCel cCel kCel
  have bCel := FCel.binds (ps := pCel) fun _ _ _ _ _ _ us hl => match us, hl with | [_, _], _ => rfl
  have FWel := fun_mk (st := sWel) lWel cWel kWel
  have bWel := FWel.binds (ps := pWel) fun _ _ _ _ _ _ us hl => match us, hl with | [_], _ => rfl
  have FDp := fun_mk (st := sDp) lDp cDp kDp
  have bDp := FDp.binds (ps := pDp) fun _ _ _ _ _ _ us hl => match us, hl with | [_, _], _ => rfl
  have FNms := fun_mk (st := sNms) lNms cNms kNms
  have bNms := FNms.binds (ps := pNms) fun _ _ _ _ _ _ us hl => match us, hl with | [_, _], _ => rfl
  have FWei := fun_mk (st := sWei) lWei cWei kWei
  have bWei := FWei.binds (ps := pWei) fun _ _ _ _ _ _ us hl => match us, hl with | [_], _ => rfl
  have FRw := fun_mk (st := sRw) lRw cRw kRw
  have bRw := FRw.binds (ps := pRw) fun _ _ _ _ _ _ us hl => match us, hl with | [_, _, _], _ => rfl
  have FTa := fun_mk (st := sTa) lTa cTa kTa
  have bTa := FTa.binds (ps := pTa) fun _ _ _ _ _ _ us hl => match us, hl with | [_, _], _ => rfl
  have FFo := fun_mk (st := sFo) lFo cFo kFo
  have bFo := FFo.binds (ps := pFo) fun _ _ _ _ _ _ us hl => match us, hl with | [_, _, _, _], _ => rfl
  have FCut := fun_mk (st := sCut) lCut cCut kCut
  have bCut := FCut.binds (ps := pCut) fun _ _ _ _ _ _ us hl => match us, hl with | [_, _], _ => rfl
  have FMoo := fun_mk (st := sMoo) lMoo cMoo kMoo
  have bMoo := FMoo.binds (ps := pMoo) fun _ _ _ _ _ _ us hl => match us, hl with | [_], _ => rfl
  have FPlu := fun_mk (st := sPlu) lPlu cPlu kPlu
  have bPlu := FPlu.binds (ps := pPlu) fun _ _ _ _ _ _ us hl => match us, hl with | [_, _], _ => rfl
  have FTmR := fun_mk (st := sTmR) lTmR cTmR kTmR
  have bTmR := FTmR.binds (ps := pTmR) fun _ _ _ _ _ _ us hl => match us, hl with | [_, _], _ => rfl
  have FPts := fun_mk (st := sPts) lPts cPts kPts
  have bPts := FPts.binds (ps := pPts) fun _ _ _ _ _ _ us hl => match us, hl with | [_, _], _ => rfl
  have FLes := fun_mk (st := sLes) lLes cLes kLes
  have bLes := FLes.binds (ps := pLes) fun _ _ _ _ _ _ us hl => match us, hl with | [_, _], _ => rfl
  have FR63 := fun_mk (st := sR63) lR63 cR63 kR63
  have bR63 := FR63.binds (ps := pR63) fun _ _ _ _ _ _ us hl => match us, hl with | [_], _ => rfl
  have FLaw := fun_mk (st := sLaw) lLaw cLaw kLaw
  have bLaw := FLaw.binds (ps := pLaw) fun _ _ _ _ _ _ us hl => match us, hl with | [_], _ => rfl
  have FCIn := fun_mk (st := sCIn) lCIn cCIn kCIn
  have bCIn := FCIn.binds (ps := pCIn) fun _ _ _ _ _ _ us hl => match us, hl with | [_, _, _], _ => rfl
  have FCLe := fun_mk (st := sCLe) lCLe cCLe kCLe
  have bCLe := FCLe.binds (ps := pCLe) fun _ _ _ _ _ _ us hl => match us, hl with | [_], _ => rfl
  have FCWy := fun_mk (st := sCWy) lCWy cCWy kCWy
  have bCWy := FCWy.binds (ps := pCWy) fun _ _ _ _ _ _ us hl => match us, hl with | [_], _ => rfl
  have FSIn := fun_mk (st := sSIn) lSIn cSIn kSIn
  have bSIn := FSIn.binds (ps := pSIn) fun _ _ _ _ _ _ us hl => match us, hl with | [_, _, _], _ => rfl
  have FSGo := fun_mk (st := sSGo) lSGo cSGo kSGo
  have bSGo := FSGo.binds (ps := pSGo) fun _ _ _ _ _ _ us hl => match us, hl with | [_, _, _, _], _ => rfl
  have FSDy := fun_mk (st := sSDy) lSDy cSDy kSDy
  have bSDy := FSDy.binds (ps := pSDy) fun _ _ _ _ _ _ us hl => match us, hl with | [_, _], _ => rfl
  have FSSp := fun_mk (st := sSSp) lSSp cSSp kSSp
  have bSSp := FSSp.binds (ps := pSSp) fun _ _ _ _ _ _ us hl => match us, hl with | [_], _ => rfl
  have FSCo := fun_mk (st := sSCo) lSCo cSCo kSCo
  have bSCo := FSCo.binds (ps := pSCo) fun _ _ _ _ _ _ us hl => match us, hl with | [_], _ => rfl
  have FSTh := fun_mk (st := sSTh) lSTh cSTh kSTh
  have bSTh := FSTh.binds (ps := pSTh) fun _ _ _ _ _ _ us hl => match us, hl with | [_], _ => rfl
  have FSDa := fun_mk (st := sSDa) lSDa cSDa kSDa
  have bSDa := FSDa.binds (ps := pSDa) fun _ _ _ _ _ _ us hl => match us, hl with | [_], _ => rfl
  have T : Bt mg := ⟨PySem.W.mg_none_of X G zlen, PySem.W.mg_none_of X G zrange, PySem.W.mg_none_of X G zint, PySem.W.mg_none_of X G zabs, PySem.W.mg_none_of X G zdivmod, PySem.W.mg_none_of X G zsum, PySem.W.mg_none_of X G ztuple, PySem.W.mg_none_of X G zall, PySem.W.mg_none_of X G zmax, PySem.W.mg_none_of X G zmin, PySem.W.mg_none_of X G zstr, PySem.W.mg_none_of X G zbool, PySem.W.mg_none_of X G zisinstance, PySem.W.mg_none_of X G zenumerate, PySem.W.mg_none_of X G zrepr,
    ⟨_, PySem.W.mg_of X G gLETTERS, _, rfl⟩, ⟨_, PySem.W.mg_of X G gLETTERS_AND_DIGITS, _, rfl⟩, ⟨_, PySem.W.mg_of X G gLONGEST_NAME, _, rfl⟩, ⟨_, PySem.W.mg_of X G gMOST_MINDS, _, rfl⟩, ⟨_, PySem.W.mg_of X G gMOST_WAYS, _, rfl⟩, ⟨_, PySem.W.mg_of X G gMOST_WEIGHT, _, rfl⟩⟩
  have Tz := PySem.W.mg_none_of X G zzip
  have Tg := PySem.W.mg_of X G qgcd
  have Tl := PySem.W.mg_of X G qlcm
  have U : Cn K mg cC := ⟨⟨pg, hd, po, sa⟩, nM, nW, PySem.W.mg_of X G acC, o1, o2, o3, o5, kit_self' K cC⟩
  refine ⟨PySem.W.fnOf "law" "law" (defArgs sLaw) (defBody sLaw) (defScope sLaw) .none kVLaw dcLaw pmLaw anLaw cdLaw ctLaw, fun s v => .of_eq rfl, fun base _ _ => ?_⟩
  have gInt := ok_int (P := l.prog) (w := w) (K := K) (mg := mg) (base := base) FInt T
  have dInt : DefX l.prog w K mg base 1 "is_integer" pInt (spInt K) := ⟨_, _, gInt, PySem.W.mg_of X G aInt, kInt, bInt⟩
  have gName := ok_name (P := l.prog) (w := w) (K := K) (mg := mg) (base := base) FName T
  have dName : DefX l.prog w K mg base 1 "is_name" pName spName := ⟨_, _, gName, PySem.W.mg_of X G aName, kName, bName⟩
  have gWgt := ok_wgt (P := l.prog) (w := w) (K := K) (mg := mg) (base := base) FWgt T dInt
  have dWgt : DefX l.prog w K mg base 3 "is_weight" pWgt spWgt := ⟨_, _, gWgt, PySem.W.mg_of X G aWgt, kWgt, bWgt⟩
  have gRoww := ok_roww (P := l.prog) (w := w) (K := K) (mg := mg) (base := base) FRoww T dWgt
  have dRoww : DefX l.prog w K mg base 5 "is_row" pRoww spRoww := ⟨_, _, gRoww, PySem.W.mg_of X G aRoww, kRoww, bRoww⟩
  have gWay := ok_way (P := l.prog) (w := w) (K := K) (mg := mg) (base := base) FWay T dRoww
  have dWay : DefX l.prog w K mg base 7 "is_way" pWay spWay := ⟨_, _, gWay, PySem.W.mg_of X G aWay, kWay, bWay⟩
  have gCMi := ok_cmi (P := l.prog) (w := w) (K := K) (mg := mg) (base := base) FCMi T dName
  have dCMi : DefX l.prog w K mg base 3 "check_minds" pCMi spCMi := ⟨_, _, gCMi, PySem.W.mg_of X G aCMi, kCMi, bCMi⟩
  have gCWa := ok_cwa (P := l.prog) (w := w) (K := K) (mg := mg) (base := base) FCWa T dWay
  have dCWa : DefX l.prog w K mg base 9 "check_ways" pCWa spCWa := ⟨_, _, gCWa, PySem.W.mg_of X G aCWa, kCWa, bCWa⟩
  have mkC : Mk K cC fCIn := ⟨mk, aCIn, iCIn, kc⟩
  have gIn : FnOk l.prog w K mg base CX0 11 fCIn _ pCIn (spCIn cC) := ok_cin FCIn T U dCMi dCWa
  have MK : MkN l.prog w K mg base "Council" cC 11 pCIn (spCIn cC) ["ways", "minds"] kwL kwV := ⟨⟨_, _, mkC, gIn, bCIn, fun_kb FCIn (fun _ _ _ _ _ _ us ws h1 h2 => match us, ws, h1, h2 with | [_], [_, _], _, _ => rfl) fun r1 r2 => r1.append (vals_rev r2)⟩, PySem.W.mg_of X G acC⟩
  have gW : GetN l.prog w K mg base cC "ways" 1 (getSp cC "_ways") := ⟨⟨_, _, _, _, ⟨uCWy, vCWy, wCWy, ⟨_, xCWy⟩⟩, fn_getter lCWy cCWy scCWy rfl rfl U.cl nW, bCWy⟩⟩
  have le : SpN l.prog w K mg base cC "__len__" 1 (spCLe cC) := ⟨⟨_, _, _, ok_cle FCLe T U, aCLe, iCLe, bCLe⟩⟩
  have gIdx := ok_idx (P := l.prog) (w := w) (K := K) (mg := mg) (base := base) FIdx T dInt
  have dIdx : DefX l.prog w K mg base 3 "is_index" pIdx spIdx := ⟨_, _, gIdx, PySem.W.mg_of X G aIdx, kIdx, bIdx⟩
  have gCkC := ok_ckc (P := l.prog) (w := w) (K := K) (mg := mg) (base := base) FCkC T U
  have dCkC : DefX l.prog w K mg base 1 "check_council" pCkC (spCkC cC) := ⟨_, _, gCkC, PySem.W.mg_of X G aCkC, kCkC, bCkC⟩
  have gFra := ok_fra (P := l.prog) (w := w) (K := K) (mg := mg) (base := base) FFra T Tg dInt
  have dFra : DefX l.prog w K mg base 3 "is_fraction" pFra spFra := ⟨_, _, gFra, PySem.W.mg_of X G aFra, kFra, bFra⟩
  have gCkF := ok_ckf (P := l.prog) (w := w) (K := K) (mg := mg) (base := base) FCkF T dFra
  have dCkF : DefX l.prog w K mg base 5 "check_fractions" pCkF spCkF := ⟨_, _, gCkF, PySem.W.mg_of X G aCkF, kCkF, bCkF⟩
  have gCkT := ok_ckt (P := l.prog) (w := w) (K := K) (mg := mg) (base := base) FCkT T U le dCkF
  have dCkT : DefX l.prog w K mg base 7 "check_thoughts" pCkT (spCkT cC) := ⟨_, _, gCkT, PySem.W.mg_of X G aCkT, kCkT, bCkT⟩
  have gLws := ok_lws (P := l.prog) (w := w) (K := K) (mg := mg) (base := base) FLws T Tg
  have dLws : DefX l.prog w K mg base 1 "lowest" pLws spLws := ⟨_, _, gLws, PySem.W.mg_of X G aLws, kLws, bLws⟩
  have gOob := ok_oob (P := l.prog) (w := w) (K := K) (mg := mg) (base := base) FOob T Tl
  have dOob : DefX l.prog w K mg base 1 "over_one_bottom" pOob spOob := ⟨_, _, gOob, PySem.W.mg_of X G aOob, kOob, bOob⟩
  have gSpO := ok_spo (P := l.prog) (w := w) (K := K) (mg := mg) (base := base) FSpO T dOob dLws
  have dSpO : DefX l.prog w K mg base 3 "spread_of" pSpO spSpr := ⟨_, _, gSpO, PySem.W.mg_of X G aSpO, kSpO, bSpO⟩
  have gCut := ok_cut (P := l.prog) (w := w) (K := K) (mg := mg) (base := base) FCut T
  have dCut : DefX l.prog w K mg base 1 "_law_cut" pCut spLow := ⟨_, _, gCut, PySem.W.mg_of X G aCut, kCut, bCut⟩
  have gWgh := ok_wgM (P := l.prog) (w := w) (K := K) (mg := mg) (base := base) FWgh T Tz
  have dWgh : DefX l.prog w K mg base 1 "weighed" pWgh spWgM := ⟨_, _, gWgh, PySem.W.mg_of X G aWgh, kWgh, bWgh⟩
  have gMno := ok_mnW (P := l.prog) (w := w) (K := K) (mg := mg) (base := base) FMno T dOob dLws dWgh
  have dMno : DefX l.prog w K mg base 3 "means_of" pMno spMnW := ⟨_, _, gMno, PySem.W.mg_of X G aMno, kMno, bMno⟩
  have gCkW := ok_ckw (P := l.prog) (w := w) (K := K) (mg := mg) (base := base) FCkW T U.cl gW dIdx
  have dCkW : DefX l.prog w K mg base 5 "check_way" pCkW (spCkW cC) := ⟨_, _, gCkW, PySem.W.mg_of X G aCkW, kCkW, bCkW⟩
  have US : Sn K mg cS := ⟨⟨pgS, hdS, poS, saS⟩, nSt, PySem.W.mg_of X G acS⟩
  have gSC : GetN l.prog w K mg base cS "council" 1 (spSCo cS cC) := ⟨⟨_, _, _, _, ⟨uSCo, vSCo, wSCo, ⟨_, xSCo⟩⟩, ok_sco (P := l.prog) (w := w) (K := K) (mg := mg) (base := base) (S := cS) (C := cC) FSCo US, bSCo⟩⟩
  have gST : GetN l.prog w K mg base cS "thoughts" 1 (spSTh cS cC) := ⟨⟨_, _, _, _, ⟨uSTh, vSTh, wSTh, ⟨_, xSTh⟩⟩, ok_sth (P := l.prog) (w := w) (K := K) (mg := mg) (base := base) (S := cS) (C := cC) FSTh US, bSTh⟩⟩
  have gSD : GetN l.prog w K mg base cS "days" 1 (spSDa cS cC) := ⟨⟨_, _, _, _, ⟨uSDa, vSDa, wSDa, ⟨_, xSDa⟩⟩, ok_sda (P := l.prog) (w := w) (K := K) (mg := mg) (base := base) (S := cS) (C := cC) FSDa US, bSDa⟩⟩
  have mkSe : Mk K cS fSIn := ⟨mkS, aSIn, iSIn, kcS⟩
  have gSIn := ok_sin (P := l.prog) (w := w) (K := K) (mg := mg) (base := base) (S := cS) (C := cC) FSIn T US dCkC dCkT
  have MS : MkN l.prog w K mg base "Session" cS 9 pSIn (spSIn cS cC) ["council", "thoughts"] kbL kbV := ⟨⟨_, _, mkSe, gSIn, bSIn, fun_kb FSIn (fun _ _ _ _ _ _ us ws h1 h2 => match us, ws, h1, h2 with | [_], [_, _], _, _ => rfl) fun r1 r2 => r1.append r2⟩, PySem.W.mg_of X G acS⟩
  have gSGo := ok_sgo (P := l.prog) (w := w) (K := K) (mg := mg) (base := base) (S := cS) (C := cC) FSGo T US
  have MSG : MtN l.prog w K mg base cS "_go_on" 1 pSGo (spSGo cS cC) ["council", "thoughts", "days"] kbL kbV := ⟨US.cl, ⟨_, _, ⟨aSGo, iSGo, kSGo⟩, gSGo, bSGo, fun_kb FSGo (fun _ _ _ _ _ _ us ws h1 h2 => match us, ws, h1, h2 with | [_], [_, _, _], _, _ => rfl) fun r1 r2 => r1.append r2⟩⟩
  have gSDy := ok_sdy (P := l.prog) (w := w) (K := K) (mg := mg) (base := base) (S := cS) (C := cC) FSDy T US U gW gSC gST gSD dCkW dMno MSG
  have MSD : MtN l.prog w K mg base cS "day" 7 pSDy (spSDy cS cC) ["way"] kbL kbV := ⟨US.cl, ⟨_, _, ⟨aSDy, iSDy, kSDy⟩, gSDy, bSDy, fun_kb FSDy (fun _ _ _ _ _ _ us ws h1 h2 => match us, ws, h1, h2 with | [_], [_], _, _ => rfl) fun r1 r2 => r1.append r2⟩⟩
  have gSSp := ok_ssp (P := l.prog) (w := w) (K := K) (mg := mg) (base := base) (S := cS) (C := cC) FSSp T US gST dSpO
  have MSP : MtN l.prog w K mg base cS "spread" 5 pSSp (spSSp cS cC) [] kbL kbV := ⟨US.cl, ⟨_, _, ⟨aSSp, iSSp, kSSp⟩, gSSp, bSSp, fun_kb FSSp (fun _ _ _ _ _ _ us ws h1 h2 => match us, ws, h1, h2 with | [_], [], _, _ => rfl) fun r1 r2 => r1.append r2⟩⟩
  have gCel := ok_cel (P := l.prog) (w := w) (K := K) (mg := mg) (base := base) FCel T
  have dCel : DefX l.prog w K mg base 1 "_law_cell" pCel (spCel K) := ⟨_, _, gCel, PySem.W.mg_of X G aCel, kCel, bCel⟩
  have gWel := ok_wel (P := l.prog) (w := w) (K := K) (mg := mg) (base := base) FWel T
  have dWel : DefX l.prog w K mg base 1 "_law_well" pWel spWel := ⟨_, _, gWel, PySem.W.mg_of X G aWel, kWel, bWel⟩
  have gDp := ok_dp (P := l.prog) (w := w) (K := K) (mg := mg) (base := base) FDp T
  have dDp : DefX l.prog w K mg base 1 "_law_dip" pDp spDp := ⟨_, _, gDp, PySem.W.mg_of X G aDp, kDp, bDp⟩
  have gNms := ok_nms (P := l.prog) (w := w) (K := K) (mg := mg) (base := base) FNms T dDp
  have dNms : DefX l.prog w K mg base 2 "_law_names" pNms spNms := ⟨_, _, gNms, PySem.W.mg_of X G aNms, kNms, bNms⟩
  have gWei := ok_wei (P := l.prog) (w := w) (K := K) (mg := mg) (base := base) FWei T dDp
  have dWei : DefX l.prog w K mg base 2 "_law_weight" pWei spWei := ⟨_, _, gWei, PySem.W.mg_of X G aWei, kWei, bWei⟩
  have gRw := ok_rw (P := l.prog) (w := w) (K := K) (mg := mg) (base := base) FRw T dDp dWei
  have dRw : DefX l.prog w K mg base 3 "_law_row" pRw spRw := ⟨_, _, gRw, PySem.W.mg_of X G aRw, kRw, bRw⟩
  have gTa := ok_ta (P := l.prog) (w := w) (K := K) (mg := mg) (base := base) FTa T dDp dWei dRw
  have dTa : DefX l.prog w K mg base 4 "_law_table" pTa spTa := ⟨_, _, gTa, PySem.W.mg_of X G aTa, kTa, bTa⟩
  have gFo := ok_fo (P := l.prog) (w := w) (K := K) (mg := mg) (base := base) FFo T dDp dNms dTa
  have dFo : DefX l.prog w K mg base 5 "_law_folk" pFo spFo := ⟨_, _, gFo, PySem.W.mg_of X G aFo, kFo, bFo⟩
  have gMoo := ok_moo (P := l.prog) (w := w) (K := K) (mg := mg) (base := base) FMoo T dDp dCut
  have dMoo : DefX l.prog w K mg base 2 "_law_mood" pMoo spMoo := ⟨_, _, gMoo, PySem.W.mg_of X G aMoo, kMoo, bMoo⟩
  have gPlu := ok_plu (P := l.prog) (w := w) (K := K) (mg := mg) (base := base) FPlu T dCut
  have dPlu : DefX l.prog w K mg base 2 "_law_plus" pPlu spPlu := ⟨_, _, gPlu, PySem.W.mg_of X G aPlu, kPlu, bPlu⟩
  have gTmR := ok_tmr (P := l.prog) (w := w) (K := K) (mg := mg) (base := base) FTmR T Tz dCut dPlu
  have dTmR : DefX l.prog w K mg base 3 "_law_times_row" pTmR spTmR := ⟨_, _, gTmR, PySem.W.mg_of X G aTmR, kTmR, bTmR⟩
  have gPts := ok_pts (P := l.prog) (w := w) (K := K) (mg := mg) (base := base) FPts T dTmR
  have dPts : DefX l.prog w K mg base 4 "_law_parts" pPts spPts := ⟨_, _, gPts, PySem.W.mg_of X G aPts, kPts, bPts⟩
  have gLes := ok_les (P := l.prog) (w := w) (K := K) (mg := mg) (base := base) FLes T
  have dLes : DefX l.prog w K mg base 1 "_law_is_less" pLes spLes := ⟨_, _, gLes, PySem.W.mg_of X G aLes, kLes, bLes⟩
  have gR63 := ok_r63 (P := l.prog) (w := w) (K := K) (mg := mg) (base := base) FR63 T Tz U US MK MS gST gSD MSD MSP dDp dFo dMoo dCut dPlu dLes dPts
  have dRight : DefG l.prog w K mg base 13 "_law_right" pR63 spR63 := ⟨_, _, gR63, PySem.W.mg_of X G aR63, kR63, bR63⟩
  have gLaw := ok_law (P := l.prog) (w := w) (K := K) (mg := mg) (base := base) FLaw T dCel dWel dRight
  have dLaw : DefG l.prog w K mg base 15 "law" pLaw (spLaw K) := ⟨_, _, gLaw, PySem.W.mg_of X G aLaw, kLaw, bLaw⟩
  exact gLaw
end M
open PySem PySem.W PyProof.Rows
set_option maxRecDepth 100000 in
set_option maxHeartbeats 0 in
theorem PySem.Challenge.cw_alwaysagree_k63_whole_days_by_shares_holds : PySem.Challenge.rw_alwaysagree_k63_whole_days_by_shares.Holds := by
  w_on; o_law; k_head; (case hw => w_witness2)
  k_fill
  refine U.walkG (l := PySem.Challenge.rw_alwaysagree_k63_whole_days_by_shares) (n := 63) (k := 15) (x := "_law_cells") (sp := M.spLaw) rfl (by decide) rfl ⟨rfl, by decide, by decide⟩ (fun w h Y => PySem.W.kIn_of Y) ?F (fun K H a ns hl hS => ⟨a, ns, rfl, hS, hl, fun _ => rfl⟩)
  case F =>
    intro w mg fa h KX G hmg
    refine' M.all_mk KX G hmg ?aInt ?lInt ?cInt ?kInt ?aIdx ?lIdx ?cIdx ?kIdx ?aName ?lName ?cName ?kName ?aFra ?lFra ?cFra ?kFra ?aWgt ?lWgt ?cWgt ?kWgt ?aRoww ?lRoww ?cRoww ?kRoww ?aWay ?lWay ?cWay ?kWay ?aCMi ?lCMi ?cCMi ?kCMi ?aCWa ?lCWa ?cCWa ?kCWa ?aCkC ?lCkC ?cCkC ?kCkC ?aCkW ?lCkW ?cCkW ?kCkW ?aCkF ?lCkF ?cCkF ?kCkF ?aCkT ?lCkT ?cCkT ?kCkT ?aLws ?lLws ?cLws ?kLws ?aOob ?lOob ?cOob ?kOob ?aWgh ?lWgh ?cWgh ?kWgh ?aMno ?lMno ?cMno ?kMno ?aSpO ?lSpO ?cSpO ?kSpO ?aCel ?lCel ?cCel ?kCel ?aWel ?lWel ?cWel ?kWel ?aDp ?lDp ?cDp ?kDp ?aNms ?lNms ?cNms ?kNms ?aWei ?lWei ?cWei ?kWei ?aRw ?lRw ?cRw ?kRw ?aTa ?lTa ?cTa ?kTa ?aFo ?lFo ?cFo ?kFo ?aCut ?lCut ?cCut ?kCut ?aMoo ?lMoo ?cMoo ?kMoo ?aPlu ?lPlu ?cPlu ?kPlu ?aTmR ?lTmR ?cTmR ?kTmR ?aPts ?lPts ?cPts ?kPts ?aLes ?lLes ?cLes ?kLes ?aR63 ?lR63 ?cR63 ?kR63 ?aLaw ?lLaw ?cLaw ?kLaw ?acC ?aCIn ?iCIn ?lCIn ?cCIn ?kCIn ?aCLe ?iCLe ?lCLe ?cCLe ?kCLe ?uCWy ?vCWy ?wCWy ?xCWy ?lCWy ?cCWy ?kCWy ?pg ?hd ?po ?sa ?mk ?kc ?nM ?nW ?o1 ?o2 ?o3 ?o5 ?acS ?aSIn ?iSIn ?lSIn ?cSIn ?kSIn ?aSGo ?iSGo ?lSGo ?cSGo ?kSGo ?aSDy ?iSDy ?lSDy ?cSDy ?kSDy ?aSSp ?iSSp ?lSSp ?cSSp ?kSSp ?uSCo ?vSCo ?wSCo ?xSCo ?lSCo ?cSCo ?kSCo ?uSTh ?vSTh ?wSTh ?xSTh ?lSTh ?cSTh ?kSTh ?uSDa ?vSDa ?wSDa ?xSDa ?lSDa ?cSDa ?kSDa ?pgS ?hdS ?poS ?saS ?mkS ?kcS ?nSt ?gLETTERS ?gLETTERS_AND_DIGITS ?gLONGEST_NAME ?gMOST_MINDS ?gMOST_WAYS ?gMOST_WEIGHT ?zlen ?zrange ?zint ?zabs ?zdivmod ?zsum ?ztuple ?zall ?zmax ?zmin ?zstr ?zbool ?zisinstance ?zenumerate ?zrepr ?zzip ?qgcd ?qlcm
    (case aInt => k_is)
    (case lInt => k_is)
    (case cInt => k_is)
    (case kInt => k_is)
    (case aIdx => k_is)
    (case lIdx => k_is)
    (case cIdx => k_is)
    (case kIdx => k_is)
    (case aName => k_is)
    (case lName => k_is)
    (case cName => k_is)
    (case kName => k_is)
    (case aFra => k_is)
    (case lFra => k_is)
    (case cFra => k_is)
    (case kFra => k_is)
    (case aWgt => k_is)
    (case lWgt => k_is)
    (case cWgt => k_is)
    (case kWgt => k_is)
    (case aRoww => k_is)
    (case lRoww => k_is)
    (case cRoww => k_is)
    (case kRoww => k_is)
    (case aWay => k_is)
    (case lWay => k_is)
    (case cWay => k_is)
    (case kWay => k_is)
    (case aCMi => k_is)
    (case lCMi => k_is)
    (case cCMi => k_is)
    (case kCMi => k_is)
    (case aCWa => k_is)
    (case lCWa => k_is)
    (case cCWa => k_is)
    (case kCWa => k_is)
    (case aCkC => k_is)
    (case lCkC => k_is)
    (case cCkC => k_is)
    (case kCkC => k_is)
    (case aCkW => k_is)
    (case lCkW => k_is)
    (case cCkW => k_is)
    (case kCkW => k_is)
    (case aCkF => k_is)
    (case lCkF => k_is)
    (case cCkF => k_is)
    (case kCkF => k_is)
    (case aCkT => k_is)
    (case lCkT => k_is)
    (case cCkT => k_is)
    (case kCkT => k_is)
    (case aLws => k_is)
    (case lLws => k_is)
    (case cLws => k_is)
    (case kLws => k_is)
    (case aOob => k_is)
    (case lOob => k_is)
    (case cOob => k_is)
    (case kOob => k_is)
    (case aWgh => k_is)
    (case lWgh => k_is)
    (case cWgh => k_is)
    (case kWgh => k_is)
    (case aMno => k_is)
    (case lMno => k_is)
    (case cMno => k_is)
    (case kMno => k_is)
    (case aSpO => k_is)
    (case lSpO => k_is)
    (case cSpO => k_is)
    (case kSpO => k_is)
    (case aCel => k_is)
    (case lCel => k_is)
    (case cCel => k_is)
    (case kCel => k_is)
    (case aWel => k_is)
    (case lWel => k_is)
    (case cWel => k_is)
    (case kWel => k_is)
    (case aDp => k_is)
    (case lDp => k_is)
    (case cDp => k_is)
    (case kDp => k_is)
    (case aNms => k_is)
    (case lNms => k_is)
    (case cNms => k_is)
    (case kNms => k_is)
    (case aWei => k_is)
    (case lWei => k_is)
    (case cWei => k_is)
    (case kWei => k_is)
    (case aRw => k_is)
    (case lRw => k_is)
    (case cRw => k_is)
    (case kRw => k_is)
    (case aTa => k_is)
    (case lTa => k_is)
    (case cTa => k_is)
    (case kTa => k_is)
    (case aFo => k_is)
    (case lFo => k_is)
    (case cFo => k_is)
    (case kFo => k_is)
    (case aCut => k_is)
    (case lCut => k_is)
    (case cCut => k_is)
    (case kCut => k_is)
    (case aMoo => k_is)
    (case lMoo => k_is)
    (case cMoo => k_is)
    (case kMoo => k_is)
    (case aPlu => k_is)
    (case lPlu => k_is)
    (case cPlu => k_is)
    (case kPlu => k_is)
    (case aTmR => k_is)
    (case lTmR => k_is)
    (case cTmR => k_is)
    (case kTmR => k_is)
    (case aPts => k_is)
    (case lPts => k_is)
    (case cPts => k_is)
    (case kPts => k_is)
    (case aLes => k_is)
    (case lLes => k_is)
    (case cLes => k_is)
    (case kLes => k_is)
    (case aR63 => k_is)
    (case lR63 => k_is)
    (case cR63 => k_is)
    (case kR63 => k_is)
    (case aLaw => k_is)
    (case lLaw => k_is)
    (case cLaw => k_is)
    (case kLaw => k_is)
    (case acC => k_is)
    (case aCIn => k_is)
    (case iCIn => k_is)
    (case lCIn => k_is)
    (case cCIn => k_is)
    (case kCIn => k_is)
    (case aCLe => k_is)
    (case iCLe => k_is)
    (case lCLe => k_is)
    (case cCLe => k_is)
    (case kCLe => k_is)
    (case uCWy => k_is)
    (case vCWy => k_is)
    (case wCWy => k_is)
    (case xCWy => k_is)
    (case lCWy => k_is)
    (case cCWy => k_is)
    (case kCWy => k_is)
    (case pg => k_is)
    (case hd => k_is)
    (case po => k_is)
    (case sa => k_is)
    (case mk => k_is)
    (case kc => k_is)
    (case nM => k_is)
    (case nW => k_is)
    (case o1 => k_is)
    (case o2 => k_is)
    (case o3 => k_is)
    (case o5 => k_is)
    (case acS => k_is)
    (case aSIn => k_is)
    (case iSIn => k_is)
    (case lSIn => k_is)
    (case cSIn => k_is)
    (case kSIn => k_is)
    (case aSGo => k_is)
    (case iSGo => k_is)
    (case lSGo => k_is)
    (case cSGo => k_is)
    (case kSGo => k_is)
    (case aSDy => k_is)
    (case iSDy => k_is)
    (case lSDy => k_is)
    (case cSDy => k_is)
    (case kSDy => k_is)
    (case aSSp => k_is)
    (case iSSp => k_is)
    (case lSSp => k_is)
    (case cSSp => k_is)
    (case kSSp => k_is)
    (case uSCo => k_is)
    (case vSCo => k_is)
    (case wSCo => k_is)
    (case xSCo => k_is)
    (case lSCo => k_is)
    (case cSCo => k_is)
    (case kSCo => k_is)
    (case uSTh => k_is)
    (case vSTh => k_is)
    (case wSTh => k_is)
    (case xSTh => k_is)
    (case lSTh => k_is)
    (case cSTh => k_is)
    (case kSTh => k_is)
    (case uSDa => k_is)
    (case vSDa => k_is)
    (case wSDa => k_is)
    (case xSDa => k_is)
    (case lSDa => k_is)
    (case cSDa => k_is)
    (case kSDa => k_is)
    (case pgS => k_is)
    (case hdS => k_is)
    (case poS => k_is)
    (case saS => k_is)
    (case mkS => k_is)
    (case kcS => k_is)
    (case nSt => k_is)
    (case gLETTERS => k_is)
    (case gLETTERS_AND_DIGITS => k_is)
    (case gLONGEST_NAME => k_is)
    (case gMOST_MINDS => k_is)
    (case gMOST_WAYS => k_is)
    (case gMOST_WEIGHT => k_is)
    (case zlen => k_is)
    (case zrange => k_is)
    (case zint => k_is)
    (case zabs => k_is)
    (case zdivmod => k_is)
    (case zsum => k_is)
    (case ztuple => k_is)
    (case zall => k_is)
    (case zmax => k_is)
    (case zmin => k_is)
    (case zstr => k_is)
    (case zbool => k_is)
    (case zisinstance => k_is)
    (case zenumerate => k_is)
    (case zrepr => k_is)
    (case zzip => k_is)
    (case qgcd => k_is)
    (case qlcm => k_is)

