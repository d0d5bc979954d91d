import PyProof.Rows.All
import Wide.All
import OpenK.AllK
import Wide.FinOn
import HandS.ForMost
import HandS.IsInst
import HandS.Property
import HandS.ClsMeth
import HandS.MakeKw
import HandS.MakeKwOnly
import HandS.OwnEq
import HandS.Flow
import HandS.Style
import HandS.TupAny
import HandS.Conv
import HandS.Codes
import HandS.Walk
import HandS.Wide
import HandS.WideBits
import HandS.StrMore
import HandS.Exc
import HandS.TryOnly
import HandS.TryMany
import HandS.ExcOwn
import HandS.WordsExc
import HandS.Small
import KE.KTupSum
import KE.GoesEnum
import PyProof.ReprRoads
import OpenK.KOps
import KE.KCallOwn
import KE.KFmtOwn
import PyProof.InstNe
import PyProof.ReprBulk
import KE.KRevSl
import PyProof.EqKinds
import PyProof.NeKinds
import PyProof.FactsAll.dict
import KE.KTryMore
import HandS.ExcInit
import HandS.ExcValue
import HandS.ExcIs
import HandS.ExcField
import KE.KExcInit
import HandS.HotCalls
import HandS.ExcInitHot
import HandS.Lambda
import HandS.DeepEq
import HandS.TupMul
import PyProof.EqAt
import PyProof.Rows.EqBoolInt
import HandS.EndTab
import KE.KNestM
import KE.KIntText
import KE.KxLen
import HandS.NoneIn
import PySem.Challenge.RW_alwaysagree_k04_ways_refused
set_option Elab.async false
set_option linter.all false
set_option maxRecDepth 100000
set_option maxHeartbeats 4000000
namespace U
open PySem L2

/-- a def of the text that lets nothing out, as its callers see it -/
structure DefX (P : Program) (w : World) (K : PySem.W.Frag) (mg : Str → Option Value) (base : Heap) (k : Nat) (x : Str) (ps : List Str) (sp : Sp) : Prop where
  ex : ∃ (f : Addr) (fd : FuncData), FnOk P w K mg base CX0 k f fd ps sp ∧ mg x = some (.ref f) ∧ PySem.W.keepIn K (.ref f) = true ∧ Binds K fd ps []

section
variable {X : Cx}
theorem pe_fn {k j : Nat} {x : Str} {ps : List Str} {sp : Sp} {e : Expr} {es : List Expr} {t : TA} {p pos : Pos} (D : DefX X.prog X.w X.K X.mg X.base k x ps sp) (hr : Room j X.A) (hk : k ≤ j)
    (ha : PA X (e :: es) t) (hg : Gl X x := by rfl) (hdb : (x == ("__debug__" : Str)) = false := by decide) (he : starEach (e :: es) X.env = (false, eval e X.env) :: starEach es X.env := by rfl) (hpl : (backTo pos (starEach es X.env)).any (·.1) = false := by rfl) :
    PE X (.Call (.Name x p) (e :: es) [] pos) (tCall sp [] E0 t) := by
  obtain ⟨f, fd, F, hm, hkp, hb⟩ := D.ex
  exact pe_call F (hr.mono hk) hg hm hkp hb .nil pass0 ha hdb he hpl
end

/-- a module's constant, by what it is -/
theorem pe_globE {X : Cx} {x : Str} {v : V} {pos : Pos} (h : ∃ u, X.mg x = some u ∧ RelV v u) (hg : Gl X x := by rfl) (hd : (x == ("__debug__" : Str)) = false := by decide) : PE X (.Name x pos) (tC v) := by
  obtain ⟨u, hm, r⟩ := h
  exact pe_glob hg hm r hd
/-! ### rules with the written part named (within a comprehension's block it must not hang on the block) -/
section
variable {X : Cx}
def rLenQ (K : PySem.W.Frag) : List V → Hp → VK → Prop := fun xs H Q => ∃ p ys, xs = [.ref p] ∧ (SqL K H p ys ∨ SqT K H p ys) ∧ Q (.int ys.length) H
theorem lenQ (K : PySem.W.Frag) (h : X.K = K := by rfl) : CallR X (.builtin "len") (rLenQ K) := by subst h; exact call_len_seq
def rTupO (K : PySem.W.Frag) : List V → Hp → VK → Prop := fun xs H Q => ∃ p ys, xs = [.ref p] ∧ ((SqL K H p ys ∧ ∀ l, H l = none → Q (.ref l) (upd H l (.tup ys))) ∨ (SqT K H p ys ∧ Q (.ref p) H))
theorem tupO (K : PySem.W.Frag) (h : X.K = K := by rfl) : CallR X (.type "tuple") (rTupO K) := by subst h; exact call_tuple_of
def rLstO (K : PySem.W.Frag) : List V → Hp → VK → Prop := fun xs H Q => ∃ p ys, xs = [.ref p] ∧ (SqL K H p ys ∨ SqT K H p ys) ∧ ∀ l, H l = none → Q (.ref l) (upd H l (.lst ys))
theorem lstO (K : PySem.W.Frag) (h : X.K = K := by rfl) : CallR X (.type "list") (rLstO K) := by subst h; exact call_list_of
theorem ixL (K : PySem.W.Frag) (h : X.K = K := by rfl) : IxR X (rIxL K) := by subst h; exact ix_list
theorem ixT (K : PySem.W.Frag) (h : X.K = K := by rfl) : IxR X (rIxT K) := by subst h; exact ix_tup
theorem slL (K : PySem.W.Frag) (h : X.K = K := by rfl) : SlR X (rSlL K) := by subst h; exact sl_list
theorem slA (K : PySem.W.Frag) (h : X.K = K := by rfl) : SlR X (rSlA K) := by subst h; exact sl_tupA
theorem sumL (K : PySem.W.Frag) (hc : X.calm = true := by rfl) (h : X.K = K := by rfl) : CallR X (.builtin "sum") (rSum K) := by subst h; exact cr_sum hc
theorem allL (K : PySem.W.Frag) (hc : X.calm = true := by rfl) (h : X.K = K := by rfl) : CallR X (.builtin "all") (rAll K) := by subst h; exact cr_all hc
theorem inQ (K : PySem.W.Frag) (h : X.K = K := by rfl) : OpR X (compareOp .In) (rIn K false) := by subst h; exact op_in_seq
theorem ninQ (K : PySem.W.Frag) (h : X.K = K := by rfl) : OpR X (compareOp .NotIn) (rIn K true) := by subst h; exact op_notIn_seq
theorem eqD (K : PySem.W.Frag) (hu : X.A.units + 64 < cLine) (h : X.K = K := by rfl) : OpR X (compareOp .Eq) (rEqD K) := by subst h; exact op_eqD hu
theorem neD (K : PySem.W.Frag) (hu : X.A.units + 64 < cLine) (h : X.K = K := by rfl) : OpR X (compareOp .NotEq) (rNeD K) := by subst h; exact op_neD hu
theorem catA (K : PySem.W.Frag) (h : X.K = K := by rfl) : OpR X (binaryOp .Add) (rCatA K) := by subst h; exact op_catA
theorem isiQ (K : PySem.W.Frag) (h : X.K = K := by rfl) : CallR X (.builtin "isinstance") (rIsi K) := by subst h; exact call_isi
theorem piL (K : PySem.W.Frag) {tg l : Expr} {tl : TE} (hl : PE X l tl) (h : X.K = K := by rfl) : PI X tg l (iList K tl) := by subst h; exact pi_list hl
theorem piT (K : PySem.W.Frag) {tg l : Expr} {tl : TE} (hl : PE X l tl) (h : X.K = K := by rfl) : PI X tg l (iTup K tl) := by subst h; exact pi_tup hl
def rJoin (K : PySem.W.Frag) : V → List V → Hp → VK → Prop := fun x xs H Q => ∃ a p, ∃ ys : List Str, x = .str a ∧ xs = [.ref p] ∧ (SqL K H p (ys.map V.str) ∨ SqT K H p (ys.map V.str)) ∧
    (ys.map (·.length)).sum + ys.length * a.length ≤ 16777216 ∧ Q (.str (Txt.join a ys)) H
theorem joinQ (K : PySem.W.Frag) (h : X.K = K := by rfl) : MtR X "str.join" (rJoin K) := by subst h; exact mt_join
variable {o e : Expr} {es : List Expr} {to : TE} {t : TA} {name : Str} {apos cpos : Pos} {T id : String} {r : V → List V → Hp → VK → Prop}
theorem pbm (K : PySem.W.Frag) (pa : PlainAttrs T) (slot : Slot T name id) (hty : typeOf (.builtin id) = pure (.type "method_descriptor")) (hm : MtR X id r) (ho : PE X o to) (ha : PA X (e :: es) t) (h : X.K = K := by rfl)
    (hbase : attributeBase o name X.env (eval o X.env) = eval o X.env := by rfl)
    (hfew : ((backTo cpos (starEach (e :: es) X.env)).all (fun x => !x.1) && (backToKw cpos (keywordEach [] X.env)).all (fun x => x.1.isSome)
      && decide ((e :: es).length + ([] : List Keyword).length + (if ([] : List Keyword).isEmpty then 0 else 1) < 30)) = true := by rfl)
    (hline : (apos.endLine == cpos.line) = true := by rfl) (hs : starEach (e :: es) X.env = (false, eval e X.env) :: starEach es X.env := by rfl) (hplain : (backTo cpos (starEach es X.env)).any (·.1) = false := by rfl) :
    PE X (.Call (.Attribute o name apos) (e :: es) [] cpos) (tBM K T r to t) := by
  subst h
  exact pe_bm pa slot hty hm ho ha hbase hfew hline hs hplain
theorem pbm0 (K : PySem.W.Frag) (pa : PlainAttrs T) (slot : Slot T name id) (hty : typeOf (.builtin id) = pure (.type "method_descriptor")) (hm : MtR X id r) (ho : PE X o to) (h : X.K = K := by rfl)
    (hbase : attributeBase o name X.env (eval o X.env) = eval o X.env := by rfl) (hline : (apos.endLine == cpos.line) = true := by rfl) : PE X (.Call (.Attribute o name apos) [] [] cpos) (tBM0 K T r to) := by
  subst h
  exact pe_bm0 pa slot hty hm ho hbase hline
theorem pjoin (K : PySem.W.Frag) {apos cpos : Pos} {o e : Expr} {to : TE} {t : TA} (ho : PE X o to) (ha : PA X [e] t) (h : X.K = K := by rfl)
    (hbase : attributeBase o "join" X.env (eval o X.env) = eval o X.env := by rfl)
    (hfew : ((backTo cpos (starEach [e] X.env)).all (fun x => !x.1) && (backToKw cpos (keywordEach [] X.env)).all (fun x => x.1.isSome)
      && decide ([e].length + ([] : List Keyword).length + (if ([] : List Keyword).isEmpty then 0 else 1) < 30)) = true := by rfl)
    (hline : (apos.endLine == cpos.line) = true := by rfl) (hs : starEach [e] X.env = (false, eval e X.env) :: starEach [] X.env := by rfl) (hplain : (backTo cpos (starEach [] X.env)).any (·.1) = false := by rfl) :
    PE X (.Call (.Attribute o "join" apos) [e] [] cpos) (tBM K "str" (rJoin K) to t) :=
  pbm K PySem.F.plainAttrs_str PySem.F.slot_str_join PySem.F.type_str_join (joinQ K h) ho ha h hbase hfew hline hs hplain
end

/-! ### a tuple stands: as the rules lay it, or with its record kept -/
def TuO (o : HO) (xs : List V) : Prop := o = .tup xs ∨ ∃ r : Obj, r.dict = none ∧ o = .frz r (.tup xs)
def Tu (H : Hp) (a : Addr) (xs : List V) : Prop := ∃ o, H a = some o ∧ TuO o xs
section
variable {H H' : Hp} {a b : Addr} {xs ys : List V}
theorem Tu.of (h : H a = some (.tup xs)) : Tu H a xs := ⟨_, h, .inl rfl⟩
theorem Tu.up : Tu (upd H a (.tup xs)) a xs := Tu.of upd_same
theorem Tu.sq {K : PySem.W.Frag} (h : Tu H a xs) : SqT K H a xs := by
  obtain ⟨o, e, rfl | ⟨r, _, rfl⟩⟩ := h
  · exact .inl (.inl e)
  · exact .inl (.inr ⟨r, e⟩)
theorem Tu.keep (h : Tu H a xs) (k : ∀ o, H a = some o → H' a = some o) : Tu H' a xs := by
  obtain ⟨o, e, t⟩ := h
  exact ⟨o, k o e, t⟩
theorem Tu.same (h : Tu H a xs) (s : Same H H') : Tu H' a xs := h.keep fun o e => s a o e
theorem Tu.neL (h : Tu H a xs) (e : H b = some (.lst ys)) : a ≠ b := by
  obtain ⟨o, e1, rfl | ⟨r, _, rfl⟩⟩ := h
  · exact ne_of e1 e (by intro z; cases z)
  · exact ne_of e1 e (by intro z; cases z)
theorem Tu.neI {C dx : Addr} {fs : List (Str × V)} (h : Tu H a xs) (e : H b = some (.ins C dx fs)) : a ≠ b := by
  obtain ⟨o, e1, rfl | ⟨r, _, rfl⟩⟩ := h
  · exact ne_of e1 e (by intro z; cases z)
  · exact ne_of e1 e (by intro z; cases z)
theorem Tu.neN (h : Tu H a xs) (e : H b = none) : a ≠ b := by
  obtain ⟨o, e1, _⟩ := h
  exact ne_of_none e1 e
theorem Tu.tyx {K : PySem.W.Frag} (h : Tu H a xs) : TyX K H (.ref a) (.type "tuple") := by
  obtain ⟨o, e, rfl | ⟨r, _, rfl⟩⟩ := h
  · exact .base (.tup e)
  · exact .fTuple e
end
/-- tuple(a list), its record kept: its methods may be asked -/
def rTupF (K : PySem.W.Frag) : List V → Hp → VK → Prop := fun xs H Q => ∃ (p : Addr) (ys : List V), xs = [.ref p] ∧ SqL K H p ys ∧ ∀ (l : Addr) (r : Obj), H l = none → r.dict = none → Q (.ref l) (upd H l (.frz r (.tup ys)))
theorem tupF {X : Cx} (K : PySem.W.Frag) (h : X.K = K := by rfl) : CallR X (.type "tuple") (rTupF K) := by
  subst h
  intro pins s σ H xs us Q I r h
  obtain ⟨p, ys, rfl, hq, q⟩ := h
  obtain ⟨u, rfl, rx⟩ := vals1 r
  cases rx
  obtain ⟨its, rv, pl, hz⟩ := I.list hq
  have hlen := rv.length
  refine call_tuple_list pl.isList (fun h' kp => ?_) (by simp only [List.size_toArray] <;> omega)
  have I1 : Inv X pins σ H { s with heap := h' } := I.kept (t' := s.toks) kp
  refine ⟨.ref h'.objs.size, _, I1.laid (t' := s.toks) (o := .frz { cls := .type "tuple", data := .seq its.toArray } (.tup ys)) (fun b o e => Heap.get?_push_of_some _ e) (Nat.le_refl _) ⟨Heap.get?_push_size _ rfl, hz, its, rv, PyProof.Rows.IsTup.new _ _⟩, rfl, q _ _ (I1.hok.fresh (Nat.le_refl _)) rfl⟩
/-- such a tuple -/
def Fz (H : Hp) (v : V) (xs : List V) : Prop := ∃ (a : Addr) (r : Obj), v = .ref a ∧ r.dict = none ∧ H a = some (.frz r (.tup xs))
theorem Fz.same {H H' : Hp} {v : V} {xs : List V} (f : Fz H v xs) (s : Same H H') : Fz H' v xs := by
  obtain ⟨a, r, e, d, h⟩ := f
  exact ⟨a, r, e, d, s _ _ h⟩
/-- t.m(e, ..) of such a tuple -/
def tBMF (r : V → List V → Hp → VK → Prop) (to : TE) (t : TA) : TE := fun σ H Q => to σ H fun x H1 => (∃ xs, Fz H1 x xs) ∧ t σ H1 fun vs H2 => r x vs H2 Q
theorem pbmF {X : Cx} {o e : Expr} {es : List Expr} {to : TE} {t : TA} {name : Str} {apos cpos : Pos} {id : String} {r : V → List V → Hp → VK → Prop} (slot : Slot "tuple" name id) (hty : typeOf (.builtin id) = pure (.type "method_descriptor")) (hm : MtR X id r) (ho : PE X o to) (ha : PA X (e :: es) t)
    (hbase : attributeBase o name X.env (eval o X.env) = eval o X.env := by rfl)
    (hfew : ((backTo cpos (starEach (e :: es) X.env)).all (fun x => !x.1) && (backToKw cpos (keywordEach [] X.env)).all (fun x => x.1.isSome) && decide ((e :: es).length + ([] : List Keyword).length + (if ([] : List Keyword).isEmpty then 0 else 1) < 30)) = true := by rfl)
    (hline : (apos.endLine == cpos.line) = true := by rfl) (hs : starEach (e :: es) X.env = (false, eval e X.env) :: starEach es X.env := by rfl) (hplain : (backTo cpos (starEach es X.env)).any (·.1) = false := by rfl) :
    PE X (.Call (.Attribute o name apos) (e :: es) [] cpos) (tBMF r to t) := by
  constructor
  intro pins s σ H Q I h
  refine wpAny_Call_method_late hbase hfew hline rfl (thn (ho.run pins s σ H _ I h) fun v s1 hh => ?_)
  obtain ⟨x, H1, I1, r1, ⟨xs, a, ro, rfl, hd, he⟩, q1⟩ := hh
  cases r1
  obtain ⟨g, hz, its, rv, it⟩ := I1.hok _ _ he
  refine ⟨"tuple", id, PySem.F.plainAttrs_tuple, slot, hty, it.typeIs, fun b e => ?_, ?_⟩
  · cases e
    exact ⟨ro, g, hd⟩
  have hA := ha.run cpos pins s1 σ H1 _ I1 q1
  rw [hs] at hA ⊢
  refine Calls.callWith_builtin (by show (false || (backTo cpos (starEach es X.env)).any (·.1)) = false; rw [hplain]; rfl) (Calls.evalArgs_plain ?_)
  exact thn hA fun us s2 hh => by
    obtain ⟨vs, H2, I2, r2, q2⟩ := hh
    exact hm pins s2 σ H2 (.ref a) vs _ us Q I2 (show RelV (V.ref a) (Value.ref a) from rfl) r2 q2
/-! ### data that never changes: tuples of tuples of plain values -/
mutual
inductive Im (H : Hp) : V → PyData → Prop
  | non : Im H .non .none
  | bl (b : Bool) : Im H (.bl b) (.bool b)
  | int (i : Int) : Im H (.int i) (.int i)
  | str (x : Str) : Im H (.str x) (.str x)
  | tup {a : Addr} {xs : List V} {ds : List PyData} : Tu H a xs → ImAll H xs ds → Im H (.ref a) (.tuple ds)
inductive ImAll (H : Hp) : List V → List PyData → Prop
  | nil : ImAll H [] []
  | cons {v : V} {vs : List V} {d : PyData} {ds : List PyData} : Im H v d → ImAll H vs ds → ImAll H (v :: vs) (d :: ds)
end
/-- the tuples stand -/
def TupS (H H' : Hp) : Prop := ∀ a xs, Tu H a xs → Tu H' a xs
mutual
theorem Im.mono {H H' : Hp} (k : TupS H H') : ∀ (d : PyData) (v : V), Im H v d → Im H' v d
  | .none, _, h => by cases h; exact .non
  | .bool _, _, h => by cases h; exact .bl _
  | .int _, _, h => by cases h; exact .int _
  | .str _, _, h => by cases h; exact .str _
  | .list _, _, h => by cases h
  | .dict _, _, h => by cases h
  | .tuple ds, _, h => by
    cases h with
    | tup h1 h2 => exact .tup (k _ _ h1) (ImAll.mono k ds _ h2)
theorem ImAll.mono {H H' : Hp} (k : TupS H H') : ∀ (ds : List PyData) (vs : List V), ImAll H vs ds → ImAll H' vs ds
  | [], _, h => by cases h; exact .nil
  | d :: ds, _, h => by
    cases h with
    | cons h1 h2 => exact .cons (Im.mono k d _ h1) (ImAll.mono k ds _ h2)
end
mutual
theorem Im.dp {K : PySem.W.Frag} {H : Hp} : ∀ (d : PyData) (v : V), Im H v d → Dp K H v d
  | .none, _, h => by cases h; exact .non
  | .bool _, _, h => by cases h; exact .bl _
  | .int _, _, h => by cases h; exact .int _
  | .str _, _, h => by cases h; exact .str _
  | .list _, _, h => by cases h
  | .dict _, _, h => by cases h
  | .tuple ds, _, h => by
    cases h with
    | tup h1 h2 => exact .tup h1.sq (ImAll.dp ds _ h2)
theorem ImAll.dp {K : PySem.W.Frag} {H : Hp} : ∀ (ds : List PyData) (vs : List V), ImAll H vs ds → DpAll K H vs ds
  | [], _, h => by cases h; exact .nil
  | d :: ds, _, h => by
    cases h with
    | cons h1 h2 => exact .cons (Im.dp d _ h1) (ImAll.dp ds _ h2)
end
theorem Same.tups {H H' : Hp} (s : Same H H') : TupS H H' := fun a xs e => e.same s
theorem ImAll.length {H : Hp} : ∀ {ds : List PyData} {vs : List V}, ImAll H vs ds → vs.length = ds.length
  | [], _, h => by cases h; rfl
  | d :: ds, _, h => by
    cases h with
    | cons h1 h2 => rw [List.length_cons, List.length_cons, ImAll.length h2]
theorem ImAll.get {H : Hp} : ∀ {ds : List PyData} {vs : List V} {i : Nat} {v : V}, ImAll H vs ds → vs[i]? = some v → ∃ d, ds[i]? = some d ∧ Im H v d
  | [], _, _, _, h, e => by cases h; simp at e
  | d :: ds, _, 0, _, h, e => by
    cases h with
    | cons h1 h2 =>
      rw [List.getElem?_cons_zero] at e
      cases e
      exact ⟨d, rfl, h1⟩
  | d :: ds, _, i + 1, v, h, e => by
    cases h with
    | cons h1 h2 =>
      rw [List.getElem?_cons_succ] at e
      obtain ⟨d', q1, q2⟩ := ImAll.get (i := i) (v := v) h2 e
      exact ⟨d', by rw [List.getElem?_cons_succ]; exact q1, q2⟩
theorem ImAll.snoc {H : Hp} {d : PyData} {v : V} (h : Im H v d) : ∀ {ds : List PyData} {vs : List V}, ImAll H vs ds → ImAll H (vs ++ [v]) (ds ++ [d])
  | [], _, q => by cases q; exact .cons h .nil
  | _ :: _, _, q => by
    cases q with
    | cons h1 h2 => exact .cons h1 (ImAll.snoc h h2)
theorem imInts {H : Hp} : ∀ r : List Int, ImAll H (r.map V.int) (r.map PyData.int)
  | [] => .nil
  | z :: r => .cons (.int z) (imInts r)
theorem imStrs {H : Hp} : ∀ r : List Str, ImAll H (r.map V.str) (r.map PyData.str)
  | [] => .nil
  | z :: r => .cons (.str z) (imStrs r)
theorem ImAll.ints {H : Hp} : ∀ {r : List Int} {vs : List V}, ImAll H vs (r.map PyData.int) → vs = r.map V.int
  | [], _, h => by cases h; rfl
  | z :: r, _, h => by
    cases h with
    | cons h1 h2 =>
      cases h1
      rw [ImAll.ints h2]; rfl
theorem ImAll.strs {H : Hp} : ∀ {r : List Str} {vs : List V}, ImAll H vs (r.map PyData.str) → vs = r.map V.str
  | [], _, h => by cases h; rfl
  | z :: r, _, h => by
    cases h with
    | cons h1 h2 =>
      cases h1
      rw [ImAll.strs h2]; rfl
theorem Im.tuple {H : Hp} {v : V} {ds : List PyData} (h : Im H v (.tuple ds)) : ∃ a xs, v = .ref a ∧ Tu H a xs ∧ ImAll H xs ds := by
  cases h with
  | tup h1 h2 => exact ⟨_, _, rfl, h1, h2⟩

/-! ### readings: two ways that meet -/
theorem tif_int {c : Prop} [Decidable c] {ta tb : TE} {σ : St} {H : Hp} {Q : VK} (C : Int → Prop) (hA : c → ∀ Q' : VK, (∀ z, C z → Q' (.int z) H) → ta σ H Q') (hB : ¬ c → ∀ Q' : VK, (∀ z, C z → Q' (.int z) H) → tb σ H Q')
    (h : ∀ z, C z → Q (.int z) H) : if c then ta σ H Q else tb σ H Q := by
  by_cases e : c
  · rw [if_pos e]; exact hA e Q h
  · rw [if_neg e]; exact hB e Q h
theorem tifS_join {c : Prop} [Decidable c] {t u : TS} {D : Ends} {σ : St} {H : Hp} (P : St → Hp → Prop) (hA : c → ∀ N : St → Hp → Prop, (∀ σ' H', P σ' H' → N σ' H') → t { D with nx := N } σ H)
    (hB : ¬ c → ∀ N : St → Hp → Prop, (∀ σ' H', P σ' H' → N σ' H') → u { D with nx := N } σ H) (h : ∀ σ' H', P σ' H' → D.nx σ' H') : if c then t D σ H else u D σ H := by
  by_cases e : c
  · rw [if_pos e]; exact hA e D.nx h
  · rw [if_neg e]; exact hB e D.nx h
theorem yes {σ : St} {H : Hp} {Q : Bool → Hp → Prop} (h : Q true H) : tYes σ H Q := h
theorem turnY {σ : St} {H : Hp} {A B : Hp → Prop} (h : A H) : tYes σ H (fun b H3 => if b = true then A H3 else B H3) := by
  show if true = true then A H else B H
  rw [if_pos rfl]; exact h
theorem same_upd {H : Hp} {a : Addr} {o : HO} (h : H a = none) : Same H (upd H a o) := fun b u e => by
  rw [upd_ne (ne_of_none e h)]; exact e

/-! ### all but one thing stands -/
def But (j : Addr) (H H' : Hp) : Prop := ∀ b o, b ≠ j → H b = some o → H' b = some o
theorem But.refl {j : Addr} {H : Hp} : But j H H := fun _ _ _ e => e
theorem But.trans {j : Addr} {H H1 H2 : Hp} (a : But j H H1) (b : But j H1 H2) : But j H H2 := fun c o n e => b c o n (a c o n e)
theorem But.of {j : Addr} {H H' : Hp} (s : Same H H') : But j H H' := fun b o _ e => s b o e
theorem But.new {j a : Addr} {H : Hp} {o : HO} (h : H a = none) : But j H (upd H a o) := .of (same_upd h)
/-- a thing of ours, made after H, is changed -/
theorem But.put {j a : Addr} {H H' : Hp} {o : HO} (b : But j H H') (h : H a = none) : But j H (upd H' a o) := fun c u n e => by
  rw [upd_ne (ne_of_none e h)]; exact b c u n e
theorem But.free {j a : Addr} {H H' : Hp} {o : HO} (b : But j H H') (hj : H' j = some o) (h : H' a = none) : H a = none := by
  cases e : H a with
  | none => rfl
  | some u =>
    have n : a ≠ j := fun z => by rw [z, hj] at h; cases h
    rw [b a u n e] at h; cases h
/-- a jug stands at j -/
def JugAt (H : Hp) (j : Addr) : Prop := ∃ a b c : Int, H j = some (.lst [.int a, .int b, .int c]) ∧ 0 ≤ a
theorem JugAt.upd {H : Hp} {j a : Addr} {o : HO} (h : JugAt H j) (n : H a = none) : JugAt (upd H a o) j := by
  obtain ⟨x, b, c, e, q⟩ := h
  exact ⟨x, b, c, by rw [upd_ne (ne_of_none e n)]; exact e, q⟩
theorem JugAt.ne {H : Hp} {j a : Addr} (h : JugAt H j) (n : H a = none) : j ≠ a := by
  obtain ⟨x, b, c, e, q⟩ := h
  exact ne_of_none e n
theorem JugAt.put {H : Hp} {j a : Addr} {o : HO} (h : JugAt H j) (n : j ≠ a) : JugAt (L2.upd H a o) j := by
  obtain ⟨x, b, c, e, q⟩ := h
  exact ⟨x, b, c, by rw [upd_ne n]; exact e, q⟩
theorem JugAt.same {H H' : Hp} {j : Addr} (h : JugAt H j) (s : Same H H') : JugAt H' j := by
  obtain ⟨x, b, c, e, q⟩ := h
  exact ⟨x, b, c, s _ _ e, q⟩
theorem But.tups {H H' : Hp} {j : Addr} (b : But j H H') (h : JugAt H j) : TupS H H' := fun a xs e => by
  obtain ⟨x, y, c, q, _⟩ := h
  exact e.keep fun o eo => b a o (e.neL q) eo
theorem But.freeJ {j a : Addr} {H H' : Hp} (b : But j H H') (hj : JugAt H' j) (h : H' a = none) : H a = none := by
  obtain ⟨x, y, c, q, _⟩ := hj
  exact b.free q h
theorem TupS.trans {H H1 H2 : Hp} (a : TupS H H1) (b : TupS H1 H2) : TupS H H2 := fun p xs e => b p xs (a p xs e)
theorem TupS.lst {H : Hp} {D : Addr} {xs : List V} {o : HO} (h : H D = some (.lst xs)) : TupS H (upd H D o) := fun a ys e => e.keep fun u eu => by
  rw [upd_ne (e.neL h)]; exact eu
theorem TupS.new {H : Hp} {D : Addr} {o : HO} (h : H D = none) : TupS H (upd H D o) := Same.tups (same_upd h)
/-- a written list of ints, at a place in it -/
theorem pick {xs : List Int} {d : Int} (h0 : 0 ≤ d) (h1 : d < xs.length) : ∃ z, z ∈ xs ∧ atI (xs.map V.int) d = some (.int z) := by
  obtain ⟨k, rfl⟩ : ∃ k : Nat, d = k := ⟨d.toNat, by omega⟩
  have hk : k < xs.length := by omega
  exact ⟨xs[k], List.getElem_mem hk, atI_nat (by rw [List.getElem?_map, List.getElem?_eq_getElem hk]; rfl)⟩
theorem pickV {xs : List V} {d : Int} (h0 : 0 ≤ d) (h1 : d < xs.length) : ∃ z, z ∈ xs ∧ atI xs d = some z := by
  obtain ⟨k, rfl⟩ : ∃ k : Nat, d = k := ⟨d.toNat, by omega⟩
  have hk : k < xs.length := by omega
  exact ⟨xs[k], List.getElem_mem hk, atI_nat (List.getElem?_eq_getElem hk)⟩

/-! ### councils as plain data -/
def dRow (r : List Int) : PyData := .tuple (r.map PyData.int)
def dWay (w : List (List Int)) : PyData := .tuple (w.map dRow)
def dWays (ws : List (List (List Int))) : PyData := .tuple (ws.map dWay)
def dMinds (ms : List Str) : PyData := .tuple (ms.map PyData.str)
def RowOk (n : Nat) (r : List Int) : Prop := r.length = n ∧ (∀ x ∈ r, 0 ≤ x ∧ x ≤ 1000000000) ∧ 0 < r.sum
def WayOk (n : Nat) (w : List (List Int)) : Prop := w.length = n ∧ ∀ r ∈ w, RowOk n r
def pool8 : List Str := ["ann", "bob", "cyd", "d2", "e", "z9999999", "abe", "x"]
/-- what the law draws: up to six minds of the pool, up to four ways -/
structure Drawn (ms : List Str) (ws : List (List (List Int))) : Prop where
  m1 : 1 ≤ ms.length
  m6 : ms.length ≤ 6
  nd : ms.Nodup
  pool : ∀ x ∈ ms, x ∈ pool8
  w1 : 1 ≤ ws.length
  w4 : ws.length ≤ 4
  way : ∀ w ∈ ws, WayOk ms.length w
  sm : ∀ w ∈ ws, ∀ r ∈ w, ∀ x ∈ r, x ≤ 7 ∨ x = 1000000000


/-! ### the sum of a tuple of ints -/
def rSumT (K : PySem.W.Frag) : List V → Hp → VK → Prop := fun vs H Q => ∃ (a : Addr) (ns : List Int), vs = [V.ref a] ∧ SqT K H a (ns.map V.int) ∧ Q (.int ns.sum) H
theorem sumT {X : Cx} (K : PySem.W.Frag) (hc : X.calm = true := by rfl) (h : X.K = K := by rfl) : CallR X (.builtin "sum") (rSumT K) := by
  subst h
  intro pins s σ H vs us Q I r h
  obtain ⟨a, ns, rfl, hs, q⟩ := h
  obtain ⟨its, rv, hl, _⟩ := I.tuple hs
  cases r with
  | cons r1 rr =>
    cases rr
    cases r1
    have hi := intsAre_of rv
    obtain ⟨xs, e⟩ := hi.allInts.items
    have hn : numsOf (intItems xs).toList = ns := by rw [← e]; exact hi.numsOf
    rw [nums_intItems] at hn
    rw [e] at hl
    refine PySem.W.ktm_sumG (I.ok.hd hc) hl fun h' tk t' hk => ?_
    rw [preSum_eq, List.take_of_length_le (by simp), hn]
    exact ⟨.int ns.sum, H, I.kept (t' := tk) hk, ⟨_, rfl⟩, q⟩

/-! ### a comprehension whose turns leave what stood: what it makes is told ahead -/
def PvS (H : Hp) (D : Addr) (fl : List V) (i : Nat) (H1 : Hp) : Prop := Same H H1 ∧ H1 D = some (.lst (fl.take i))
section
variable {H H1 H2 : Hp} {D : Addr} {fl : List V} {i : Nat} {y : V}
theorem pvs0 (hD : H D = none) : PvS H D fl 0 (upd H D (.lst [])) := ⟨same_upd hD, upd_same⟩
theorem pvs1 (hD : H D = none) (h : PvS H D fl i H1) (s : Same H1 H2) (hn : fl.length ≤ 1000) (hf : fl[i]? = some y) : ∃ acc : List V, H2 D = some (.lst acc) ∧ acc.length < sizeLine ∧
    PvS H D fl (i + 1) (upd H2 D (.lst (acc ++ [y]))) := by
  refine ⟨_, s D _ h.2, small1000 (by rw [List.length_take]; omega), fun b o e => ?_, ?_⟩
  · rw [upd_ne (ne_of_none e hD)]
    exact s b o (h.1 b o e)
  · rw [upd_same, List.take_succ, hf]
    rfl
theorem pvsE {n : Nat} (h : PvS H D fl n H1) (hn : fl.length = n) : Same H H1 ∧ H1 D = some (.lst fl) := by
  obtain ⟨a, b⟩ := h
  rw [← hn, List.take_length] at b
  exact ⟨a, b⟩
end
end U

namespace U
open PySem L2 PySem.Spec PyProof.Rows
/-! ### enumerate(t), t a tuple -/
abbrev tIt (t : Addr) : Obj := { cls := .type "tuple_iterator", data := .fields #[.ref t, .int 0 0] }
abbrev eOb (i : Addr) : Obj := { cls := .type "enumerate", data := .fields #[.none, .bool false, .ref i, rawInt 0, .none, .none] }
theorem enumT_new (t : Addr) (items : Array Value) : Meets (Builtin.«enumerate.__new__» ⟨[.type "enumerate", .ref t], []⟩) (fun _ R s => s.heap.IsTuple t items ∧
    R (.ok (.ret (.ref (s.heap.push (tIt t)).objs.size))) { s with heap := (s.heap.push (tIt t)).push (eOb s.heap.objs.size) }) :=
  Meets.of_wp fun prog w A R s h => by
    obtain ⟨hp, g, d, tk, os⟩ := s
    obtain ⟨ht, h⟩ := h
    have hsub := sub_enumerate
    have step : ∀ {A' : Around} {E Q : Value → Shared → Prop}, Q (.ref hp.objs.size) ⟨hp.push (tIt t), g, d, tk, os⟩ → wpAny (model prog w) A' (pyIter (.ref t)) Q E ⟨hp, g, d, tk, os⟩ := fun q => wpAny_pyIter_tuple ht q
    wp_walk using step
    refine wpAny_stack_any fun st => wpAny_pure ?_
    split
    · rename_i c _ _ _ _ _
      cases (c == Value.type "enumerate") <;> (wp_walk using step; exact ⟨_, rfl, h⟩)
    · wp_walk using step
      exact ⟨_, rfl, h⟩
theorem call_enumT {prog : Program} {w : World} {A : Around} {E : Value → Shared → Prop} {s : Shared} {t : Addr} {items : Array Value} {Q : Value → Shared → Prop} (ht : s.heap.IsTuple t items)
    (h : ∀ h', IsEnum h' (s.heap.objs.size + 1) s.heap.objs.size 0 .none → h'.IsTupleIter s.heap.objs.size t 0 → (∀ b o, s.heap.get? b = some o → h'.get? b = some o) → Q (.ref (s.heap.objs.size + 1)) { s with heap := h' }) :
    wpAny (model prog w) A (call (.type "enumerate") [.ref t]) Q E s := by
  refine callType_new F.called_enumerate (by decide) (F.typeCall_enumerate_1 _) (F.newCall_enumerate_1 _) (fun obj => F.args_object_init_2 obj _) F.entry_enumerate_new (enumT_new t items) ⟨ht, ?_⟩
  have hz : (s.heap.push (tIt t)).objs.size = s.heap.objs.size + 1 := Heap.size_push ..
  show _ ∧ _
  rw [hz]
  have he : IsEnum ((s.heap.push (tIt t)).push (eOb s.heap.objs.size)) (s.heap.objs.size + 1) s.heap.objs.size 0 .none := by
    have q := Heap.get?_push_size (s.heap.push (tIt t)) (o := eOb s.heap.objs.size) rfl
    rw [hz] at q
    exact q
  exact ⟨⟨_, he, rfl⟩, h _ he ⟨_, Heap.get?_push_of_some _ (Heap.get?_push_size _ rfl), rfl, rfl⟩ fun b o x => Heap.get?_push_of_some _ (Heap.get?_push_of_some _ x)⟩
/-- the tuple at a, each item in a new pair -/
def IteT (K : PySem.W.Frag) (a : Addr) : It where
  go := fun i H => ∃ (xs : List V) (x : V), SqT K H a xs ∧ xs[i]? = some x
  yld := fun i H v H' => ∃ (T : Addr) (x : V), v = .ref T ∧ H T = none ∧ H' = upd H T (.tup [.int (i : Nat), x]) ∧ ∀ xs : List V, SqT K H a xs → xs[i]? = some x
  stop := fun i H => ∃ xs : List V, SqT K H a xs ∧ xs.length = i
theorem turn_enumT {P : Program} {w : World} {K : PySem.W.Frag} {elts : List Expr} {kk : Nat} {tpos : Pos} (a e it : Addr) (hat : a ≠ it) :
    Turn P w K (.Tuple elts kk tpos) (IteT K a) [e, it] e (fun i h => (∃ old, IsEnum h e it ((i : Nat) : Int) old) ∧ h.IsTupleIter it a i ∧ e ≠ it ∧ e ≠ a) where
  mem := by simp
  obj := fun i h st b hb => by
    obtain ⟨⟨old, he⟩, ⟨o, ho, hc, hd⟩, _⟩ := st
    rcases (by simpa using hb : b = e ∨ b = it) with rfl | rfl
    · exact ⟨_, he, fun v q => nomatch q⟩
    · exact ⟨o, ho, fun v q => by rw [hd] at q; cases q⟩
  keep := fun i h h' st k => by
    obtain ⟨⟨old, he⟩, hi, h1, h2⟩ := st
    exact ⟨⟨old, k e (by simp) _ he⟩, hi.at fun o q => k it (by simp) o q, h1, h2⟩
  item := by
    intro X hP hw hK hc i pins s σ H E I hf st hg
    subst hP hw hK
    obtain ⟨⟨old, he⟩, hit, hne, hea⟩ := st
    obtain ⟨xs, x, hq, hx⟩ := hg
    obtain ⟨its, rv, p, hz⟩ := I.tuple hq
    obtain ⟨u, hu, ru⟩ := rv.get hx
    have D := Draws.tuple (prog := X.prog) (w := X.w) (A := X.A.in1) (I.ok.hd hc) it a hat its.toArray
    have hi : i < its.toArray.size := by
      have := (List.getElem?_eq_some_iff.mp hu).1
      simpa using this
    have hel : e < s.heap.objs.size := Heap.lt_size he
    have hil : it < s.heap.objs.size := by obtain ⟨_, q, _⟩ := hit; exact Heap.lt_size q
    refine wpAny_pyNext_enum_itemC D he ⟨hit, p⟩ hi hne (by simp [hne, hea]) fun y h' tk hy ho hst hT hsz hk => ?_
    have hyu : y = u := by
      have : its.toArray[i]? = some u := by simpa using hu
      rw [this] at hy
      exact (Option.some.inj hy).symm
    subst hyu
    refine ⟨_, rfl, wpAny_letOwnedTupleGo_enum (s := { s with heap := h', toks := tk + 1 }) ho fun h'' he' sb => ?_⟩
    have hT2 : h''.get? s.heap.objs.size = some { cls := .type "tuple", data := .seq #[.int i tk, y] } := (sb.2 _ (Nat.ne_of_gt hel)).trans hT
    have new : ObjOk X.prog X.w (upd H s.heap.objs.size (.tup [.int (i : Nat), x])) h'' s.heap.objs.size (.tup [.int (i : Nat), x]) :=
      ⟨by show 2 ≤ sizeLine; decide, [.int i tk, y], .cons ⟨_, rfl⟩ (.cons ru .nil), _, hT2, rfl, _, rfl⟩
    have I1 : Inv X pins σ (upd H s.heap.objs.size (.tup [.int (i : Nat), x])) { s with heap := h'', toks := tk + 1 } := by
      refine I.turnedNew (ch := [e, it]) (fun b ob hb q => ?_) hf (Nat.le_refl _) new
      have n1 : b ≠ e := fun z => hb (by simp [z])
      have n2 : b ≠ it := fun z => hb (by simp [z])
      exact (sb.2 b n1).trans (hk b ob n1 n2 q)
    refine ⟨.ref s.heap.objs.size, _, I1, rfl, ⟨_, x, rfl, I.hok.fresh (Nat.le_refl _), rfl, fun ys hy => by rw [I.tuple_inj hy hq]; exact hx⟩, ⟨⟨y, ?_⟩, hst.1.at fun o q => (sb.2 it (Ne.symm hne)).trans q, hne, hea⟩, fun b hb => ?_⟩
    · have e1 : ((i + 1 : Nat) : Int) = (i : Int) + 1 := by omega
      rw [e1]
      exact he'
    · have hb' : b < s.heap.objs.size := by
        rcases (by simpa using hb : b = e ∨ b = it) with rfl | rfl
        · exact hel
        · exact hil
      rw [upd_ne (Nat.ne_of_lt hb')]
      exact (hf b hb).1
  done := by
    intro X hP hw hK hc i pins s σ H E I hf st hg
    subst hP hw hK
    obtain ⟨⟨old, he⟩, hit, hne, hea⟩ := st
    obtain ⟨xs, hq, hx⟩ := hg
    obtain ⟨its, rv, p, hz⟩ := I.tuple hq
    have D := Draws.tuple (prog := X.prog) (w := X.w) (A := X.A.in1) (I.ok.hd hc) it a hat its.toArray
    have hl := rv.length
    obtain ⟨f0, f1, f2, f3, f4, f5⟩ := hf it (by simp)
    have en : its.toArray.size = i := by simp only [List.size_toArray]; omega
    subst en
    exact wpAny_pyNext_enum_endD D he ⟨hit, p⟩ fun h' eb => ⟨rfl, I.turned (t' := s.toks) (fun b o hb q => eb b o hb q) f0 f1 f3 f4 f5⟩
  self := fun A i s Q E st h => by
    obtain ⟨⟨_, he⟩, _⟩ := st
    exact wpAny_pyIter_enum he h
/-- a walk over enumerate(t) -/
def iEnumT (K : PySem.W.Frag) (ta : TA) : TI := fun σ H R => ta σ H fun vs H1 => ∃ (a : Addr) (xs : List V), vs = [.ref a] ∧ SqT K H1 a xs ∧ R (IteT K a) H1
theorem pi_enumT {X : Cx} (K : PySem.W.Frag) {e : Expr} {ta : TA} {p pos tpos : Pos} {elts : List Expr} {kk : Nat} (hg : Gl X "enumerate") (hm : X.mg "enumerate" = none) (ha : PA X [e] ta) (hK : X.K = K := by rfl) (hs : starEach [e] X.env = [(false, eval e X.env)] := by rfl) :
    PI X (.Tuple elts kk tpos) (.Call (.Name "enumerate" p) [e] [] pos) (iEnumT K ta) := by
  subst hK
  constructor
  intro pins s σ H R I h
  refine Call_ (ld_blt I hg hm boot_enumerate (callWith_type1 (thn (ha.run pos pins s σ H _ I h) fun us s1 ⟨vs, H1, I1, r1, a, xs, ex, hq, q⟩ => ?_) hs rfl))
  subst ex
  cases r1 with
  | cons r rr =>
    cases rr
    cases r
    obtain ⟨its, rv, p', hz⟩ := I1.tuple hq
    have hal : a < s1.heap.objs.size := p'.lt
    refine call_enumT p' fun h' he hit hk => wpAny_pyIter_enum he ?_
    have I2 : Inv X pins σ H1 { s1 with heap := h' } := I1.kept (t' := s1.toks) hk
    refine ⟨s1.heap.objs.size + 1, [s1.heap.objs.size + 1, s1.heap.objs.size], _, _, H1, rfl, I2, turn_enumT a (s1.heap.objs.size + 1) s1.heap.objs.size (Nat.ne_of_lt hal), ⟨⟨.none, he⟩, hit, Nat.succ_ne_self _, Nat.ne_of_gt (Nat.lt_succ_of_lt hal)⟩, fun b hb => ?_, q⟩
    have hle : s1.heap.objs.size ≤ b := by
      rcases (by simpa using hb : b = s1.heap.objs.size + 1 ∨ b = s1.heap.objs.size) with rfl | rfl
      · exact Nat.le_add_right _ _
      · exact Nat.le_refl _
    exact I1.fpOk hle (I1.hok.fresh hle)
theorem walk_enumT {K : PySem.W.Frag} {a : Addr} {xs : List V} : Walk (IteT K a) xs.length (fun H => SqT K H a xs) (fun i H v H' => ∃ (T : Addr) (x : V), v = .ref T ∧ H T = none ∧ H' = upd H T (.tup [.int (i : Nat), x]) ∧ xs[i]? = some x) where
  goes := fun i H hi hq => ⟨xs, xs[i], hq, by rw [List.getElem?_eq_getElem hi]⟩
  stops := fun H hq => ⟨xs, hq, rfl⟩
  yields := fun i H v H' hi hq ⟨T, x, h1, h2, h3, h4⟩ => ⟨T, x, h1, h2, h3, h4 xs hq⟩
end U

namespace U
open PySem L2 PySem.Spec PyProof.Rows
/-! ### defs that show data (repr asks that no repr is under way): a promise that holds where no guard stands -/
structure FnG (P : Program) (w : World) (K : PySem.W.Frag) (mg : Str → Option Value) (base : Heap) (CX : CXT) (k : Nat) (f : Addr) (fd : FuncData) (ps : List Str) (sp : Sp) : Prop where
  len : ∀ vs H Q E, sp vs H Q E → vs.length = ps.length
  run : ∀ (A : Around) (outer : List Env) (s : Shared) (H : Hp) (args : Args) (us : List Value) (vs : List V) (Q : VK) (E : XK), A.guards = some [] → Room k A → Env0 P w K mg base A outer s H →
    BindsTo s fd args (ps.zip us) → Vals vs us → sp vs H Q E → codeAny (model P w) A (.call (.ref f) args) (CR CX outer P w H s Q E) s
theorem FnG.of {P : Program} {w : World} {K : PySem.W.Frag} {mg : Str → Option Value} {base : Heap} {CX : CXT} {k : Nat} {f : Addr} {fd : FuncData} {ps : List Str} {sp : Sp} (F : FnOk P w K mg base CX k f fd ps sp) : FnG P w K mg base CX k f fd ps sp :=
  ⟨F.len, fun A outer s H args us vs Q E _ hr e0 hb r h => F.run A outer s H args us vs Q E hr e0 hb r h⟩
theorem fnG_of {P : Program} {w : World} {K : PySem.W.Frag} {mg : Str → Option Value} {base : Heap} {CX : CXT} {x qual : Str} {st : Stmt} {f : Addr} {fd : FuncData} {N ps : List Str} {k : Nat} {sp : Sp} (F : Fun K x qual st f fd) (S : FnScope N ps (defScope st))
    (len : ∀ vs H Q E, sp vs H Q E → vs.length = ps.length)
    (body : ∀ (cdv : Value) (A : Around) (outer : List Env) (s : Shared) (H : Hp) (vs : List V) (Q : VK) (E : XK), (A.deeper (envOfC qual (defScope st) s.heap.objs.size f cdv)).guards = some [] →
      Room k (A.deeper (envOfC qual (defScope st) s.heap.objs.size f cdv)) → sp vs H Q E →
      ∃ t, PSs (cxOf CX P w K mg base N qual (defScope st) f cdv A outer s H E) (defBody st) t ∧ t { nx := fun _ H' => Q .non H', rt := Q } (start N vs) H) : FnG P w K mg base CX (k + 1) f fd ps sp := by
  obtain ⟨oc, od, kV, doc, pm, an, cdv, ct, osl, rfl, lk, hcd⟩ := F.ex
  constructor
  · exact len
  intro A outer s H args us vs Q E hgd hr e0 hb r hsp
  have X0 : K.In s.heap := e0.mod.kin.keeps fun b o e => (e0.bs b o e).1
  have L0 : s.heap.NoLimit := e0.mod.nolimit.keeps fun b o e => (e0.bs b o e).1
  have kinds : ∀ y ∈ ps.zip us, (defScope st).names.lookup y.1 = some .local ∨ ((defScope st).names.lookup y.1 = some .cell ∧ ((cellsFrom (s.heap.objs.size + 1) (defScope st).names []).lookup y.1).isSome = true) := by
    rintro ⟨n, v⟩ hy
    rcases S.par n (List.of_mem_zip hy).1 with q | q
    · exact Or.inl q
    · exact Or.inr ⟨q, PySem.W.cellsFrom_some _ _ _ (Or.inl q)⟩
  refine codeAny_call_function hr.depth (X0 _ _ lk) rfl S.co S.gen rfl (PySem.W.codeRec_of X0 hcd) (hb _ _ _ _ ?_)
  refine wpAny_newFunctionEnv_cells S.kind kinds fun env he s1 x => ?_
  subst he
  refine ⟨L0.keeps x.toInCall.keep, codeAny_func ?_⟩
  obtain ⟨t, ht, hq⟩ := body cdv A outer s H vs Q E hgd (hr.deeper _) hsp
  have I := inv_start (CX := CX) (E := E) S hr.hd e0 (len _ _ _ _ hsp) r x
  refine wpAny_mono (ht.run [] s1 (start N vs) H _ I hq) (fun fl s' hs => ?_) fun e s' hs => hs
  cases fl with
  | ret u =>
    obtain ⟨v, σ', H', J, rv, q⟩ := hs
    exact ⟨v, H', J.os, J.bare, J.base, J.hok, rv, q⟩
  | next =>
    obtain ⟨σ', H', J, q⟩ := hs
    exact ⟨V.non, H', J.os, J.bare, J.base, J.hok, rfl, q⟩
  | brk =>
    obtain ⟨_, _, _, q⟩ := hs
    exact q.elim
  | cont =>
    obtain ⟨_, _, _, q⟩ := hs
    exact q.elim
/-- the same where nothing is raised out of it -/
theorem fnG0 {P : Program} {w : World} {K : PySem.W.Frag} {mg : Str → Option Value} {base : Heap} {x qual : Str} {st : Stmt} {f : Addr} {fd : FuncData} {N ps : List Str} {k : Nat} {sp : Sp} (F : Fun K x qual st f fd) (S : FnScope N ps (defScope st))
    (len : ∀ vs H Q E, sp vs H Q E → vs.length = ps.length)
    (body : ∀ (cdv : Value) (A : Around) (outer : List Env) (s : Shared) (H : Hp) (vs : List V) (Q : VK) (E : XK), (A.deeper (envOfC qual (defScope st) s.heap.objs.size f cdv)).guards = some [] →
      Room k (A.deeper (envOfC qual (defScope st) s.heap.objs.size f cdv)) → sp vs H Q E →
      ∃ t, PSs (cxOf CX0 P w K mg base N qual (defScope st) f cdv A outer s H E).nox (defBody st) t ∧ t { nx := fun _ H' => Q .non H', rt := Q } (start N vs) H) : FnG P w K mg base CX0 (k + 1) f fd ps sp :=
  fnG_of F S len fun cdv A outer s H vs Q E hg hr h => by
    obtain ⟨t, h1, h2⟩ := body cdv A outer s H vs Q E hg hr h
    exact ⟨t, h1.nox, h2⟩
structure DefG (P : Program) (w : World) (K : PySem.W.Frag) (mg : Str → Option Value) (base : Heap) (k : Nat) (x : Str) (ps : List Str) (sp : Sp) : Prop where
  ex : ∃ (f : Addr) (fd : FuncData), FnG P w K mg base CX0 k f fd ps sp ∧ mg x = some (.ref f) ∧ PySem.W.keepIn K (.ref f) = true ∧ Binds K fd ps []
section
variable {X : Cx}
theorem pe_fnG {k j : Nat} {x : Str} {ps : List Str} {sp : Sp} {e : Expr} {es : List Expr} {t : TA} {p pos : Pos} (D : DefG X.prog X.w X.K X.mg X.base k x ps sp) (hgd : X.A.guards = some []) (hr : Room j X.A) (hk : k ≤ j)
    (ha : PA X (e :: es) t) (hg : Gl X x := by rfl) (hdb : (x == ("__debug__" : Str)) = false := by decide) (he : starEach (e :: es) X.env = (false, eval e X.env) :: starEach es X.env := by rfl) (hpl : (backTo pos (starEach es X.env)).any (·.1) = false := by rfl) :
    PE X (.Call (.Name x p) (e :: es) [] pos) (tCall sp [] E0 t) := by
  obtain ⟨f, fd, F, hm, hkp, hb⟩ := D.ex
  constructor
  intro pins s σ H Q I h
  refine wpAny_Call_Name_kw (ld_glob I hg hm ?_ hdb)
  refine PySem.W.callWith_K (h₀ := X.base) I.ok.mod.kin hkp (thn (ha.run pos pins s σ H _ I h) fun us s1 hh => ?_) he hpl
  obtain ⟨vs, H1, I1, r, q⟩ := hh
  refine ⟨I1.kIn, ?_⟩
  rw [List.append_nil] at q
  have hl : us.length = ps.length := by rw [← r.length]; exact F.len _ _ _ _ q
  have hbd := hb s1 us I1.kIn (by rw [List.append_nil]; exact hl)
  rw [List.append_nil] at hbd
  refine wpAny_call (codeAny_mono (F.run X.A X.stack s1 H1 ⟨us, []⟩ us vs Q E0 hgd (hr.mono hk) I1.env0 hbd r q) fun rr s' hq => ?_)
  cases rr with
  | error e => exact (show False from hq).elim
  | ok fl =>
    cases fl with
    | ret u => exact I1.after hq
    | next => exact (show False from hq).elim
    | brk => exact (show False from hq).elim
    | cont => exact (show False from hq).elim
end
/-- the law's own call, by such a promise -/
theorem lawG {P : Program} {w : World} {K : PySem.W.Frag} {mg mb : Str → Option Value} {k : Nat} {fa a : Addr} {fd : FuncData} {x : Str} {sp : Sp} {s₁ : Shared} {vs : List Value} {ns : List Int}
    (KX : K.In s₁.heap) (hns : s₁.heap.Ns mainGlobals mg) (hb : s₁.heap.Ns builtinsNs mb) (hbb : ∀ x : Str, x ≠ "__name__" → mb x = bootBuiltins x) (hlim : s₁.heap.NoLimit) (hg : s₁.gens = #[])
    (ha : s₁.heap.get? a = some { cls := .type "list", data := .seq vs.toArray }) (hi : IntsAre vs ns) (hl : ns.length ≤ sizeLine) (hr : Room k callerA)
    (F : ∀ base : Heap, K.In base → base.Ns mainGlobals mg → FnG P w K mg base CX0 k fa fd [x] sp) (hbind : ∀ (s : Shared) (u : Value), BindsTo s fd ⟨[u], []⟩ [(x, u)])
    (hsp : ∀ H : Hp, SqL K H a (ns.map V.int) → sp [.ref a] H (fun v _ => v = .bl true) fun _ _ _ => False) :
    codeAny (model P w) callerA (.call (.ref fa) ⟨[.ref a], []⟩) (fun r s' => r = .ok (.ret (.bool true)) ∧ OldK s₁.heap s'.heap ∧ s'.os = s₁.os ∧ AllBare s'.gens) s₁ := by
  have rv := vals_ints hi
  have lenV := hi.length
  obtain ⟨H, hOnly, hSq, hOk, hAt, hNo⟩ : ∃ H : Hp, (∀ b, H b = none ∨ ∃ o xs, H b = some (.frz o (.lst xs))) ∧ SqL K H a (ns.map V.int) ∧ HOk P w H s₁.heap ∧ (∀ b u, H b = some u → b = a) ∧ (∀ u, H a = some u → K.lookup a = none) := by
    cases hk : K.lookup a with
    | some o =>
      have e := KX a o hk
      rw [ha] at e
      cases e
      exact ⟨fun _ => none, fun _ => Or.inl rfl, Or.inr ⟨_, vs.toArray, _, hk, rfl, rfl, rfl, by rw [List.size_toArray, lenV]; exact hl, by simpa using rv⟩, fun b u z => (nomatch z), fun b u z => (nomatch z), fun u z => (nomatch z)⟩
    | none =>
      refine ⟨upd (fun _ => none) a (.frz { cls := .type "list", data := .seq vs.toArray } (.lst (ns.map V.int))), fun b => ?_, Or.inl (Or.inr ⟨_, upd_same⟩), fun b u z => ?_, fun b u z => ?_, fun _ _ => rfl⟩
      · by_cases e : b = a
        · rw [e, upd_same]; exact Or.inr ⟨_, _, rfl⟩
        · rw [upd_ne e]; exact Or.inl rfl
      · by_cases e : b = a
        · rw [e, upd_same] at z
          cases z
          rw [e]
          exact ⟨ha, by rw [List.length_map]; exact hl, vs, _, rv, ha⟩
        · rw [upd_ne e] at z; cases z
      · by_cases e : b = a
        · exact e
        · rw [upd_ne e] at z; cases z
  have free : ∀ {b : Addr} {o : Obj}, s₁.heap.get? b = some o → (∀ n m, o.data ≠ .seq n m) → H b = none := fun {b o} e d => by
    cases q : H b with
    | none => rfl
    | some u =>
      have eb := hAt b u q
      rw [eb, ha] at e
      cases e
      exact absurd rfl (d _ _)
  have nsH : ∀ {b : Addr} {m : Str → Option Value}, s₁.heap.Ns b m → (hidT s₁.heap H).Ns b m := fun {b m} ⟨o, es, ep, e, d, r⟩ => ⟨o, es, ep, hidT_get e (free e fun n m z => by rw [d] at z; cases z), d, r⟩
  have kH : K.In (hidT s₁.heap H) := fun b o e => hidT_get (KX b o e) (by
    cases q : H b with
    | none => rfl
    | some u =>
      have eb := hAt b u q
      rw [eb] at e q
      rw [hNo u q] at e
      cases e)
  obtain ⟨mc, l1, l2⟩ := hlim
  have e0 : Env0 P w K mg (hidT s₁.heap H) callerA [] s₁ H :=
    { frames := rfl, mod := { kin := kH, glob := nsH hns, blt := ⟨mb, nsH hb, hbb⟩, nolimit := ⟨mc, nsH l1, l2⟩ }, bs := fun b o e => of_hidT e, bsz := Nat.le_of_eq (hidT_size _ _), funs := trivial, frf := fun b z => (nomatch z), hok := hOk, bare := .of_eq hg }
  refine codeAny_mono ((F _ kH (nsH hns)).run callerA [] s₁ H ⟨[.ref a], []⟩ [.ref a] [.ref a] _ _ rfl hr e0 (hbind s₁ (.ref a)) (.cons rfl .nil) (hsp H hSq)) fun r s' h => ?_
  cases r with
  | error e => exact (show False from h).elim
  | ok fl =>
    cases fl with
    | next => exact (show False from h).elim
    | brk => exact (show False from h).elim
    | cont => exact (show False from h).elim
    | ret u =>
      obtain ⟨v, H', os, bare, un, hok', r', q⟩ := h
      obtain rfl : v = .bl true := q
      obtain rfl : u = Value.bool true := r'
      refine ⟨rfl, OldK.of_keep fun b o e => ?_, os, bare⟩
      cases q : H b with
      | none => exact un.keep b o e q (fun z => nomatch z) (fun z => nomatch z)
      | some u =>
        rcases hOnly b with z | ⟨ob, xs, z⟩
        · rw [q] at z; cases z
        · have g1 := (hOk b _ z).1
          have g2 := (hok' b _ (un.frzs b ob _ z)).1
          rw [g1] at e
          cases e
          exact g2
theorem walkG {l : PySem.W.OpenLaw} {n k : Nat} {q : Program} {loose : List Str} {XP : (Str → Option Value) → Heap → Prop} {YP : World → Heap → Prop} {d : DefRec} {K : Params → PySem.W.Frag} {sp : PySem.W.Frag → Sp} {x : Str}
    (hn : l.most = some n) (hn2 : n ≤ sizeLine) (hdf : d.params.defaults = []) (hr : Room k callerA) (hY : ∀ (w : World) (h : Heap), YP w h → (K w.params).In h)
    (F : ∀ (w : World) (mg : Str → Option Value) (fa : Addr) (h : Heap), (K w.params).In h → h.Ns mainGlobals mg → mg d.name = some (.ref fa) →
      ∃ fd : FuncData, (∀ (s : Shared) (u : Value), BindsTo s fd ⟨[u], []⟩ [(x, u)]) ∧ ∀ base : Heap, (K w.params).In base → base.Ns mainGlobals mg → FnG l.prog w (K w.params) mg base CX0 k fa fd [x] (sp (K w.params)))
    (hsp : ∀ (K : PySem.W.Frag) (H : Hp) (a : Addr) (ns : List Int), ns.length ≤ n → SqL K H a (ns.map V.int) → sp K [.ref a] H (fun v _ => v = .bl true) fun _ _ _ => False) :
    PySem.W.WalkO q loose XP YP l.row.toRowW d [] (fun f vs => PySem.call f vs) := by
  refine Att.attach_call hn hdf fun w s₀ s₁ mg mb fa o pm cd doc a vs ns G Y ho hd hcd hmg hobj hints hlen hg => ?_
  obtain ⟨fd, hb, hF⟩ := F w mg fa _ (hY w _ Y) G.T.g hmg
  exact lawG (hY w _ Y) G.T.g G.T.b G.T.builtins G.T.nolimit hg hobj hints (Nat.le_trans hlen hn2) hr hF hb fun H hS => hsp _ H a ns hlen hS
end U

namespace U
open PySem L2 PySem.Spec PyProof.Rows PySem.W
/-! ### an own object asked by a built-in: len, str, truth, ==, != -/
/-- a def of the class run at some place within the frame -/
theorem run_at {X : Cx} {A : Around} {k : Nat} {f : Addr} {fd : FuncData} {ps : List Str} {sp : Sp} {pins : List (Addr × Obj)} {σ : L2.St} {H : Hp} {s : Shared} {Q : VK} {us : List Value} {vs : List V} {E : Value → Shared → Prop}
    (F : FnOk X.prog X.w X.K X.mg X.base CX0 k f fd ps sp) (hb : Binds X.K fd ps []) (hr : Room k A) (hf : A.frames = X.A.frames) (I : Inv X pins σ H s) (r : Vals vs us) (h : sp vs H Q E0) :
    wpAny (model X.prog X.w) A (call (.ref f) us) (EP X pins σ Q) E s := by
  have e0 : Env0 X.prog X.w X.K X.mg X.base A X.stack s H := by
    have e := I.env0
    exact { frames := hf.trans e.frames, mod := e.mod, bs := e.bs, bsz := e.bsz, funs := e.funs, frf := e.frf, hok := e.hok, bare := e.bare }
  have hl : us.length = ps.length := by rw [← r.length]; exact F.len _ _ _ _ h
  have hbd := hb s us I.kIn (by rw [List.append_nil]; exact hl)
  rw [List.append_nil] at hbd
  refine wpAny_call (codeAny_mono (F.run A X.stack s H ⟨us, []⟩ us vs Q E0 hr e0 hbd r h) fun rr s' hq => ?_)
  cases rr with
  | error e => exact (show False from hq).elim
  | ok fl =>
    cases fl with
    | ret u => exact I.after hq
    | next => exact (show False from hq).elim
    | brk => exact (show False from hq).elim
    | cont => exact (show False from hq).elim
/-- a special method of the class at C: the def at f with its promise -/
structure SpM (X : Cx) (C : Addr) (m : Str) (k : Nat) (sp : Sp) : Prop where
  ex : ∃ (f : Addr) (fd : FuncData) (ps : List Str), FnOk X.prog X.w X.K X.mg X.base CX0 k f fd ps sp ∧ findIn X.K (.ref C) m = some (some (.ref f)) ∧ isFn X.K (.ref f) = true ∧ Binds X.K fd ps []
theorem ref1 (a : Addr) : Vals [V.ref a] [Value.ref a] := .cons (show RelV (V.ref a) (Value.ref a) from rfl) .nil
theorem ref2 (a b : Addr) : Vals [V.ref a, V.ref b] [Value.ref a, Value.ref b] := .cons (show RelV (V.ref a) (Value.ref a) from rfl) (ref1 b)
section
variable {X : Cx} {C : Addr} {k j : Nat} {sp : Sp}
theorem inst_of {pins : List (Addr × Obj)} {σ : L2.St} {H : Hp} {s : Shared} {a dx : Addr} {fs : List (Str × V)} (I : Inv X pins σ H s) (ea : H a = some (.ins C dx fs)) : ∃ od, InstAt s.heap a (instObj C dx) C (some od) := by
  obtain ⟨mA, J, _⟩ := ins_get I.hok ea
  obtain ⟨od, J, _⟩ := J.look
  exact ⟨od, J⟩
/-- len(o) -/
def rLenI (C : Addr) (sp : Sp) : List V → Hp → VK → Prop := fun xs H Q => ∃ (a dx : Addr) (fs : List (Str × V)), xs = [.ref a] ∧ H a = some (.ins C dx fs) ∧ sp [.ref a] H (fun v H' => ∃ n : Int, v = .int n ∧ 0 ≤ n ∧ n < 9223372036854775808 ∧ Q (.int n) H') E0
theorem lenI (S : SpM X C "__len__" k sp) (hr : Room j X.A) (hk : k + 1 ≤ j) : CallR X (.builtin "len") (rLenI C sp) := by
  intro pins s σ H xs us Q I r h
  obtain ⟨a, dx, fs, rfl, ea, h⟩ := h
  obtain rfl := Vals.ref1 r
  obtain ⟨f, fd, ps, F, hs, hf, hb⟩ := S.ex
  obtain ⟨od, J⟩ := inst_of I ea
  obtain ⟨m, hF⟩ := I.fr
  refine len_K hF I.ok.mod.kin J hs hf (wpAny_mono (run_at F hb (hr.mono hk).in1 rfl I (ref1 a) h) (fun u s' hq => ?_) fun _ _ e => e)
  obtain ⟨v, H', I', rv, n, rfl, h0, h1, q⟩ := hq
  obtain ⟨t, rfl⟩ := rv
  exact ⟨⟨h0, by omega⟩, .int n, H', I'.tok _, ⟨_, rfl⟩, q⟩
/-- str(o) -/
def rStrI (C : Addr) (sp : Sp) : List V → Hp → VK → Prop := fun xs H Q => ∃ (a dx : Addr) (fs : List (Str × V)), xs = [.ref a] ∧ H a = some (.ins C dx fs) ∧ sp [.ref a] H (fun v H' => ∃ z : Str, v = .str z ∧ Q (.str z) H') E0
theorem strI (S : SpM X C "__str__" k sp) (hr : Room j X.A) (hk : k + 2 ≤ j) : CallR X (.type "str") (rStrI C sp) := by
  intro pins s σ H xs us Q I r h
  obtain ⟨a, dx, fs, rfl, ea, h⟩ := h
  obtain rfl := Vals.ref1 r
  obtain ⟨f, fd, ps, F, hs, hf, hb⟩ := S.ex
  obtain ⟨od, J⟩ := inst_of I ea
  have r2 : Room k X.A.in1.in1 := ((hr.mono hk).in1).in1
  refine kso_call r2.units0 I.kIn J hs hf (wpAny_mono (run_at F hb r2 rfl I (ref1 a) h) (fun u s' hq => ?_) fun _ _ e => e)
  obtain ⟨v, H', I', rv, z, rfl, q⟩ := hq
  obtain ⟨t, rfl⟩ := rv
  exact ⟨.str z, H', I', ⟨t, rfl⟩, q⟩
/-- a == b, a an own object, b such a one too (its == says so) -/
def rEqI (C : Addr) (sp : Sp) : R2 := fun x y H Q => ∃ (a b dx dy : Addr) (fs gs : List (Str × V)), x = .ref a ∧ y = .ref b ∧ H a = some (.ins C dx fs) ∧ H b = some (.ins C dy gs) ∧ sp [.ref a, .ref b] H (fun v H' => ∃ c : Bool, v = .bl c ∧ Q (.bl c) H') E0
theorem eqI (S : SpM X C "__eq__" k sp) (hr : Room j X.A) (hk : k ≤ j) : OpR X (compareOp .Eq) (rEqI C sp) := by
  intro pins s σ H x y v u Q I rx ry h
  obtain ⟨a, b, dx, dy, fs, gs, rfl, rfl, ea, eb, h⟩ := h
  cases rx
  cases ry
  obtain ⟨f, fd, ps, F, hs, hf, hb⟩ := S.ex
  obtain ⟨od, J⟩ := inst_of I ea
  obtain ⟨od', J'⟩ := inst_of I eb
  obtain ⟨m, hF⟩ := I.fr
  have r2 : Room k X.A := hr.mono hk
  show wpAny (model X.prog X.w) X.A (richCompare .Eq (.ref a) (.ref b)) (EP X pins σ Q) X.xe s
  refine cmp_K (op := .Eq) (tb := .ref C) r2.units0 hF I.ok.mod.kin J J'.type (by simp [notFirst]) hs hf (wpAny_mono (run_at F hb r2 rfl I (ref2 a b) h) (fun w s' hq => ?_) fun _ _ e => e)
  obtain ⟨z, H', I', rz, c, rfl, q⟩ := hq
  cases rz
  exact ⟨.bl c, H', I', rfl, q⟩
end
/-! truth by an own __len__ -/
section
variable {prog : Program} {w : World} {A : Around} {E : Value → Shared → Prop} {s : Shared} {K : Frag} {x C f : Addr} {ox : Obj} {od : Option Obj}
theorem lenBody {Q : Value → Shared → Prop} (X : K.In s.heap) (I : InstAt s.heap x ox C od) (hs : findIn K (.ref C) "__len__" = some (some (.ref f))) (hf : isFn K (.ref f) = true)
    (h : wpAny (model prog w) A (call (.ref f) [.ref x]) (PySem.W.LenBack Q) E s) : wpAny (model prog w) A (Builtin.«len» ⟨[.ref x], []⟩) (fun fin s' => ∃ r, fin = .done (.ret r) ∧ Q r s') E s := by
  unfold Builtin.«len»
  refine wpAny_bind (m := oneArg "len" _) (wpAny_pure ?_)
  refine wpAny_bind (m := callSpecial? (.ref x) (Str.ofString "__len__")) (special_fn X I hs (beq_iff_eq.mp hf) (wpAny_mono h (fun r s' hr => ?_) fun _ _ y => y))
  cases r <;> first | exact hr.elim | skip
  rename_i n u
  obtain ⟨⟨h0, h1⟩, hq⟩ := hr
  refine wpAny_bind (wpAny_holding (wpAny_pure ?_))
  refine wpAny_bind (wpAny_letGo ?_)
  show wpAny _ _ (if n < 0 then _ else _) _ _ _
  rw [if_neg (by omega)]
  show wpAny _ _ (if n ≥ 2 ^ 63 then _ else _) _ _ _
  rw [if_neg (by omega)]
  exact wpAny_bind (wpAny_mkInt (wpAny_pure ⟨_, rfl, hq⟩))
def TruBack (Q : Bool → Shared → Prop) (v : Value) (s' : Shared) : Prop := ∃ (n : Int) (t : Tok), v = .int n t ∧ 0 ≤ n ∧ n < 9223372036854775808 ∧ Q (n != 0) { s' with toks := s'.toks + 1 }
theorem truthLen {Q : Bool → Shared → Prop} (X : K.In s.heap) (I : InstAt s.heap x ox C od) (hb : findIn K (.ref C) "__bool__" = some none) (hs : findIn K (.ref C) "__len__" = some (some (.ref f))) (hf : isFn K (.ref f) = true)
    (h : wpAny (model prog w) A.in1 (call (.ref f) [.ref x]) (TruBack Q) E s) : wpAny (model prog w) A (truthy (.ref x)) Q E s := by
  have key : wpAny (model prog w) A (runValue (.builtin "len" ⟨[.ref x], []⟩)) (fun r s' => ∃ (n : Int) (t : Tok), r = .int n t ∧ Q (n != 0) s') E s := by
    refine wpAny_runValue (codeAny_builtin entry_len ?_)
    rw [Around.under_plainId plain_len _]
    refine wpAny_mono (lenBody (Q := fun r s' => ∃ (n : Int) (t : Tok), r = .int n t ∧ Q (n != 0) s') X I hs hf (wpAny_mono h (fun v s' hv => ?_) fun _ _ e => e)) (fun fin s' h' => ?_) fun _ _ e => e
    · obtain ⟨n, t, rfl, h0, h1, q⟩ := hv
      exact ⟨⟨h0, by omega⟩, n, _, rfl, q⟩
    · obtain ⟨r, rfl, q⟩ := h'
      exact q
  unfold truthy
  refine wpAny_bind (m := callSpecial? (.ref x) (Str.ofString "__bool__")) (wpAny_bind (wpAny_bind (I.type.here ((looks_findIn X hb).here (wpAny_pure ?_)))))
  refine wpAny_bind (wpAny_bind (I.type.here ((looks_findIn X hs).here ?_)))
  show wpAny _ _ (if (some (Value.ref f)).isNone = true then _ else _) _ _ _
  rw [if_neg (by simp)]
  refine wpAny_bind (wpAny_mono key (fun r s' h' => ?_) fun _ _ e => e)
  obtain ⟨n, t, rfl, q⟩ := h'
  exact wpAny_pure q
theorem boolOf {Q : Value → Shared → Prop} (h : wpAny (model prog w) A.in1.in1 (truthy (.ref x)) (fun b s' => Q (.bool b) s') E s) : wpAny (model prog w) A (call (.type "bool") [.ref x]) Q E s := by
  refine callType_codes (T := "bool") (Bi := Builtin.«object.__init__») (Q₁ := fun r s₁ => ∃ b : Bool, r = .bool b ∧ Q r s₁) PySem.F.called_bool (PySem.F.typeCall_bool_1 _) PySem.F.entry_object_init ?_ ?_
  · refine codeAny_of_tree ?_
    show wpAny _ A.in1.in1 (do checkBuiltinCall "bool.__new__" ⟨[.type "bool", .ref x], []⟩; again (.builtin "bool.__new__" ⟨[.type "bool", .ref x], []⟩)) _ _ s
    refine wpAny_bind (wpAny_of_eq (PySem.F.newCall_bool_1 _) (wpAny_pure ⟨plainId_quiet (by decide +kernel) _, codeAny_builtin PySem.F.entry_bool_new ?_⟩))
    rw [Around.under_plainId (by decide +kernel) _]
    have f1 := F.conv_sub_bool
    obtain ⟨hp, g, d, tk, os⟩ := s
    unfold Builtin.«bool.__new__»
    repeat (first | (with_reducible refine wpAny_mono h (fun b s' hq => ?_) (fun e s' he => ?_)) | wp_step)
    · exact ⟨b, rfl, hq⟩
    · exact he
  · rintro obj s₁ ⟨b, rfl, hq⟩
    exact ⟨PySem.typeIs_bool _ _, PySem.F.args_object_init_2 _ _, object_init_meets PySem.F.called_bool.init.lookup PySem.F.called_bool.made F.newNe_bool prog w A.in1 _ s₁ ⟨PySem.typeIs_bool _ _, rfl, hq⟩⟩
/-! != by an own == -/
theorem ifB {M : Model} {name : Str} {id : String} {args : List Value} {Q : Option Value → Shared → Prop} (X : K.In s.heap) (I : InstAt s.heap x ox C od) (hs : findIn K (.ref C) name = some (some (.builtin id)))
    (hb : ∀ self, bindSpecial (.builtin id) self = pure (.builtin id, [self])) (h : wpAny M A (call (.builtin id) (.ref x :: args)) (fun v => Q (some v)) E s) : wpAny M A (callSpecialIfBound? (.ref x) name args) Q E s := by
  simp only [callSpecialIfBound?, bindSpecialIfBound?]
  have fin : wpAny M A (call (.builtin id) ([.ref x] ++ args) >>= fun v => pure (some v)) Q E s := wpAny_bind (wpAny_mono h (fun _ _ q => wpAny_pure q) fun _ _ q => q)
  refine wpAny_holding (wpAny_bind (wpAny_bind (wpAny_bind (I.type.here ((looks_findIn X hs).here ?_)))))
  refine wpAny_bind (wpAny_askSetting (wpAny_ite ?_))
  split
  · exact wpAny_bind ((Looks.of_pure (hb _)).here (wpAny_pure (by exact fin)))
  · exact wpAny_tryCatch (wpAny_bind ((Looks.of_pure (hb _)).here (wpAny_pure (by exact fin))))
theorem neBody {b : Value} {Q : Fin → Shared → Prop} (hu : A.units < cLine) (X : K.In s.heap) (I : InstAt s.heap x ox C od) (hs : findIn K (.ref C) "__eq__" = some (some (.ref f))) (hf : isFn K (.ref f) = true)
    (h : wpAny (model prog w) A (call (.ref f) [.ref x, b]) (fun v s' => ∃ c : Bool, v = .bool c ∧ Q (.done (.ret (.bool (!c)))) s') E s) : wpAny (model prog w) A (Builtin.«object.__ne__» ⟨[.ref x, b], []⟩) Q E s := by
  unfold Builtin.«object.__ne__»
  repeat (first
    | with_reducible refine wpAny_cRoomFor hu ?_
    | (refine wpAny_bind (m := callSpecialIfBound? (.ref x) (Str.ofString "__eq__") [b]) (ifBound_K X I hs hf (wpAny_mono h (fun r s' hr => ?_) fun _ _ e => e)))
    | wp_step)
  obtain ⟨c, rfl, hq⟩ := hr
  repeat (first | exact hq | exact wpAny_pure hq | exact wpAny_truthy_bool hq | (refine wpAny_bind (m := truthy (.bool _)) (wpAny_truthy_bool ?_)) | wp_step)
theorem neK {b tb : Value} {Q : Value → Shared → Prop} (hu : A.units + 1 < cLine) (X : K.In s.heap) (I : InstAt s.heap x ox C od) (hb : Looks (model prog w) s.heap (typeOf b) tb) (hn : notFirst K C tb = true)
    (hne : findIn K (.ref C) "__ne__" = some (some (.builtin "object.__ne__"))) (hm : mroIn K C (.type "object") = some true) (hs : findIn K (.ref C) "__eq__" = some (some (.ref f))) (hf : isFn K (.ref f) = true)
    (h : wpAny (model prog w) A.in1 (call (.ref f) [.ref x, b]) (fun v s' => ∃ c : Bool, v = .bool c ∧ Q (.bool (!c)) s') E s) : wpAny (model prog w) A (richCompare .NotEq (.ref x) b) Q E s := by
  have one : wpAny (model prog w) A (tryCompare (.ref x) (cmpInfo .NotEq).2.1 b) (fun r s' => ∃ v, r = some v ∧ Q v s') E s := by
    unfold tryCompare
    refine wpAny_bind (ifB X I hne PySem.F.slot_tuple_iterator_ne.bind (wpAny_call (codeAny_call_builtin PySem.F.slot_tuple_iterator_ne.plain PySem.F.cmpEntry_ne
      (check_slot PySem.F.cmpKind_ne PySem.F.cmpSplit_ne (I.type.andThen (looks_mroIn X hm)) (PySem.F.cmpArgs_ne _ _) (neBody (A := A.in1) (by show A.units + 1 < cLine; exact hu) X I hs hf (wpAny_mono h (fun v s' hv => ?_) fun _ _ e => e))))))
    obtain ⟨c, rfl, hq⟩ := hv
    exact ⟨c, rfl, wpAny_pure ⟨_, rfl, hq⟩⟩
  unfold richCompare
  simp only [oneThing_ref]
  refine wpAny_holding (wpAny_bind (wpAny_cRoomFor (Nat.lt_of_succ_lt hu) ?_))
  refine wpAny_bind (I.type.here (wpAny_bind (hb.here ?_)))
  split
  · rename_i q
    have e : subIn K tb (.ref C) = some false := by
      rcases Bool.or_eq_true_iff.mp hn with e | e
      · rw [beq_iff_eq.mp e] at q; simp at q
      · exact beq_iff_eq.mp e
    refine wpAny_bind ((looks_subIn X e).here ?_)
    simp only [Bool.false_eq_true, if_false]
    refine wpAny_bind (wpAny_mono one (fun r s' z => ?_) fun _ _ e => e)
    obtain ⟨v, rfl, z⟩ := z
    exact wpAny_pure z
  · refine wpAny_bind (wpAny_pure ?_)
    simp only [Bool.false_eq_true, if_false]
    refine wpAny_bind (wpAny_mono one (fun r s' z => ?_) fun _ _ e => e)
    obtain ⟨v, rfl, z⟩ := z
    exact wpAny_pure z
end
section
variable {X : Cx} {C : Addr} {k j : Nat} {sp : Sp}
/-- a != b -/
def rNeI (C : Addr) (sp : Sp) : R2 := fun x y H Q => ∃ (a b dx dy : Addr) (fs gs : List (Str × V)), x = .ref a ∧ y = .ref b ∧ H a = some (.ins C dx fs) ∧ H b = some (.ins C dy gs) ∧ sp [.ref a, .ref b] H (fun v H' => ∃ c : Bool, v = .bl c ∧ Q (.bl (!c)) H') E0
theorem neI (S : SpM X C "__eq__" k sp) (hne : findIn X.K (.ref C) "__ne__" = some (some (.builtin "object.__ne__"))) (hm : mroIn X.K C (.type "object") = some true) (hr : Room j X.A) (hk : k + 1 ≤ j) : OpR X (compareOp .NotEq) (rNeI C sp) := by
  intro pins s σ H x y v u Q I rx ry h
  obtain ⟨a, b, dx, dy, fs, gs, rfl, rfl, ea, eb, h⟩ := h
  cases rx
  cases ry
  obtain ⟨f, fd, ps, F, hs, hf, hb⟩ := S.ex
  obtain ⟨od, J⟩ := inst_of I ea
  obtain ⟨od', J'⟩ := inst_of I eb
  have r2 : Room k X.A.in1 := (hr.mono hk).in1
  show wpAny (model X.prog X.w) X.A (richCompare .NotEq (.ref a) (.ref b)) (EP X pins σ Q) X.xe s
  refine neK (tb := .ref C) r2.units0 I.kIn J J'.type (by simp [notFirst]) hne hm hs hf (wpAny_mono (run_at F hb r2 rfl I (ref2 a b) h) (fun w s' hq => ?_) fun _ _ e => e)
  obtain ⟨z, H', I', rz, c, rfl, q⟩ := hq
  cases rz
  exact ⟨c, rfl, .bl (!c), H', I', rfl, q⟩
/-- bool(o) by an own __len__ -/
def rBoolI (C : Addr) (sp : Sp) : List V → Hp → VK → Prop := fun xs H Q => ∃ (a dx : Addr) (fs : List (Str × V)), xs = [.ref a] ∧ H a = some (.ins C dx fs) ∧ sp [.ref a] H (fun v H' => ∃ n : Int, v = .int n ∧ 0 ≤ n ∧ n < 9223372036854775808 ∧ Q (.bl (n != 0)) H') E0
theorem boolI (S : SpM X C "__len__" k sp) (hnb : findIn X.K (.ref C) "__bool__" = some none) (hr : Room j X.A) (hk : k + 3 ≤ j) : CallR X (.type "bool") (rBoolI C sp) := by
  intro pins s σ H xs us Q I r h
  obtain ⟨a, dx, fs, rfl, ea, h⟩ := h
  obtain rfl := Vals.ref1 r
  obtain ⟨f, fd, ps, F, hs, hf, hb⟩ := S.ex
  obtain ⟨od, J⟩ := inst_of I ea
  have r2 : Room k X.A.in1.in1.in1 := (((hr.mono hk).in1).in1).in1
  refine boolOf (truthLen I.kIn J hnb hs hf (wpAny_mono (run_at F hb r2 rfl I (ref1 a) h) (fun u s' hq => ?_) fun _ _ e => e))
  obtain ⟨v, H', I', rv, n, rfl, h0, h1, q⟩ := hq
  obtain ⟨t, rfl⟩ := rv
  exact ⟨n, t, rfl, h0, h1, .bl (n != 0), H', I'.tok _, rfl, q⟩
end

/-! ### a class held by a local name, called; a classmethod called by keyword -/
section
variable {X : Cx} {C f : Addr} {fd : FuncData} {ps : List Str} {sp : Sp} {k j : Nat}
/-- x(e, ..), the class at C in slot i -/
def tMakeL (C : Addr) (i : Nat) (sp : Sp) (t : TA) : TE := fun σ H Q => σ[i]? = some (some (.ref C)) ∧ t σ H fun vs H1 => ∀ (x dx : Addr), H1 x = none → H1 dx = none → dx ≠ x →
  sp (.ref x :: (vs ++ [])) (upd (upd H1 dx (.own x)) x (.ins C dx [])) (fun v H2 => v = .non ∧ Q (.ref x) H2) E0
theorem pe_makeL {i : Nat} {x : Str} {e : Expr} {es : List Expr} {t : TA} {p pos : Pos} (M : Mk X.K C f) (F : FnOk X.prog X.w X.K X.mg X.base CX0 k f fd ps sp) (hr : Room j X.A) (hk : k + 1 ≤ j) (hb : Binds X.K fd ps [])
    (ha : PA X (e :: es) t) (hN : X.N[i]? = some x := by rfl) (hv : Vis X.env.scope x := by first | exact Or.inl rfl | exact Or.inr (Or.inl rfl) | exact Or.inr (Or.inr rfl)) (hd : (x == ("__debug__" : Str)) = false := by decide) (hcd : (x == ("__classdict__" : Str)) = false := by decide)
    (he : starEach (e :: es) X.env = (false, eval e X.env) :: starEach es X.env := by rfl) (hpl : (backTo pos (starEach es X.env)).any (·.1) = false := by rfl) :
    PE X (.Call (.Name x p) (e :: es) [] pos) (tMakeL C i sp t) := by
  constructor
  intro pins s σ H Q I h
  obtain ⟨hs, h⟩ := h
  refine wpAny_Call_Name_kw (thn ((pe_var (pos := p) hN hv hd hcd).run pins s σ H (fun v H' => v = .ref C ∧ H' = H) I ⟨_, hs, rfl, rfl⟩) fun u s0 hu => ?_)
  obtain ⟨v, H0, I0, rv, rfl, rfl⟩ := hu
  obtain rfl : u = Value.ref C := rv
  refine PySem.W.callWith_K (h₀ := X.base) I0.ok.mod.kin M.kp (thn (ha.run pos pins s0 σ _ _ I0 h) fun us s1 hh => ?_) he hpl
  obtain ⟨vs, H1, I1, r, q⟩ := hh
  exact ⟨I1.kIn, run_make M F (hr.mono hk) hb .nil pass0 I1 r q⟩
/-- C.m(k = e, ..), a classmethod -/
def tCMethK (C : Addr) (n : Nat) (sp : Sp) (gV : List V → List V → List V) (ta : TE) (tk : TA) : TE := fun σ H Q => ta σ H fun x H1 => x = .ref C ∧ tk σ H1 fun zs H2 => zs.length = n ∧ sp (gV [.ref C] zs) H2 Q E0
theorem pe_cmethK {p g : Addr} {mc : Value} {ks : List Str} {gL : List Value → List Value → List Value} {gV : List V → List V → List V} {o : Expr} {m : Str} {kws : List Keyword} {pos apos : Pos} {ta : TE} {tk : TA} {pl : Sem Bool} (he : PE X o ta) (r : ClX.CRead X.K C mc) (c : ClX.CMet X.K C mc m p g)
    (F : FnOk X.prog X.w X.K X.mg X.base CX0 k g fd ps sp) (hr : Room j X.A) (hk : k ≤ j) (hb : KBn X.K fd ps 1 ks gL gV) (hkw : PK X kws tk)
    (hall : (backToKw pos (keywordEach kws X.env)).all (·.1.isSome) = true := by rfl) (hks : (backToKw pos (keywordEach kws X.env)).filterMap (·.1) = ks := by rfl)
    (hpl : ((backTo pos (starEach [] X.env)).any (·.1) || (backToKw pos (keywordEach kws X.env)).any (·.1.isNone)) = false := by rfl)
    (ht : eval (.Call (.Attribute o m apos) [] kws pos) X.env = (eval o X.env >>= fun ov => standAt apos.atName >>= fun _ => holding [ov] (getMethod ov m pl) >>= fun fx => callWith pos fx.1 fx.2 (backTo pos (starEach [] X.env)) (backToKw pos (keywordEach kws X.env))) := by rfl) :
    PE X (.Call (.Attribute o m apos) [] kws pos) (tCMethK C ks.length sp gV ta tk) := by
  constructor
  intro pins s σ H Q I h
  refine PySem.W.methodCall_KW (pl := pl) (thn (he.run pins s σ H _ I h) fun u s1 hh => ?_) ht
  obtain ⟨x, H1, I1, rx, rfl, q⟩ := hh
  obtain rfl : u = Value.ref C := rx
  refine ClX.getmethcm_ok I1 r c fun s2 I2 => ?_
  have fin : wpAny (model X.prog X.w) X.A (evalAll ((backToKw pos (keywordEach kws X.env)).map (·.2))) (fun ws s3 => PySem.W.MethP X.K s1.heap.objs.size g (.ref C) s3.heap ∧
      wpAny (model X.prog X.w) X.A (call (.ref s1.heap.objs.size) ([] ++ []) (((backToKw pos (keywordEach kws X.env)).filterMap (·.1)).zip ws)) (EP X pins σ Q) X.xe s3) X.xe s2 := by
    refine thn (hkw.run pos _ s2 σ H1 _ I2 q) fun ws s3 hh => ?_
    obtain ⟨zs, H2, I3, rz, hl, q2⟩ := hh
    refine ⟨⟨ClX.pin_at I3, I3.kIn⟩, ?_⟩
    rw [hks]
    have r1 : Vals [V.ref C] [Value.ref C] := ref1 C
    have e2 : ws.length = ks.length := rz.length.symm.trans hl
    have hz : wpAny (model X.prog X.w) X.A (call (.ref s1.heap.objs.size) [] (ks.zip ws)) (EP X ((s1.heap.objs.size, PySem.W.methodObj (.ref g) (.ref C)) :: pins) σ Q) X.xe s3 := by
      refine wpAny_call (PySem.W.method_call (ClX.pin_at I3) (codeAny_mono (F.run X.A X.stack s3 H2 ⟨[.ref C], ks.zip ws⟩ (gL [.ref C] ws) (gV [.ref C] zs) Q E0 (hr.mono hk) I3.env0 (hb.to _ [.ref C] ws I3.kIn rfl e2) (hb.rel r1 rz) q2) fun rr s' hq => ?_))
      cases rr with
      | error e => exact (show False from hq).elim
      | ok fl =>
        cases fl with
        | ret u => exact I3.after hq
        | next => exact (show False from hq).elim
        | brk => exact (show False from hq).elim
        | cont => exact (show False from hq).elim
    exact thn hz fun _ _ y => ClX.unpinE y
  exact PySem.W.callWith_of hpl (PySem.W.keeps_M c.fi) (PyProof.Rows.evalArgs_kw2_nil hall fin)
end
end U

namespace U
open PySem L2
/-! ### what plain data shows -/
structure Sh (d : PyData) (b n : Nat) : Prop where
  lay : d.canLay0 = true
  shw : d.showable = true
  lv : d.leavesShort 13 = true
  bk : d.bulk ≤ b
  dp : d.depth ≤ n
structure ShA (ds : List PyData) (b n : Nat) : Prop where
  lay : PyData.canLayAll0 ds = true
  shw : PyData.showableAll ds = true
  lv : PyData.leavesShortAll 13 ds = true
  bk : PyData.bulkAll ds ≤ b
  dp : PyData.depthAll ds ≤ n
theorem Sh.mono {d : PyData} {b n c m : Nat} (h : Sh d b n) (hb : b ≤ c) (hn : n ≤ m) : Sh d c m := ⟨h.lay, h.shw, h.lv, Nat.le_trans h.bk hb, Nat.le_trans h.dp hn⟩
theorem ShA.mono {ds : List PyData} {b n c m : Nat} (h : ShA ds b n) (hb : b ≤ c) (hn : n ≤ m) : ShA ds c m := ⟨h.lay, h.shw, h.lv, Nat.le_trans h.bk hb, Nat.le_trans h.dp hn⟩
theorem Sh.none : Sh .none 0 0 := ⟨by simp only [PyData.canLay0], by simp only [PyData.showable], by simp only [PyData.leavesShort], by simp only [PyData.bulk]; exact Nat.le_refl 0, by simp only [PyData.depth]; exact Nat.le_refl 0⟩
theorem Sh.bool (b : Bool) : Sh (.bool b) 0 0 := ⟨by simp only [PyData.canLay0], by simp only [PyData.showable], by simp only [PyData.leavesShort], by simp only [PyData.bulk]; exact Nat.le_refl 0, by simp only [PyData.depth]; exact Nat.le_refl 0⟩
theorem log_lt {i : Int} (h : i.natAbs < 10 ^ 12) : i.natAbs.log2 < 1920 := by
  by_cases z : i.natAbs = 0
  · rw [z]; decide
  · refine (Nat.log2_lt z).mpr (Nat.lt_of_lt_of_le h ?_)
    exact Nat.le_trans (by decide : 10 ^ 12 ≤ 2 ^ 40) (Nat.pow_le_pow_right (by decide) (by decide))
theorem Sh.int {i : Int} (h : i.natAbs < 10 ^ 12) : Sh (.int i) 0 0 := ⟨by simp only [PyData.canLay0], by simp only [PyData.showable]; exact decide_eq_true (log_lt h), by simp only [PyData.leavesShort]; exact decide_eq_true (PyData.shown_int_le h), by simp only [PyData.bulk]; exact Nat.le_refl 0, by simp only [PyData.depth]; exact Nat.le_refl 0⟩
theorem Sh.str {x : Str} {b : Nat} (h : ∀ c ∈ x.cps.toList, c < 128) (hb : x.length ≤ b) : Sh (.str x) b 0 := by
  refine ⟨?_, by simp only [PyData.showable], ?_, by simp only [PyData.bulk]; exact hb, by simp only [PyData.depth]; exact Nat.le_refl 0⟩
  · simp only [PyData.canLay0]
    show x.cps.all (· < 0x110000) = true
    rw [← Array.all_toList]
    exact List.all_eq_true.mpr fun c hc => decide_eq_true (by have := h c hc; omega)
  · simp only [PyData.leavesShort]
    refine List.all_eq_true.mpr fun c hc => decide_eq_true ?_
    have := h c hc
    have e : (16 : Nat) ^ 8 = 4294967296 := by decide
    omega
theorem ShA.nil : ShA [] 0 0 := ⟨by simp only [PyData.canLayAll0], by simp only [PyData.showableAll], by simp only [PyData.leavesShortAll], by simp only [PyData.bulkAll]; exact Nat.le_refl 0, by simp only [PyData.depthAll]; exact Nat.le_refl 0⟩
theorem ShA.cons {d : PyData} {ds : List PyData} {b c n m : Nat} (h : Sh d b n) (g : ShA ds c m) : ShA (d :: ds) (b + 1 + c) (max n m) := by
  refine ⟨?_, ?_, ?_, ?_, ?_⟩
  · simp only [PyData.canLayAll0]; rw [h.lay, g.lay]; rfl
  · simp only [PyData.showableAll]; rw [h.shw, g.shw]; rfl
  · simp only [PyData.leavesShortAll]; rw [h.lv, g.lv]; rfl
  · simp only [PyData.bulkAll]
    have := h.bk
    have := g.bk
    omega
  · simp only [PyData.depthAll]
    have := h.dp
    have := g.dp
    omega
theorem ShA.map {α : Type} {f : α → PyData} {c n : Nat} : ∀ {l : List α}, (∀ x ∈ l, Sh (f x) c n) → ShA (l.map f) (l.length * (c + 1)) n
  | [], _ => ShA.nil.mono (Nat.zero_le _) (Nat.zero_le _)
  | x :: l, h => by
    have g := ShA.cons (h x List.mem_cons_self) (ShA.map fun y hy => h y (List.mem_cons_of_mem _ hy))
    exact g.mono (by rw [List.length_cons, Nat.succ_mul]; omega) (by omega)
theorem Sh.tup {ds : List PyData} {b n : Nat} (h : ShA ds b n) : Sh (.tuple ds) b (n + 1) := by
  refine ⟨?_, ?_, ?_, ?_, ?_⟩
  · simp only [PyData.canLay0]; exact h.lay
  · simp only [PyData.showable]; exact h.shw
  · simp only [PyData.leavesShort]; exact h.lv
  · simp only [PyData.bulk]; exact h.bk
  · simp only [PyData.depth]
    have := h.dp
    omega
theorem Sh.lst {ds : List PyData} {b n : Nat} (h : ShA ds b n) : Sh (.list ds) b (n + 1) := by
  refine ⟨?_, ?_, ?_, ?_, ?_⟩
  · simp only [PyData.canLay0]; exact h.lay
  · simp only [PyData.showable]; exact h.shw
  · simp only [PyData.leavesShort]; exact h.lv
  · simp only [PyData.bulk]; exact h.bk
  · simp only [PyData.depth]
    have := h.dp
    omega
/-- repr(x), x plain data -/
def rRepr (K : PySem.W.Frag) : List V → Hp → VK → Prop := fun xs H Q => ∃ (v : V) (d : PyData) (b n : Nat), xs = [v] ∧ Dp K H v d ∧ Sh d b n ∧ b ≤ 1048576 ∧ n ≤ 60 ∧ Q (.str d.shown) H
theorem reprD {X : Cx} (K : PySem.W.Frag) (hg : X.A.guards = some []) (hu : X.A.units + 64 < cLine) (h : X.K = K := by rfl) : CallR X (.builtin "repr") (rRepr K) := by
  subst h
  intro pins s σ H xs us Q I r h
  obtain ⟨v, d, b, n, rfl, hd, sh, hb, hn, q⟩ := h
  cases r with
  | cons ru rr =>
    cases rr
    have fits : d.shown.length ≤ sizeLine := PyData.shown_fits_bulk (B := 13) (by decide) (by decide) sh.lv (Nat.le_trans sh.bk (Nat.le_trans hb (by decide)))
    cases hd with
    | non => cases ru; exact P.repr_of_none ⟨.str _, H, I.tok _, ⟨_, rfl⟩, by simpa only [PyData.shown] using q⟩
    | bl c => cases ru; exact P.repr_of_bool ⟨.str _, H, I.tok _, ⟨_, rfl⟩, by simpa only [PyData.shown] using q⟩
    | int i =>
      obtain ⟨t, rfl⟩ := ru
      have g := sh.shw
      simp only [PyData.showable] at g
      exact P.repr_of_int (of_decide_eq_true g) ⟨.str _, H, I.tok _, ⟨_, rfl⟩, by simpa only [PyData.shown] using q⟩
    | str x =>
      obtain ⟨t, rfl⟩ := ru
      exact P.repr_of_str ⟨.str _, H, I.tok _, ⟨_, rfl⟩, by simpa only [PyData.shown] using q⟩ (by simpa only [PyData.shown] using fits)
    | lst hs ha =>
      cases ru
      obtain ⟨as, rd⟩ := Dp.reads I _ _ _ (.lst hs ha) (show RelV (V.ref _) (Value.ref _) from rfl)
      exact repr_of_reads' rd sh.shw (PyData.noDict_hsm (PyData.hasDict_of_canLay _ sh.lay)) hg (by have := sh.dp; omega) (fun b o e => e) (fun h' u tk k => ⟨.str _, H, I.kept (t' := tk) k, ⟨_, rfl⟩, q⟩) fits
    | tup hs ha =>
      cases ru
      obtain ⟨as, rd⟩ := Dp.reads I _ _ _ (.tup hs ha) (show RelV (V.ref _) (Value.ref _) from rfl)
      exact repr_of_reads' rd sh.shw (PyData.noDict_hsm (PyData.hasDict_of_canLay _ sh.lay)) hg (by have := sh.dp; omega) (fun b o e => e) (fun h' u tk k => ⟨.str _, H, I.kept (t' := tk) k, ⟨_, rfl⟩, q⟩) fits
/-! ### own classes, in bundles -/
/-- a special method of the class at C -/
structure SpN (P : Program) (w : World) (K : PySem.W.Frag) (mg : Str → Option Value) (base : Heap) (C : Addr) (m : Str) (k : Nat) (sp : Sp) : Prop where
  ex : ∃ (f : Addr) (fd : FuncData) (ps : List Str), FnOk P w K mg base CX0 k f fd ps sp ∧ PySem.W.findIn K (.ref C) m = some (some (.ref f)) ∧ PySem.W.isFn K (.ref f) = true ∧ Binds K fd ps []
/-- a property -/
structure GetN (P : Program) (w : World) (K : PySem.W.Frag) (mg : Str → Option Value) (base : Heap) (C : Addr) (m : Str) (k : Nat) (sp : Sp) : Prop where
  ex : ∃ (p g : Addr) (fd : FuncData) (ps : List Str), PropOf K C m p g ∧ FnOk P w K mg base CX0 k g fd ps sp ∧ Binds K fd ps []
/-- the class made, by position and by keyword -/
structure MkN (P : Program) (w : World) (K : PySem.W.Frag) (mg : Str → Option Value) (base : Heap) (x : Str) (C : Addr) (k : Nat) (ps : List Str) (sp : Sp) (ks : List Str) (gL : List Value → List Value → List Value) (gV : List V → List V → List V) : Prop where
  ex : ∃ (f : Addr) (fd : FuncData), Mk K C f ∧ FnOk P w K mg base CX0 k f fd ps sp ∧ Binds K fd ps [] ∧ KBn K fd ps 1 ks gL gV
  gC : mg x = some (.ref C)
/-- a classmethod, by position and by keyword -/
structure CmN (P : Program) (w : World) (K : PySem.W.Frag) (mg : Str → Option Value) (base : Heap) (C : Addr) (m : Str) (k : Nat) (ps : List Str) (sp : Sp) (ks : List Str) (gL : List Value → List Value → List Value) (gV : List V → List V → List V) : Prop where
  ex : ∃ (p g : Addr) (fd : FuncData) (mc : Value), ClX.CRead K C mc ∧ ClX.CMet K C mc m p g ∧ FnOk P w K mg base CX0 k g fd ps sp ∧ Binds K fd ps [] ∧ KBn K fd ps 1 ks gL gV
theorem fun_kb {K : PySem.W.Frag} {x qual : Str} {st : Stmt} {f : Addr} {fd : FuncData} {ps ks : List Str} {n : Nat} {gL : List Value → List Value → List Value} {gV : List V → List V → List V} (F : Fun K x qual st f fd)
    (h : ∀ (kV doc pm : Value) (an : Option Addr) (cdv ct : Value) (us ws : List Value), us.length = n → ws.length = ks.length → bindArgs (PySem.W.fnOf x qual (defArgs st) (defBody st) (defScope st) .none kV doc pm an cdv ct) ⟨us, ks.zip ws⟩ = pure (ps.zip (gL us ws)))
    (hrel : ∀ {vs : List V} {us : List Value} {zs : List V} {ws : List Value}, Vals vs us → Vals zs ws → Vals (gV vs zs) (gL us ws)) : KBn K fd ps n ks gL gV := by
  obtain ⟨oc, od, kV, doc, pm, an, cdv, ct, osl, rfl, lk, hcd⟩ := F.ex
  exact ⟨fun s us ws _ h1 h2 => .of_eq (h kV doc pm an cdv ct us ws h1 h2), hrel⟩
section
variable {X : Cx} {C : Addr} {k j : Nat} {sp : Sp} {m x : Str} {ps ks : List Str} {gL : List Value → List Value → List Value} {gV : List V → List V → List V} {e o : Expr} {es : List Expr} {kws : List Keyword} {p pos apos : Pos} {t : TA} {ta : TE} {tk : TA} {pl : Sem Bool}
theorem SpN.at (S : SpN X.prog X.w X.K X.mg X.base C m k sp) : SpM X C m k sp := ⟨S.ex⟩
theorem pe_prp (G : GetN X.prog X.w X.K X.mg X.base C m k sp) (c : Cls X.K C) (hr : Room j X.A) (hk : k + 1 ≤ j) (he : PE X e ta) (hab : attributeBase e m X.env (eval e X.env) = eval e X.env := by rfl) : PE X (.Attribute e m pos) (tProp C sp [] E0 ta) := by
  obtain ⟨p, g, fd, ps, hp, F, hb⟩ := G.ex
  exact pe_prop he c hp F (hr.mono hk) hb .nil pass0 hab
theorem pe_mk (M : MkN X.prog X.w X.K X.mg X.base x C k ps sp ks gL gV) (hr : Room j X.A) (hk : k + 1 ≤ j) (ha : PA X (e :: es) t) (hg : Gl X x := by rfl) (hdb : (x == ("__debug__" : Str)) = false := by decide)
    (he : starEach (e :: es) X.env = (false, eval e X.env) :: starEach es X.env := by rfl) (hpl : (backTo pos (starEach es X.env)).any (·.1) = false := by rfl) : PE X (.Call (.Name x p) (e :: es) [] pos) (tMake C sp [] E0 t) := by
  obtain ⟨⟨f, fd, m, F, hb, _⟩, gC⟩ := M
  exact pe_make m F (hr.mono hk) hg gC hb .nil pass0 ha hdb he hpl
theorem pe_mkK (M : MkN X.prog X.w X.K X.mg X.base x C k ps sp ks gL gV) (hr : Room j X.A) (hk : k + 1 ≤ j) (hkw : PK X kws tk) (hg : Gl X x := by rfl)
    (hall : (backToKw pos (keywordEach kws X.env)).all (·.1.isSome) = true := by rfl) (hks : (backToKw pos (keywordEach kws X.env)).filterMap (·.1) = ks := by rfl) (hdb : (x == ("__debug__" : Str)) = false := by decide)
    (hpl : ((backTo pos (starEach [] X.env)).any (·.1) || (backToKw pos (keywordEach kws X.env)).any (·.1.isNone)) = false := by rfl) : PE X (.Call (.Name x p) [] kws pos) (tMakeK C 0 ks.length sp gV E0 tNil tk) := by
  obtain ⟨⟨f, fd, m, F, _, hb⟩, gC⟩ := M
  exact pe_makeK0 m F (hr.mono hk) hg gC hb pass0 hkw hall hks hdb hpl
theorem pe_cm (M : CmN X.prog X.w X.K X.mg X.base C m k ps sp ks gL gV) (hr : Room j X.A) (hk : k ≤ j) (he : PE X o ta) (ha : PA X (e :: es) t)
    (hst : starEach (e :: es) X.env = (false, eval e X.env) :: starEach es X.env := by rfl) (hpl : (backTo pos (starEach es X.env)).any (·.1) = false := by rfl)
    (ht : eval (.Call (.Attribute o m apos) (e :: es) [] pos) X.env = (eval o X.env >>= fun ov => standAt apos.atName >>= fun _ => holding [ov] (getMethod ov m pl) >>= fun fx => callWith pos fx.1 fx.2 (backTo pos (starEach (e :: es) X.env)) (backToKw pos (keywordEach [] X.env))) := by rfl) :
    PE X (.Call (.Attribute o m apos) (e :: es) [] pos) (ClX.tCMeth C (fun vs H Q E => sp (vs ++ []) H Q E) E0 ta t) := by
  obtain ⟨p, g, fd, mc, r, c, F, hb, _⟩ := M.ex
  exact ClX.pe_cmeth (pl := pl) he r c (F.raw hb .nil) (hr.mono hk) pass0 ha hst hpl ht
theorem pe_cmK (M : CmN X.prog X.w X.K X.mg X.base C m k ps sp ks gL gV) (hr : Room j X.A) (hk : k ≤ j) (he : PE X o ta) (hkw : PK X kws tk)
    (hall : (backToKw pos (keywordEach kws X.env)).all (·.1.isSome) = true := by rfl) (hks : (backToKw pos (keywordEach kws X.env)).filterMap (·.1) = ks := by rfl)
    (hpl : ((backTo pos (starEach [] X.env)).any (·.1) || (backToKw pos (keywordEach kws X.env)).any (·.1.isNone)) = false := by rfl)
    (ht : eval (.Call (.Attribute o m apos) [] kws pos) X.env = (eval o X.env >>= fun ov => standAt apos.atName >>= fun _ => holding [ov] (getMethod ov m pl) >>= fun fx => callWith pos fx.1 fx.2 (backTo pos (starEach [] X.env)) (backToKw pos (keywordEach kws X.env))) := by rfl) :
    PE X (.Call (.Attribute o m apos) [] kws pos) (tCMethK C ks.length sp gV ta tk) := by
  obtain ⟨p, g, fd, mc, r, c, F, _, hb⟩ := M.ex
  exact pe_cmethK (pl := pl) he r c F hr hk hb hkw hall hks hpl ht
end
end U

namespace U
open PySem L2 PySem.Spec PyProof.Rows PySem.W
/-! ### t[::-1] of a tuple -/
section
variable {prog : Program} {w : World} {A : Around} {E : Value → Shared → Prop} {s : Shared}
theorem places_rev (n : Nat) : Builtin.Slice.slicePlaces ((n : Int) - 1) (-1) (-1) = n := by
  unfold Builtin.Slice.slicePlaces
  rw [if_neg (by decide)]
  by_cases h : (n : Int) - 1 > -1
  · rw [if_pos h]
    have e : ((n : Int) - 1 - -1 - 1) / (- -1) + 1 = (n : Int) := by
      rw [show (- -1 : Int) = 1 by decide, Int.ediv_one]; omega
    rw [e]; rfl
  · rw [if_neg h]
    have : n = 0 := by omega
    rw [this]; rfl
theorem applied_rev {sl : Addr} {vl vu vs : Value} {n : Nat} {Q : Int × Int × Nat → Shared → Prop} (hs : s.heap.IsSliceOf sl vl vu vs) (pl : IsPart vl none) (pu : IsPart vu none) (ps : IsPart vs (some (-1)))
    (h : Q ((n : Int) - 1, -1, n) s) : wpAny (model prog w) A (Builtin.Slice.sliceApplied (.ref sl) (pure (n : Int))) Q E s := by
  obtain ⟨os, g1, g2, g3⟩ := id hs
  unfold Builtin.Slice.sliceApplied Builtin.Slice.sliceFields
  refine wpAny_bind (wpAny_bind (wpAny_field g1 g3 (x := vl) rfl (wpAny_bind (wpAny_field g1 g3 (x := vu) rfl (wpAny_bind (wpAny_field g1 g3 (x := vs) rfl (wpAny_pure ?_)))))))
  refine wpAny_bind (HT.slicePart_ ps ?_)
  show wpAny _ _ (if ((-1 : Int) == 0) = true then _ else _) _ _ s
  rw [if_neg (by decide)]
  refine wpAny_bind (HT.slicePart_ pl (wpAny_bind (HT.slicePart_ pu (wpAny_bind (wpAny_pure ?_)))))
  have e : Builtin.Slice.sliceAdjust none none (-1) (n : Int) = ((n : Int) - 1, -1) := rfl
  show wpAny _ _ (pure (((n : Int) - 1), (-1 : Int), Builtin.Slice.slicePlaces ((n : Int) - 1) (-1) (-1))) _ _ s
  rw [places_rev]
  exact wpAny_pure h
theorem fm_congr {α β : Type} {f g : α → Option β} : ∀ {l : List α}, (∀ x ∈ l, f x = g x) → l.filterMap f = l.filterMap g
  | [], _ => rfl
  | x :: l, h => by
    rw [List.filterMap_cons, List.filterMap_cons, h x List.mem_cons_self, fm_congr fun y hy => h y (List.mem_cons_of_mem _ hy)]
theorem pick_rev (xs : Array Value) : ((List.range xs.size).filterMap fun (m : Nat) => xs[((xs.size : Int) - 1 + (m : Int) * -1).toNat]?).toArray = xs.toList.reverse.toArray := by
  have e : ((List.range xs.size).filterMap fun (m : Nat) => xs[((xs.size : Int) - 1 + (m : Int) * -1).toNat]?) = ((List.range xs.size).map fun k => xs.size - 1 - k).filterMap (xs[·]?) := by
    rw [List.filterMap_map]
    refine fm_congr fun m hm => ?_
    have := List.mem_range.mp hm
    have e : ((xs.size : Int) - 1 + (m : Int) * -1).toNat = xs.size - 1 - m := by omega
    rw [e]; rfl
  rw [e, krv_range, List.filterMap_reverse, krv_all]
theorem getItem_rev {t sl : Addr} {items : Array Value} {vl vu vs : Value} {Q : Value → Shared → Prop} (ht : IsTup s.heap t items) (hs : s.heap.IsSliceOf sl vl vu vs) (pl : IsPart vl none) (pu : IsPart vu none) (ps : IsPart vs (some (-1)))
    (h : Q (.ref s.heap.objs.size) { s with heap := s.heap.push { cls := .type "tuple", data := .seq items.toList.reverse.toArray } }) (hsz : items.size ≤ sizeLine) : wpAny (model prog w) A (getItem (.ref t) (.ref sl)) Q E s := by
  have room : sizeOk (.seq items.toList.reverse.toArray) := by
    show items.toList.reverse.toArray.size ≤ sizeLine
    rw [List.size_toArray, List.length_reverse, Array.length_toList]; exact hsz
  obtain ⟨os, g1, g2, g3⟩ := id hs
  have tys : s.TypeIs (.ref sl) "slice" := ⟨os, g1, g2⟩
  unfold getItem
  try with_reducible refine wpAny_holding ?_
  first | refine wpAny_bind (wpAny_pure ?_) | skip
  refine wpAny_bind (wpAny_sequenceKey ht.typeIs (by decide) ?_)
  refine wpAny_bind (wpAny_callSpecial?_slot (name := Str.ofString "__getitem__") ht.typeIs PyProof.Rows.slot_tuple_getitem (wpAny_call_entry PyProof.Rows.slot_tuple_getitem ht.typeIs entry_tuple_getitem ?_ (args_tuple_getitem _ _)))
  show wpAny _ _ (Builtin.Tuple.tupleItemsOf (.ref t) >>= _) _ _ s
  refine wpAny_bind (tupleItemsOf_ ht (wpAny_bind (wpAny_typeOf tys ?_)))
  rw [if_pos (by decide)]
  refine wpAny_bind (applied_rev hs pl pu ps ?_)
  have no : ¬ ((((items.size : Int) - 1 == 0) && ((-1 : Int) == 1) && (items.size == items.size)) = true) := fun q => by
    rw [show ((-1 : Int) == 1) = false from rfl, Bool.and_false, Bool.false_and] at q
    cases q
  show wpAny _ _ (if (((items.size : Int) - 1 == 0) && ((-1 : Int) == 1) && (items.size == items.size)) = true then _ else _) _ _ s
  rw [if_neg no, pick_rev]
  first
    | exact wpAny_bind (m := Builtin.Tuple.tupleExact _) (wpAny_newObj_type (wpAny_pure ⟨_, rfl, wpAny_pure h⟩) room)
    | exact wpAny_bind (m := Builtin.Tuple.tupleExact _) (wpAny_newObj_type (wpAny_bind (wpAny_pure (wpAny_pure ⟨_, rfl, wpAny_pure h⟩))) room)
    | exact wpAny_bind (wpAny_bind (m := Builtin.Tuple.tupleExact _) (wpAny_newObj_type (wpAny_pure ⟨_, rfl, wpAny_pure h⟩) room))
    | exact wpAny_bind (wpAny_bind (m := Builtin.Tuple.tupleExact _) (wpAny_newObj_type (wpAny_pure (wpAny_pure ⟨_, rfl, wpAny_pure h⟩)) room))
end
section
variable {X : Cx}
def tRevT (K : PySem.W.Frag) (te : TE) : TE := fun σ H Q => te σ H fun x H1 => ∃ a xs, x = .ref a ∧ SqT K H1 a xs ∧ ∀ p, H1 p = none → Q (.ref p) (upd H1 p (.tup xs.reverse))
theorem pe_revT (K : PySem.W.Frag) {e : Expr} {te : TE} {k : Nat} {p1 p2 p3 pos : Pos} (he : PE X e te) (hK : X.K = K := by rfl) : PE X (.Subscript e (.Slice none none (some (.UnaryOp .USub (.Constant (.int 1) k p1) p2)) p3) pos) (tRevT K te) := by
  subst hK
  constructor
  intro pins s σ H Q I h
  refine Subscript_ (thn (he.run pins s σ H _ I h) fun v s1 hh => ?_)
  obtain ⟨x, H1, I1, r1, a, xs, rfl, hx, q⟩ := hh
  cases r1
  have st : PO X (some (.UnaryOp .USub (.Constant (.int 1) k p1) p2)) (tPart (tUn (rU fun i => .int (-i)) (tC (.int 1)))) := po_some (pe_un un_neg pe_int)
  refine wpAny_Slice (thn (po_none.run pins s1 σ H1 (fun o H2 => o = none ∧ H2 = H1) I1 ⟨rfl, rfl⟩) fun vl s2 hl => ?_)
  obtain ⟨l, H2, I2, pl, rfl, rfl⟩ := hl
  refine thn (po_none.run pins s2 σ H2 (fun o H3 => o = none ∧ H3 = H2) I2 ⟨rfl, rfl⟩) fun vu s3 hl => ?_
  obtain ⟨u, H3, I3, pu, rfl, rfl⟩ := hl
  refine thn (st.run pins s3 σ H3 (fun o H4 => o = some (-1) ∧ H4 = H3) I3 ⟨1, rfl, -1, rfl, rfl, rfl⟩) fun vs s4 hl => ?_
  obtain ⟨o, H4, I4, ps, rfl, rfl⟩ := hl
  have I5 : Inv X pins σ H4 { s4 with heap := s4.heap.push { cls := .type "slice", data := .fields #[vl, vu, vs] } } := I4.kept (t' := s4.toks) fun b ob q => Heap.get?_push_of_some _ q
  obtain ⟨its, r, ht, hz⟩ := I5.tuple hx
  show wpAny (model X.prog X.w) X.A (subscriptTail e (.Slice none none (some (.UnaryOp .USub (.Constant (.int 1) k p1) p2)) p3) (.ref a) (.ref s4.heap.objs.size)) (EP X pins σ Q) X.xe { s4 with heap := s4.heap.push { cls := .type "slice", data := .fields #[vl, vu, vs] } }
  refine tail_any (ops := [.ref a, .ref s4.heap.objs.size]) ht.typeIs PyProof.Rows.slot_tuple_getitem.lookup ?_ (by with_unfolding_all rfl)
  refine getItem_rev ht (Heap.IsSliceOf.new _ vl vu vs) pl pu ps ?_ (by rw [List.size_toArray, ← r.length]; exact hz)
  refine ⟨.ref _, _, I5.laid (t' := s4.toks) (o := .tup xs.reverse) (fun b ob q => Heap.get?_push_of_some _ q) (Nat.le_refl _) ?_, rfl, q _ (I5.hok.fresh (Nat.le_refl _))⟩
  exact ⟨by rw [List.length_reverse]; exact hz, _, r.reverse, IsTup.new _ _⟩
end
end U

namespace U
open PySem L2 PySem.Spec PyProof.Rows PySem.W
/-! ### an own object held against a value of a built-in class -/
section
variable {prog : Program} {w : World} {A : Around} {E : Value → Shared → Prop} {s : Shared} {K : Frag} {x C : Addr} {ox dx : Addr} {od : Option Obj}
theorem int_own_eq (b : Int) (u : Tok) (l C dx : Addr) : Meets (Builtin.«int.__eq__» ⟨[.int b u, .ref l], []⟩) (fun _ R s => s.heap.get? l = some (instObj C dx) ∧ R (.ok (.ret .notImplemented)) s) :=
  .of_wp fun prog w A R s h => by obtain ⟨hp, g, d, tk, os⟩ := s; obtain ⟨hl, h⟩ := h; wp_walk using wpAny_loadPart' hl, wpAny_load hl; exact ⟨_, rfl, h⟩
theorem int_own_ne (b : Int) (u : Tok) (l C dx : Addr) : Meets (Builtin.«int.__ne__» ⟨[.int b u, .ref l], []⟩) (fun _ R s => s.heap.get? l = some (instObj C dx) ∧ R (.ok (.ret .notImplemented)) s) :=
  .of_wp fun prog w A R s h => by obtain ⟨hp, g, d, tk, os⟩ := s; obtain ⟨hl, h⟩ := h; wp_walk using wpAny_loadPart' hl, wpAny_load hl; exact ⟨_, rfl, h⟩
theorem bool_own_eq (b : Bool) (l C dx : Addr) : Meets (Builtin.«int.__eq__» ⟨[.bool b, .ref l], []⟩) (fun _ R s => s.heap.get? l = some (instObj C dx) ∧ R (.ok (.ret .notImplemented)) s) :=
  .of_wp fun prog w A R s h => by obtain ⟨hp, g, d, tk, os⟩ := s; obtain ⟨hl, h⟩ := h; wp_walk using wpAny_loadPart' hl, wpAny_load hl; exact ⟨_, rfl, h⟩
theorem bool_own_ne (b : Bool) (l C dx : Addr) : Meets (Builtin.«int.__ne__» ⟨[.bool b, .ref l], []⟩) (fun _ R s => s.heap.get? l = some (instObj C dx) ∧ R (.ok (.ret .notImplemented)) s) :=
  .of_wp fun prog w A R s h => by obtain ⟨hp, g, d, tk, os⟩ := s; obtain ⟨hl, h⟩ := h; wp_walk using wpAny_loadPart' hl, wpAny_load hl; exact ⟨_, rfl, h⟩
theorem str_own_eq (b : Str) (u : Tok) (l C dx : Addr) : Meets (Builtin.«str.__eq__» ⟨[.str b u, .ref l], []⟩) (fun _ R s => s.heap.get? l = some (instObj C dx) ∧ R (.ok (.ret .notImplemented)) s) :=
  .of_wp fun prog w A R s h => by obtain ⟨hp, g, d, tk, os⟩ := s; obtain ⟨hl, h⟩ := h; wp_walk using wpAny_loadPart' hl, wpAny_load hl; exact ⟨_, rfl, h⟩
theorem str_own_ne (b : Str) (u : Tok) (l C dx : Addr) : Meets (Builtin.«str.__ne__» ⟨[.str b u, .ref l], []⟩) (fun _ R s => s.heap.get? l = some (instObj C dx) ∧ R (.ok (.ret .notImplemented)) s) :=
  .of_wp fun prog w A R s h => by obtain ⟨hp, g, d, tk, os⟩ := s; obtain ⟨hl, h⟩ := h; wp_walk using wpAny_loadPart' hl, wpAny_load hl; exact ⟨_, rfl, h⟩
/-- what a list, a tuple, a dict says of a value of another class -/
theorem other_cls {T : String} {Q : Bool → Shared → Prop} (X : K.In s.heap) (J : PySem.W.InstAt s.heap x (instObj C dx) C od) (e : subIn K (.ref C) (.type T) = some false) (h : Q false s) : wpAny (model prog w) A (isInstance (.ref x) (.type T)) Q E s := by
  unfold isInstance
  exact wpAny_bind (J.type.here ((looks_subIn X e).here h))
theorem tup_body {B : Builtin} {a : Addr} {Q : Value → Shared → Prop} (hB : B = Builtin.«tuple.__eq__» ∨ B = Builtin.«tuple.__ne__») (X : K.In s.heap) (J : PySem.W.InstAt s.heap x (instObj C dx) C od) (e : subIn K (.ref C) (.type "tuple") = some false)
    (h : Q .notImplemented s) : wpAny (model prog w) A (B ⟨[.ref a, .ref x], []⟩) (fun fin s' => ∃ v, fin = .done (.ret v) ∧ Q v s') E s := by
  rcases hB with rfl | rfl
  all_goals
    show wpAny _ _ (isInstance (.ref x) (.type "tuple") >>= _) _ _ s
    refine wpAny_bind (other_cls X J e ?_)
    show wpAny _ _ (if (!false) = true then _ else _) _ _ s
    rw [if_pos (by rfl : (!false) = true)]
    exact wpAny_pure ⟨_, rfl, h⟩
theorem lst_body {B : Builtin} {a : Addr} {Q : Value → Shared → Prop} (hB : B = Builtin.«list.__eq__» ∨ B = Builtin.«list.__ne__») (X : K.In s.heap) (J : PySem.W.InstAt s.heap x (instObj C dx) C od) (e : subIn K (.ref C) (.type "list") = some false)
    (h : Q .notImplemented s) : wpAny (model prog w) A (B ⟨[.ref a, .ref x], []⟩) (fun fin s' => ∃ v, fin = .done (.ret v) ∧ Q v s') E s := by
  rcases hB with rfl | rfl
  all_goals
    show wpAny _ _ (isInstance (.ref x) (.type "list") >>= _) _ _ s
    refine wpAny_bind (other_cls X J e ?_)
    show wpAny _ _ (if (!false) = true then _ else _) _ _ s
    rw [if_pos (by rfl : (!false) = true)]
    exact wpAny_pure ⟨_, rfl, h⟩
theorem dic_body {B : Builtin} {a : Addr} {Q : Value → Shared → Prop} (hB : B = Builtin.«dict.__eq__» ∨ B = Builtin.«dict.__ne__») (X : K.In s.heap) (J : PySem.W.InstAt s.heap x (instObj C dx) C od) (e : subIn K (.ref C) (.type "dict") = some false)
    (h : Q .notImplemented s) : wpAny (model prog w) A (B ⟨[.ref a, .ref x], []⟩) (fun fin s' => ∃ v, fin = .done (.ret v) ∧ Q v s') E s := by
  rcases hB with rfl | rfl
  all_goals
    show wpAny _ _ (isInstance (.ref x) (.type "dict") >>= _) _ _ s
    refine wpAny_bind (other_cls X J e ?_)
    show wpAny _ _ (if (!false) = true then _ else _) _ _ s
    rw [if_pos (by rfl : (!false) = true)]
    exact wpAny_bind (wpAny_rule (wpAny_pure ⟨_, rfl, h⟩))
/-- a value of a built-in class -/
inductive Fv (s : Shared) : Value → String → Prop
  | non : Fv s .none "NoneType"
  | bl (b : Bool) : Fv s (.bool b) "bool"
  | int (i : Int) (t : Tok) : Fv s (.int i t) "int"
  | str (y : Str) (t : Tok) : Fv s (.str y t) "str"
  | lst {a : Addr} (h : s.TypeIs (.ref a) "list") : Fv s (.ref a) "list"
  | tup {a : Addr} (h : s.TypeIs (.ref a) "tuple") : Fv s (.ref a) "tuple"
  | dic {a : Addr} (h : s.TypeIs (.ref a) "dict") : Fv s (.ref a) "dict"
theorem Fv.ty {v : Value} {T : String} (f : Fv s v T) : s.TypeIs v T := by
  cases f with
  | non => rfl
  | bl b => rfl
  | int i t => exact typeIs_int s i t
  | str y t => exact typeIs_str s y t
  | lst h => exact h
  | tup h => exact h
  | dic h => exact h
theorem Fv.decl {op : CmpOp} {v : Value} {T : String} (ho : op = .Eq ∨ op = .NotEq) (f : Fv s v T) (X : K.In s.heap) (g : s.heap.get? x = some (instObj C dx)) (J : PySem.W.InstAt s.heap x (instObj C dx) C od) (e : subIn K (.ref C) (.type T) = some false) :
    ∃ id, Slot T (cmpInfo op).2.1 id ∧ ∀ (A : Around) (E : Value → Shared → Prop) (Q : Value → Shared → Prop), Q .notImplemented s → wpAny (model prog w) A (call (.builtin id) [v, .ref x]) Q E s := by
  rcases ho with rfl | rfl
  · cases f with
    | non => exact ⟨_, PySem.F.slot_NoneType_eq, fun A E Q h => call_gives PySem.F.slot_NoneType_eq rfl PySem.F.entry_NoneType_eq (PySem.F.args_NoneType_eq_2 _ _) (SeqAt.NoneType___eq___none_ref_0 x) h⟩
    | bl b => exact ⟨_, PySem.F.slot_bool_eq, fun A E Q h => call_meets PySem.F.slot_bool_eq rfl PySem.F.entry_int_eq (PySem.F.args_int_eq_2 _ _) (bool_own_eq b x C dx) ⟨g, h⟩⟩
    | int i t => exact ⟨_, PySem.F.slot_int_eq, fun A E Q h => call_meets PySem.F.slot_int_eq (typeIs_int s i t) PySem.F.entry_int_eq (PySem.F.args_int_eq_2 _ _) (int_own_eq i t x C dx) ⟨g, h⟩⟩
    | str y t => exact ⟨_, PySem.F.slot_str_eq, fun A E Q h => call_meets PySem.F.slot_str_eq (typeIs_str s y t) PySem.F.entry_str_eq (PySem.F.args_str_eq_2 _ _) (str_own_eq y t x C dx) ⟨g, h⟩⟩
    | lst h => exact ⟨_, PySem.F.slot_list_eq, fun A E Q hq => wpAny_call_entry PySem.F.slot_list_eq h PySem.F.entry_list_eq (lst_body (.inl rfl) X J e hq) (PySem.F.args_list_eq_2 _ _)⟩
    | tup h => exact ⟨_, PySem.F.slot_tuple_eq, fun A E Q hq => wpAny_call_entry PySem.F.slot_tuple_eq h PySem.F.entry_tuple_eq (tup_body (.inl rfl) X J e hq) (PySem.F.args_tuple_eq_2 _ _)⟩
    | dic h => exact ⟨_, PySem.F.slot_dict_eq, fun A E Q hq => wpAny_call_entry PySem.F.slot_dict_eq h PySem.F.entry_dict_eq (dic_body (.inl rfl) X J e hq) (PySem.F.args_dict_eq_2 _ _)⟩
  · cases f with
    | non => exact ⟨_, PySem.F.slot_NoneType_ne, fun A E Q h => call_gives PySem.F.slot_NoneType_ne rfl PySem.F.entry_NoneType_ne (PySem.F.args_NoneType_ne_2 _ _) (SeqAt.NoneType___ne___none_ref_0 x) h⟩
    | bl b => exact ⟨_, PySem.F.slot_bool_ne, fun A E Q h => call_meets PySem.F.slot_bool_ne rfl PySem.F.entry_int_ne (PySem.F.args_int_ne_2 _ _) (bool_own_ne b x C dx) ⟨g, h⟩⟩
    | int i t => exact ⟨_, PySem.F.slot_int_ne, fun A E Q h => call_meets PySem.F.slot_int_ne (typeIs_int s i t) PySem.F.entry_int_ne (PySem.F.args_int_ne_2 _ _) (int_own_ne i t x C dx) ⟨g, h⟩⟩
    | str y t => exact ⟨_, PySem.F.slot_str_ne, fun A E Q h => call_meets PySem.F.slot_str_ne (typeIs_str s y t) PySem.F.entry_str_ne (PySem.F.args_str_ne_2 _ _) (str_own_ne y t x C dx) ⟨g, h⟩⟩
    | lst h => exact ⟨_, PySem.F.slot_list_ne, fun A E Q hq => wpAny_call_entry PySem.F.slot_list_ne h PySem.F.entry_list_ne (lst_body (.inr rfl) X J e hq) (PySem.F.args_list_ne_2 _ _)⟩
    | tup h => exact ⟨_, PySem.F.slot_tuple_ne, fun A E Q hq => wpAny_call_entry PySem.F.slot_tuple_ne h PySem.F.entry_tuple_ne (tup_body (.inr rfl) X J e hq) (PySem.F.args_tuple_ne_2 _ _)⟩
    | dic h => exact ⟨_, PySem.F.slot_dict_ne, fun A E Q hq => wpAny_call_entry PySem.F.slot_dict_ne h PySem.F.entry_dict_ne (dic_body (.inr rfl) X J e hq) (PySem.F.args_dict_ne_2 _ _)⟩
theorem Fv.looks {M : Model} {v : Value} {T : String} (f : Fv s v T) : PySem.W.Looks M s.heap (typeOf v) (.type T) := by
  intro A' Q' E' s' kk q
  refine wpAny_typeOf ?_ q
  cases f with
  | non => rfl
  | bl b => rfl
  | int i t => exact typeIs_int s' i t
  | str y t => exact typeIs_str s' y t
  | lst h => obtain ⟨o, e, c⟩ := h; exact ⟨o, kk _ _ e, c⟩
  | tup h => obtain ⟨o, e, c⟩ := h; exact ⟨o, kk _ _ e, c⟩
  | dic h => obtain ⟨o, e, c⟩ := h; exact ⟨o, kk _ _ e, c⟩
/-- v == x, v != x: the built-in declines, the own object is asked -/
theorem rev_cmp {op : CmpOp} {v : Value} {T : String} {Q : Value → Shared → Prop} (ho : op = .Eq ∨ op = .NotEq) (hu : A.units < cLine) (f : Fv s v T) (X : K.In s.heap) (g : s.heap.get? x = some (instObj C dx)) (J : PySem.W.InstAt s.heap x (instObj C dx) C od) (e : subIn K (.ref C) (.type T) = some false)
    (back : wpAny (model prog w) A (tryCompare (.ref x) (cmpInfo op).2.2 v) (fun r s' => ∃ u, r = some u ∧ Q u s') E s) : wpAny (model prog w) A (richCompare op v (.ref x)) Q E s := by
  obtain ⟨id, sl, d⟩ := f.decl (prog := prog) (w := w) ho X g J e
  have fin : wpAny (model prog w) A (tryCompare v (cmpInfo op).2.1 (.ref x)) (fun r s' => r = none ∧ s' = s) E s := wpAny_tryCompare_declines f.ty sl (d _ _ _ ⟨rfl, rfl, rfl⟩)
  have nt : (Value.type T != Value.ref C) = true := rfl
  unfold richCompare
  simp only [f.ty.oneThing_none]
  refine wpAny_holding (wpAny_bind (wpAny_cRoomFor hu ?_))
  refine wpAny_bind (wpAny_typeOf f.ty (wpAny_bind (J.type.here ?_)))
  rw [if_pos nt]
  refine wpAny_bind ((looks_subIn X e).here ?_)
  simp only [Bool.false_eq_true, if_false]
  refine wpAny_bind (wpAny_mono fin (fun r s' z => ?_) fun _ _ e => e)
  obtain ⟨rfl, rfl⟩ := z
  simp only [Bool.not_false, if_true]
  refine wpAny_bind (wpAny_mono back (fun r s' z => ?_) fun _ _ e => e)
  obtain ⟨u, rfl, z⟩ := z
  exact wpAny_pure z
theorem try_eq {fa : Addr} {b : Value} {Q : Value → Shared → Prop} (X : K.In s.heap) (J : PySem.W.InstAt s.heap x (instObj C dx) C od) (hs : findIn K (.ref C) "__eq__" = some (some (.ref fa))) (hf : isFn K (.ref fa) = true)
    (h : wpAny (model prog w) A (call (.ref fa) [.ref x, b]) (PySem.W.CmpBack Q) E s) : wpAny (model prog w) A (tryCompare (.ref x) "__eq__" b) (fun r s' => ∃ v, r = some v ∧ Q v s') E s := by
  unfold tryCompare
  refine wpAny_bind (ifBound_K X J hs hf (wpAny_mono h (fun v s' hv => ?_) fun _ _ e => e))
  cases v <;> first | exact hv.elim | exact wpAny_pure ⟨_, rfl, hv⟩
theorem try_ne {fa : Addr} {b : Value} {Q : Value → Shared → Prop} (hu : A.units + 1 < cLine) (X : K.In s.heap) (J : PySem.W.InstAt s.heap x (instObj C dx) C od) (hne : findIn K (.ref C) "__ne__" = some (some (.builtin "object.__ne__"))) (hm : mroIn K C (.type "object") = some true)
    (hs : findIn K (.ref C) "__eq__" = some (some (.ref fa))) (hf : isFn K (.ref fa) = true)
    (h : wpAny (model prog w) A.in1 (call (.ref fa) [.ref x, b]) (fun v s' => ∃ c : Bool, v = .bool c ∧ Q (.bool (!c)) s') E s) : wpAny (model prog w) A (tryCompare (.ref x) "__ne__" b) (fun r s' => ∃ v, r = some v ∧ Q v s') E s := by
  unfold tryCompare
  refine wpAny_bind (ifB X J hne PySem.F.slot_tuple_iterator_ne.bind (wpAny_call (codeAny_call_builtin PySem.F.slot_tuple_iterator_ne.plain PySem.F.cmpEntry_ne
    (check_slot PySem.F.cmpKind_ne PySem.F.cmpSplit_ne (J.type.andThen (looks_mroIn X hm)) (PySem.F.cmpArgs_ne _ _) (neBody (A := A.in1) (by show A.units + 1 < cLine; exact hu) X J hs hf (wpAny_mono h (fun v s' hv => ?_) fun _ _ e => e))))))
  obtain ⟨c, rfl, hq⟩ := hv
  exact ⟨c, rfl, wpAny_pure ⟨_, rfl, hq⟩⟩
end
/-! ### the rules -/
/-- a value of a built-in class, as the proof sees it -/
inductive Fo (H : Hp) : V → String → Prop
  | non : Fo H .non "NoneType"
  | bl (b : Bool) : Fo H (.bl b) "bool"
  | int (i : Int) : Fo H (.int i) "int"
  | str (y : Str) : Fo H (.str y) "str"
  | lst {a : Addr} {xs : List V} (h : H a = some (.lst xs)) : Fo H (.ref a) "list"
  | tup {a : Addr} {xs : List V} (h : Tu H a xs) : Fo H (.ref a) "tuple"
  | dic {a : Addr} {kvs : List (Key × V)} (h : H a = some (.dK kvs)) : Fo H (.ref a) "dict"
theorem Fo.same {H H' : Hp} {v : V} {T : String} (f : Fo H v T) (s : Same H H') : Fo H' v T := by
  cases f with
  | non => exact .non
  | bl b => exact .bl b
  | int i => exact .int i
  | str y => exact .str y
  | lst h => exact .lst (s _ _ h)
  | tup h => exact .tup (h.same s)
  | dic h => exact .dic (s _ _ h)
theorem Fo.tyx {K : Frag} {H : Hp} {v : V} {T : String} (f : Fo H v T) : TyX K H v (.type T) := by
  cases f with
  | non => exact .base .non
  | bl b => exact .base (.bl b)
  | int i => exact .base (.int i)
  | str y => exact .base (.str y)
  | lst h => exact .base (.lst h)
  | tup h => exact h.tyx
  | dic h => exact .base (.dK h)
section
variable {X : Cx} {C : Addr} {k j : Nat} {sp : Sp} {pins : List (Addr × Obj)} {σ : L2.St} {H : Hp} {s : Shared}
theorem Fo.fv {v : V} {u : Value} {T : String} (I : Inv X pins σ H s) (f : Fo H v T) (r : RelV v u) : Fv s u T := by
  cases f with
  | non => cases r; exact .non
  | bl b => cases r; exact .bl b
  | int i => obtain ⟨t, rfl⟩ := r; exact .int i t
  | str y => obtain ⟨t, rfl⟩ := r; exact .str y t
  | lst h =>
    cases r
    obtain ⟨_, _, _, _, e⟩ := I.hok _ _ h
    exact .lst ⟨_, e, rfl⟩
  | tup h =>
    cases r
    obtain ⟨o, e, rfl | ⟨ro, _, rfl⟩⟩ := h
    · obtain ⟨_, _, _, p⟩ := I.hok _ _ e
      exact .tup p.typeIs
    · obtain ⟨_, _, _, _, p⟩ := I.hok _ _ e
      exact .tup p.typeIs
  | dic h =>
    cases r
    obtain ⟨_, _, _, _, o, _, _, e, ⟨c, _⟩, _⟩ := I.hok _ _ h
    exact .dic ⟨_, e, c⟩
/-- what the text's part says of the class and the built-in ones -/
structure Apart (K : Frag) (C : Addr) (T : String) : Prop where
  up : subIn K (.ref C) (.type T) = some false
  dn : subIn K (.type T) (.ref C) = some false
/-- x == y, x != y, one of them of the class at C, the other one too or of a built-in class -/
def rCmp (C : Addr) (sp : Sp) (ng : Bool → Bool) : R2 := fun x y H Q =>
  (∃ (a dx : Addr) (fs : List (Str × V)), x = .ref a ∧ H a = some (.ins C dx fs) ∧ ((∃ (b dy : Addr) (gs : List (Str × V)), y = .ref b ∧ H b = some (.ins C dy gs)) ∨ ∃ T, Fo H y T) ∧ sp [x, y] H (fun v H' => ∃ c : Bool, v = .bl c ∧ Q (.bl (ng c)) H') E0) ∨
  (∃ (b dy : Addr) (gs : List (Str × V)) (T : String), y = .ref b ∧ H b = some (.ins C dy gs) ∧ Fo H x T ∧ sp [y, x] H (fun v H' => ∃ c : Bool, v = .bl c ∧ Q (.bl (ng c)) H') E0)
theorem ins_obj {a dx : Addr} {fs : List (Str × V)} (I : Inv X pins σ H s) (ea : H a = some (.ins C dx fs)) : s.heap.get? a = some (instObj C dx) := by
  obtain ⟨_, _, _, e, _⟩ := I.hok _ _ ea
  exact e
theorem cmpEq (S : SpM X C "__eq__" k sp) (ap : ∀ {H : Hp} {v : V} {T : String}, Fo H v T → Apart X.K C T) (hr : Room j X.A) (hk : k ≤ j) : OpR X (compareOp .Eq) (rCmp C sp id) := by
  intro pins s σ H x y v u Q I rx ry h
  obtain ⟨f, fd, ps, F, hs, hf, hb⟩ := S.ex
  obtain ⟨m, hF⟩ := I.fr
  have r2 : Room k X.A := hr.mono hk
  show wpAny (model X.prog X.w) X.A (richCompare .Eq v u) (EP X pins σ Q) X.xe s
  rcases h with ⟨a, dx, fs, rfl, ea, hy, h⟩ | ⟨b, dy, gs, T, rfl, eb, fo, h⟩
  · cases rx
    obtain ⟨od, J⟩ := inst_of I ea
    have rr : Vals [V.ref a, y] [Value.ref a, u] := .cons (show RelV (V.ref a) (Value.ref a) from rfl) (.cons ry .nil)
    have call : wpAny (model X.prog X.w) X.A (call (.ref f) [.ref a, u]) (PySem.W.CmpBack (EP X pins σ Q)) X.xe s := wpAny_mono (run_at F hb r2 rfl I rr h) (fun w s' hq => by
      obtain ⟨z, H', I', rz, c, rfl, q⟩ := hq
      cases rz
      exact ⟨.bl c, H', I', rfl, q⟩) fun _ _ e => e
    rcases hy with ⟨b, dy, gs, rfl, eb⟩ | ⟨T, fo⟩
    · cases ry
      obtain ⟨od', J'⟩ := inst_of I eb
      exact cmp_K (op := .Eq) (tb := .ref C) r2.units0 hF I.ok.mod.kin J J'.type (by simp [notFirst]) hs hf call
    · have fv := fo.fv I ry
      refine cmp_K (op := .Eq) (tb := .type T) r2.units0 hF I.ok.mod.kin J fv.looks (by unfold notFirst; rw [(ap fo).dn]; simp) hs hf call
  · cases ry
    obtain ⟨od, J⟩ := inst_of I eb
    have rr : Vals [V.ref b, x] [Value.ref b, v] := .cons (show RelV (V.ref b) (Value.ref b) from rfl) (.cons rx .nil)
    refine rev_cmp (.inl rfl) r2.units0 (fo.fv I rx) I.kIn (ins_obj I eb) J (ap fo).up (try_eq I.kIn J hs hf (wpAny_mono (run_at F hb r2 rfl I rr h) (fun w s' hq => ?_) fun _ _ e => e))
    obtain ⟨z, H', I', rz, c, rfl, q⟩ := hq
    cases rz
    exact ⟨.bl c, H', I', rfl, q⟩
theorem cmpNe (S : SpM X C "__eq__" k sp) (ap : ∀ {H : Hp} {v : V} {T : String}, Fo H v T → Apart X.K C T) (hne : findIn X.K (.ref C) "__ne__" = some (some (.builtin "object.__ne__"))) (hm : mroIn X.K C (.type "object") = some true) (hr : Room j X.A) (hk : k + 1 ≤ j) :
    OpR X (compareOp .NotEq) (rCmp C sp Bool.not) := by
  intro pins s σ H x y v u Q I rx ry h
  obtain ⟨f, fd, ps, F, hs, hf, hb⟩ := S.ex
  have r2 : Room k X.A.in1 := (hr.mono hk).in1
  show wpAny (model X.prog X.w) X.A (richCompare .NotEq v u) (EP X pins σ Q) X.xe s
  rcases h with ⟨a, dx, fs, rfl, ea, hy, h⟩ | ⟨b, dy, gs, T, rfl, eb, fo, h⟩
  · cases rx
    obtain ⟨od, J⟩ := inst_of I ea
    have rr : Vals [V.ref a, y] [Value.ref a, u] := .cons (show RelV (V.ref a) (Value.ref a) from rfl) (.cons ry .nil)
    have call : wpAny (model X.prog X.w) X.A.in1 (call (.ref f) [.ref a, u]) (fun v s' => ∃ c : Bool, v = .bool c ∧ EP X pins σ Q (.bool (!c)) s') X.xe s := wpAny_mono (run_at F hb r2 rfl I rr h) (fun w s' hq => by
      obtain ⟨z, H', I', rz, c, rfl, q⟩ := hq
      cases rz
      exact ⟨c, rfl, .bl (!c), H', I', rfl, q⟩) fun _ _ e => e
    rcases hy with ⟨b, dy, gs, rfl, eb⟩ | ⟨T, fo⟩
    · cases ry
      obtain ⟨od', J'⟩ := inst_of I eb
      exact neK (tb := .ref C) r2.units0 I.kIn J J'.type (by simp [notFirst]) hne hm hs hf call
    · exact neK (tb := .type T) r2.units0 I.kIn J (fo.fv I ry).looks (by unfold notFirst; rw [(ap fo).dn]; simp) hne hm hs hf call
  · cases ry
    obtain ⟨od, J⟩ := inst_of I eb
    have rr : Vals [V.ref b, x] [Value.ref b, v] := .cons (show RelV (V.ref b) (Value.ref b) from rfl) (.cons rx .nil)
    refine rev_cmp (.inr rfl) (Nat.lt_of_succ_lt r2.units0) (fo.fv I rx) I.kIn (ins_obj I eb) J (ap fo).up (try_ne r2.units0 I.kIn J hne hm hs hf (wpAny_mono (run_at F hb r2 rfl I rr h) (fun w s' hq => ?_) fun _ _ e => e))
    obtain ⟨z, H', I', rz, c, rfl, q⟩ := hq
    cases rz
    exact ⟨c, rfl, .bl (!c), H', I', rfl, q⟩
end
end U

namespace U
open PySem L2 PySem.Spec PyProof.Rows
/-! ### except (A, B, C) as n: the exception is one of the three -/
def wAs3 (K : PySem.W.Frag) (c1 c2 c3 : Value) (i : Nat) (ts : Addr → Value → Option Addr → TS) (D : Ends) : WX := fun cls d σ H => PySem.W.exmAny K cls [c1, c2, c3] = some true ∧ ∀ a, H a = none →
  ts a cls d { nx := fun τ G => D.nx (τ.set i none) G, rt := D.rt, bk := fun τ G => D.bk (τ.set i none) G, ct := fun τ G => D.ct (τ.set i none) G } (σ.set i (some (.ref a))) H
theorem flying_on {B : Heap} {l : List Env} {a : Addr} {Z : Obj → Prop} {h h' : Heap} (k : ∀ b o, h.get? b = some o → h'.get? b = some o) (f : HandSPX.FlyingZ B l a Z h) : HandSPX.FlyingZ B l a Z h' := by
  obtain ⟨g1, g2, g3, oe, vs, T, oT, ts, e1, z, d, v1, bT, nT, eT, dT, v3⟩ := f
  exact ⟨fun b o e => k b o (g1 b o e), g2, g3.of_keeps fun b o e _ => ⟨o, k b o e, rfl⟩, oe, vs, T, oT, ts, k _ _ e1, z, d, v1, bT, nT, k _ _ eT, dT, v3⟩
section
variable {X : Cx} {x1 x2 x3 n : Str} {c1 c2 c3 : Value} {i kk : Nat} {body suite : List Stmt} {b₀ : Stmt} {p1 p2 p3 pt pos pos' : Pos} {tb : WX → TS} {ts : Addr → Value → Option Addr → TS}
theorem ps_try_as3 (hs : X.stack = X.env :: X.outer) (hf : X.env.frame = some X.env.locals) (hN : X.N.Nodup) (hi : X.N[i]? = some n) (hln : X.env.kindOf n = some .local) (q1 : Names X x1 c1) (q2 : Names X x2 c2) (q3 : Names X x3 c3)
    (hb : ∀ (W : WX) (pn : List (Addr × Obj)) (xe : Value → Shared → Prop), Takes (X.tr pn xe) W → PassesOwn (model X.prog X.w) X.A X.env xe → PSs (X.tr pn xe) body (tb W))
    (hsu : ∀ (a : Addr) (oe : Obj) (cls : Value) (d : Option Addr) (pn : List (Addr × Obj)), Zc cls d oe → (∃ vs, oe.data = .fields vs) → PSs (X.suite a ((a, oe) :: pn)) (b₀ :: suite) (ts a cls d)) :
    PS X (.Try body [.ExceptHandler (some (.Tuple [.Name x1 p1, .Name x2 p2, .Name x3 p3] kk pt)) (some n) (b₀ :: suite) pos'] [] [] pos) (fun D σ H => tb (wAs3 X.K c1 c2 c3 i ts D) D σ H) := by
  constructor
  intro pins s σ H D I h
  have ok := I.ok
  have frm : X.A.frames = some (X.env :: X.outer) := by rw [ok.frames, hs]
  refine wpAny_Try_except ?_
  refine wpAny_mono ((hb (wAs3 X.K c1 c2 c3 i ts D) (X.pn ++ pins) (fun e s₁ => wpAny (model X.prog X.w) X.A (noteFrame e X.env) (fun _ s₂ => wpAny (model X.prog X.w) X.A (setFlight e none) (fun _ s₃ =>
    wpAny (model X.prog X.w) X.A (handleBy e X.env [.ExceptHandler (some (.Tuple [.Name x1 p1, .Name x2 p2, .Name x3 p3] kk pt)) (some n) (b₀ :: suite) pos']) (SP X pins D) X.xe s₃) X.xe s₂) X.xe s₁) (fun u s' xx => ?_) PassesOwn.looking).run [] s σ H D (I.toTry _) h) (fun f s1 hsp => ?_) (fun e s1 he => he)
  · obtain ⟨a, B, sI, pins', τ, G, cls, d, rfl, J0, nb, up, sky, na, os, ag, any, suit⟩ := xx
    have J : Inv X pins τ G sI := J0.ofTry ok
    rw [show (X.tr (X.pn ++ pins) _).stack = X.env :: X.outer from hs] at sky
    show wpAny _ _ (noteFrame (.ref a) X.env) _ _ _
    refine Sky.land Zc.steady frm hf sky fun h3 fl3 up3 => ?_
    have J3 : Inv X pins τ G { s' with heap := h3 } := J.landed nb fl3.1 (up.trans up3) os ag
    obtain ⟨oe, vs, _, _, _, he, hz, hd, _⟩ := id fl3.2.2.2
    have apart : ∀ {g : Heap} {o : Obj} {ws : Array Value}, g.FunFrames B (X.env :: X.outer) → g.get? a = some o → o.data = .fields ws → a ∉ frs (X.env :: X.outer) := fun {g o ws} ff e dd m => by
      obtain ⟨_, o', e', no⟩ := ff.mem m
      rw [e] at e'
      cases e'
      exact no _ dd
    have out := apart fl3.2.2.1 he hd
    have nL : a ≠ X.env.locals := fun z => out (List.mem_filterMap.mpr ⟨X.env, List.mem_cons_self, by rw [hf, z]⟩)
    have nF : a ∉ X.fs := fun m => by
      obtain ⟨e, he', q⟩ := List.mem_filterMap.mp m
      exact out (List.mem_filterMap.mpr ⟨e, List.mem_cons_of_mem _ he', q⟩)
    have S3 := J3.suite he hd na nL nF
    have one : ∀ {x : Str} {c : Value} {p : Pos} {Q : Value → Shared → Prop} {E : Value → Shared → Prop}, Names X x c → Q c { s' with heap := h3 } → wpAny (model X.prog X.w) (X.A.mark (some (.ref a))) (eval (.Name x p) X.env) Q E { s' with heap := h3 } := fun {x c p Q E} nm q => by
      obtain ⟨hg, hdbg, hm | ⟨hm, hv, hnn⟩⟩ := nm
      · exact ld_glob (X := X.suite a ((a, oe) :: (X.pn ++ pins))) S3 hg hm q hdbg
      · exact ld_blt (X := X.suite a ((a, oe) :: (X.pn ++ pins))) S3 hg hm hv q hnn hdbg
    refine wpAny_handleBy_cons (codeAny_handlers_test ?_) (by intro q; cases q)
    refine wpAny_Tuple_spliced (args_cons (one q1 (args_cons (one q2 (args_cons (one q3 (args_nil ⟨by show 3 ≤ sizeLine; decide, ?_⟩)) (by rfl))) (by rfl))) (by rfl))
    have kp : ∀ b o, h3.get? b = some o → (h3.push { cls := .type "tuple", data := .seq [c1, c2, c3].toArray }).get? b = some o := fun b o e => Heap.get?_push_of_some _ e
    have LT : PySem.W.Looks (model X.prog X.w) (h3.push { cls := .type "tuple", data := .seq [c1, c2, c3].toArray }) (typeOf (.ref a)) cls := fun A Q E s k q => wpAny_typeOf_ref (k _ _ (kp _ _ he)) (by rw [hz.1]; exact q)
    have KI : X.K.In (h3.push { cls := .type "tuple", data := .seq [c1, c2, c3].toArray }) := J3.kIn.keeps kp
    refine (PySem.W.exm_tup3 KI LT (Heap.get?_push_size h3 rfl) any).here ?_
    have fl5 := flying_on kp fl3
    refine codeAny_handlers_suite_as ?_
    refine HandSPX.lands_againZ fl5 fun h4 fl4 up4 => ?_
    have J4 : Inv X pins τ G { s' with heap := h4 } := J.landed nb fl4.1 (((up.trans up3).trans (.of_keeps kp)).trans up4) os ag
    obtain ⟨oe4, vs4, _, _, _, he4, hz4, hd4, _⟩ := id fl4.2.2.2
    have S4 := J4.suite he4 hd4 na nL nF
    refine store_ok (X := X.suite a ((a, oe4) :: (X.pn ++ pins))) (v := .ref a) S4 hN hi (.inl hln) rfl (fun s5 S5 => ?_) (.inr hln)
    refine wpAny_mono ((hsu a oe4 cls d (X.pn ++ pins) hz4 ⟨_, hd4⟩).run [] s5 _ G _ S5 (suit a na)) (fun f s6 hsp => ?_) (fun _ _ z => False.elim z)
    have done : ∀ {τ6 : L2.St} {G6 : Hp} {Q : Shared → Prop}, Inv (X.suite a ((a, oe4) :: (X.pn ++ pins))) [] τ6 G6 s6 → (∀ s7, Inv X pins (τ6.set i none) G6 s7 → Q s7) →
        wpAny (model X.prog X.w) X.A (do bindName X.env n .none; unbindBehindTheSuite X.env n pos') (fun _ s7 => Q s7) X.xe s6 := fun {τ6 G6 Q} S6 hq => gone_ok (S6.unsuite ok) hN hi hln hq
    cases f with
    | next => obtain ⟨τ6, G6, S6, q6⟩ := hsp; exact done S6 fun s7 J7 => ⟨_, _, J7, q6⟩
    | brk => obtain ⟨τ6, G6, S6, q6⟩ := hsp; exact done S6 fun s7 J7 => ⟨_, _, J7, q6⟩
    | cont => obtain ⟨τ6, G6, S6, q6⟩ := hsp; exact done S6 fun s7 J7 => ⟨_, _, J7, q6⟩
    | ret u => obtain ⟨v6, τ6, G6, S6, r6, q6⟩ := hsp; exact done S6 fun s7 J7 => ⟨_, _, _, J7, r6, q6⟩
  · cases f with
    | next => obtain ⟨τ, G, J, q⟩ := hsp; exact wpAny_execs_nil ⟨τ, G, J.ofTry ok, q⟩
    | brk => obtain ⟨τ, G, J, q⟩ := hsp; exact ⟨τ, G, J.ofTry ok, q⟩
    | cont => obtain ⟨τ, G, J, q⟩ := hsp; exact ⟨τ, G, J.ofTry ok, q⟩
    | ret u => obtain ⟨v, τ, G, J, r, q⟩ := hsp; exact ⟨v, τ, G, J.ofTry ok, r, q⟩
end
end U

namespace U
open PySem L2 PySem.Spec PyProof.Rows PySem.W PySem.HandSPX PySem.Calls
/-! ### an own exception made, by position or by keyword: any base -/
section
variable {prog : Program} {w : World} {A : Around} {E : Value → Shared → Prop} {R : Result → Shared → Prop} {h : Heap} {g : Array GenState} {d : PySem.Drawn} {t : Nat} {os : OsState}
variable {nm q : Str} {C N : Addr} {bs bm bmB : List Value} {hdct : Bool} {sn : List Str} {sub : List Value} {ab : Bool} {col : Option Bool} {dd : Option Addr} {k0 k1 k2 k3 k5 : Option Value} {B newId initId : String}
theorem checkNewK (F : ExcBaseFacts B newId initId bmB) (hT : ∀ X : String, bm.contains (.type X) = bmB.contains (.type X)) {us : List Value} {kw : List (Str × Value)} {Q : Unit → Shared → Prop}
    (hC : h.get? C = some (excClassObj nm q C N bs bm hdct sn sub ab col dd k0 k1 k2 k3 k5 newId)) (hq : Q () ⟨h, g, d, t, os⟩) : wpAny (model prog w) A (checkBuiltinCall newId ⟨.ref C :: us, kw⟩) Q E ⟨h, g, d, t, os⟩ := by
  have c1 : (Value.ref C :: bm).contains (.type B) = true := by rw [List.contains_cons, hT, F.hasB, Bool.or_true]
  have c2 := F.noStar
  simp only [checkBuiltinCall, F.newKind, F.newSplit, F.newRow]
  repeat (first | with_reducible refine wpAny_loadPart_at hC ?_ | (with_reducible refine wpAny_isSubtype_exc hC ?_; rw [c1]) | with_reducible refine wpAny_staticBase_exc hC ?_ | with_reducible refine wpAny_madeBy_exc hC ?_ | simp only [bne_self_eq_false, Bool.false_eq_true, if_false] | wp_step)
  exact hq
theorem newK (F : ExcBaseFacts B newId initId bmB) (hT : ∀ X : String, bm.contains (.type X) = bmB.contains (.type X)) {us : List Value} {kw : List (Str × Value)}
    (hC : h.get? C = some (excClassObj nm q C N bs bm hdct sn sub ab col dd k0 k1 k2 k3 k5 newId))
    (hq : R (.ok (.ret (.ref (h.objs.size + 1)))) ⟨(h.push (kdv_tup us)).push (excO C h.objs.size), g, d, t, os⟩) (hz : us.length ≤ sizeLine) :
    codeAny (model prog w) A (.builtin newId ⟨.ref C :: us, kw⟩) R ⟨h, g, d, t, os⟩ := by
  have e0 := F.ends
  have c1 : (Value.ref C :: bm).contains (.type B) = true := by rw [List.contains_cons, hT, F.hasB, Bool.or_true]
  have c2 : (Value.ref C :: bm).contains (.type "AttributeError") = false := by rw [List.contains_cons, hT, F.noAttr]; rfl
  have c3 : (Value.ref C :: bm).contains (.type "NameError") = false := by rw [List.contains_cons, hT, F.noName]; rfl
  refine codeAny_builtinAt F.entry ?_
  unfold Builtin.«BaseException.__new__»
  refine PySem.wpAt_bind ?_
  show PySem.wpAt _ _ _ (stack >>= _) _ _ _
  refine PySem.wpAt_bind (PySem.wpAt_stack fun p below => PySem.wpAt_of_wpAny ?_)
  wp_walk
  refine PySem.wpAt_of_wpAny ?_
  rw [F.owner]
  repeat (first | with_reducible refine wpAny_madeHere_exc F.canon hC ?_ | with_reducible refine wpAny_loadPart_at hC ?_ | (with_reducible refine wpAny_isSubtype_exc hC ?_; first | rw [c1] | rw [c2] | rw [c3]) | wp_step)
  show R _ _
  rw [Heap.size_push]
  exact hq
theorem tcallK (F : ExcBaseFacts B newId initId bmB) (hT : ∀ X : String, bm.contains (.type X) = bmB.contains (.type X)) {us : List Value} {kw : List (Str × Value)} {fI : Addr} {Q : Fin → Shared → Prop}
    (hC : h.get? C = some (excClassObj nm q C N bs bm hdct sn sub ab col dd k0 k1 k2 k3 k5 newId))
    (hi : Looks (model prog w) h (typeLookup (.ref C) "__init__") (some (.ref fI))) (hb : ∀ self, Looks (model prog w) h (bindSpecial (.ref fI) self) (.ref fI, [self])) (hz : us.length ≤ sizeLine)
    (hq : codeAny (model prog w) A (.call (.ref fI) ⟨.ref (h.objs.size + 1) :: us, kw⟩)
      (fun r s' => match r with | .ok (.ret v) => v = .none ∧ Q (.done (.ret (.ref (h.objs.size + 1)))) s' | .ok _ => False | .error e => E e s')
      ⟨(h.push (kdv_tup us)).push (excO C h.objs.size), g, d, t, os⟩) :
    wpAny (model prog w) A (Builtin.«type.__call__» ⟨.ref C :: us, kw⟩) Q E ⟨h, g, d, t, os⟩ := by
  repeat (first | with_reducible refine wpAny_loadPart_at hC ?_ | with_reducible refine wpAny_madeBy_exc hC ?_ | wp_step)
  refine codeAny_call_builtin_code (Code.quiet_builtin _ F.quiet) (checkNewK F hT hC ?_)
  refine newK F hT hC ?_ hz
  show wpAny _ _ _ _ _ _
  have kp : ∀ b o, h.get? b = some o → ((h.push (kdv_tup us)).push (excO C h.objs.size)).get? b = some o := fun b o e => Heap.get?_push_of_some _ (Heap.get?_push_of_some _ e)
  have at1 := kp _ _ hC
  have at2 : ((h.push (kdv_tup us)).push (excO C h.objs.size)).get? (h.objs.size + 1) = some (excO C h.objs.size) := by heap_get
  have own : (Value.ref C :: bm).contains (.ref C) = true := by simp
  have i1 := hi.keeps kp
  have b1 := (hb (.ref (h.objs.size + 1))).keeps kp
  unfold isInstance
  repeat (first | with_reducible refine wpAny_loadPart_at at2 ?_ | (with_reducible refine wpAny_isSubtype_exc at1 ?_; rw [own]) | wp_step)
  show wpAny _ _ (typeLookup (.ref C) _) _ _ _
  refine i1.at ?_
  refine wpAny_holding (wpAny_bind (b1.at ?_))
  refine wpAny_bind (wpAny_call (codeAny_mono hq fun r s' z => ?_))
  rcases r with e | (v | _ | _ | _) <;> first | exact z | exact z.elim | skip
  obtain ⟨rfl, z⟩ := z
  first
    | exact wpAny_pure (wpAny_pure z)
    | (wp_walk; exact z)
theorem checkTcK {us : List Value} {kw : List (Str × Value)} {Q : Unit → Shared → Prop} (hC : h.get? C = some (excClassObj nm q C N bs bm hdct sn sub ab col dd k0 k1 k2 k3 k5 newId)) (hq : Q () ⟨h, g, d, t, os⟩) :
    wpAny (model prog w) A (checkBuiltinCall "type.__call__" ⟨.ref C :: us, kw⟩) Q E ⟨h, g, d, t, os⟩ := by
  have f3 := tc_sub
  have ty : (⟨h, g, d, t, os⟩ : Shared).TypeIs (.ref C) "type" := ⟨_, hC, rfl⟩
  simp only [checkBuiltinCall, tc_kind, tc_split]
  repeat (any_goals (first | assumption | with_reducible refine wpAny_loadPart_at hC ?_ | with_reducible refine wpAny_onRaise ?_ | with_reducible refine wpAny_map ?_ | wp_step))
theorem callOwnK (F : ExcBaseFacts B newId initId bmB) (hT : ∀ X : String, bm.contains (.type X) = bmB.contains (.type X)) {us : List Value} {kw : List (Str × Value)} {fI : Addr}
    (hC : h.get? C = some (excClassObj nm q C N bs bm hdct sn sub ab col dd k0 k1 k2 k3 k5 newId))
    (hi : Looks (model prog w) h (typeLookup (.ref C) "__init__") (some (.ref fI))) (hb : ∀ self, Looks (model prog w) h (bindSpecial (.ref fI) self) (.ref fI, [self])) (hz : us.length ≤ sizeLine)
    (hq : codeAny (model prog w) (A.under (.builtin "type.__call__" ⟨.ref C :: us, kw⟩)) (.call (.ref fI) ⟨.ref (h.objs.size + 1) :: us, kw⟩) (InitBack (h.objs.size + 1) R)
      ⟨(h.push (kdv_tup us)).push (excO C h.objs.size), g, d, t, os⟩) :
    codeAny (model prog w) A (.call (.ref C) ⟨us, kw⟩) R ⟨h, g, d, t, os⟩ := by
  have f1 := tc_lookup
  have f2 := tc_bind (.ref C)
  have ty : (⟨h, g, d, t, os⟩ : Shared).TypeIs (.ref C) "type" := ⟨_, hC, rfl⟩
  refine codeAny_of_tree ?_
  show wpAny _ _ (callAny (.ref C) _) _ _ _
  repeat (any_goals (first | assumption | with_reducible refine wpAny_loadPart_at hC ?_ | wp_step))
  refine ⟨rfl, ?_⟩
  refine codeAny_call_builtin_at (Code.quiet_builtin _ (by decide +kernel)) entry_typeCall ?_
  refine checkTcK hC ?_
  refine tcallK F hT hC hi hb hz ?_
  refine codeAny_mono hq fun r s' z => ?_
  rcases r with e | (v | _ | _ | _) <;> exact z
end
end U

namespace U
open PySem L2 PySem.Spec PyProof.Rows
/-! ### own exceptions kept as values: what the written part says of the class -/
/-- the class at C over some built-in base, its exceptions with a dict; f is no attribute of the class -/
structure XB (K : PySem.W.Frag) (C : Addr) : Prop where
  ex : ∃ (B newId initId : String) (bmB : List Value) (nm q : Str) (N : Addr) (bs bm : List Value) (sn : List Str) (sub : List Value) (ab : Bool) (col : Option Bool) (dd : Option Addr) (k0 k1 k2 k3 k5 : Option Value),
    ExcBaseFacts B newId initId bmB ∧ StoreFacts B bmB "object.__setattr__" "object" ∧ K.lookup C = some (excClassObj nm q C N bs bm true sn sub ab col dd k0 k1 k2 k3 k5 newId) ∧ PySem.W.excTail bmB bm = true
  sa : PySem.W.findIn K (.ref C) "__setattr__" = some (some (.builtin "object.__setattr__"))
  ga : PySem.W.findIn K (.ref C) "__getattribute__" = some (some (.builtin "BaseException.__getattribute__"))
  gg : PySem.W.findIn K (.ref C) "__getattr__" = some none
  ca : PySem.W.findIn K (.ref C) "__class__" = some (some (.builtin "object.__class__"))
  kC : PySem.W.keepIn K (.ref C) = true
section
variable {K : PySem.W.Frag} {C : Addr}
theorem XB.cls (T : XB K C) : ∃ (bm bmB : List Value) (cd : ClassData), PySem.W.clsIn K C = some cd ∧ cd.hasDict = true ∧ cd.mro = .ref C :: bm ∧ PySem.W.excTail bmB bm = true ∧ bmB.contains (.type "BaseException") = true ∧ bmB.contains (.type "object") = true := by
  obtain ⟨B, newId, initId, bmB, nm, q, N, bs, bm, sn, sub, ab, col, dd, k0, k1, k2, k3, k5, F, S, lk, tl⟩ := T.ex
  refine ⟨bm, bmB, { name := nm, bases := bs, mro := .ref C :: bm, ns := N, qualname := q, hasDict := true, slotNames := sn, subclasses := sub, abstract := ab, collection := col, hasDel := false }, ?_, rfl, rfl, tl, F.hasBase, S.hasOwner⟩
  unfold PySem.W.clsIn
  rw [lk] <;> rfl
theorem XB.over (T : XB K C) {bmB : List Value} {nm q : Str} {N : Addr} {bs bm : List Value} {sn : List Str} {sub : List Value} {ab : Bool} {col : Option Bool} {dd : Option Addr} {k0 k1 k2 k3 k5 : Option Value} {newId : String}
    (lk : K.lookup C = some (excClassObj nm q C N bs bm true sn sub ab col dd k0 k1 k2 k3 k5 newId)) (tl : PySem.W.excTail bmB bm = true) : PySem.W.excOver K C bmB = true := by
  unfold PySem.W.excOver PySem.W.clsIn
  rw [lk]
  show (C == C && PySem.W.excTail bmB bm) = true
  rw [tl, Bool.and_true]
  exact beq_self_eq_true C
theorem XB.mro (T : XB K C) {b : Value} : PySem.W.mroIn K C b = some true ∨ PySem.W.mroIn K C b = some false := by
  obtain ⟨bm, bmB, cd, h1, h2, h3, _⟩ := T.cls
  unfold PySem.W.mroIn
  rw [h1, Option.bind_some, if_neg (by rw [h3]; simp)]
  cases cd.mro.contains b
  · exact .inr rfl
  · exact .inl rfl
theorem XB.isBase (T : XB K C) : PySem.W.subIn K (.ref C) (.type "BaseException") = some true := by
  obtain ⟨bm, bmB, cd, h1, h2, h3, h4, h5, h6⟩ := T.cls
  show PySem.W.mroIn K C (.type "BaseException") = some true
  unfold PySem.W.mroIn
  rw [h1, Option.bind_some, if_neg (by rw [h3]; simp), h3, List.contains_cons, PySem.W.excTail_contains "BaseException" _ h4, h5, Bool.or_true]
theorem XB.isObj (T : XB K C) : PySem.W.mroIn K C (.type "object") = some true := by
  obtain ⟨bm, bmB, cd, h1, h2, h3, h4, h5, h6⟩ := T.cls
  unfold PySem.W.mroIn
  rw [h1, Option.bind_some, if_neg (by rw [h3]; simp), h3, List.contains_cons, PySem.W.excTail_contains "object" _ h4, h6, Bool.or_true]
theorem XB.hasD (T : XB K C) : PySem.W.hasDictIn K C = true := by
  obtain ⟨bm, bmB, cd, h1, h2, h3, _⟩ := T.cls
  unfold PySem.W.hasDictIn
  rw [h1]
  exact h2
theorem XB.ty (T : XB K C) : PySem.W.typeIn K (.ref C) = some (.type "type") := by
  obtain ⟨B, newId, initId, bmB, nm, q, N, bs, bm, sn, sub, ab, col, dd, k0, k1, k2, k3, k5, F, S, lk, tl⟩ := T.ex
  show (K.lookup C).map (·.cls) = _
  rw [lk]
  rfl
end
/-! ### the first attribute of a new exception -/
section
open PySem.W PySem.HandSPX PySem.Calls Builtin Builtin.ObjectAttr
variable {prog : Program} {w : World} {A : Around} {R : Result → Shared → Prop} {hp : Heap} {g : Array GenState} {d : PySem.Drawn} {t : Nat} {os : OsState} {K : Frag} {x C : Addr} {B : String} {bmB : List Value} {name : Str} {tk : Tok} {v : Value} {fv : Array Value}
theorem osaNew {cd : ClassData} (SF : StoreFacts B bmB "object.__setattr__" "object") (X : K.In hp) (hx : hp.get? x = some { cls := .ref C, data := .fields fv }) (over : excOver K C bmB = true) (no : findIn K (.ref C) name = some none) (hc : clsIn K C = some cd) (hd : cd.hasDict = true)
    (hq : ∀ h' tk' dx, (∀ b o, b ≠ x → hp.get? b = some o → h'.get? b = some o) → hp.objs.size ≤ dx → dx ≠ x → h'.get? x = some { cls := .ref C, dict := some dx, data := .fields fv } → h'.Ns1 dx (fun y => if y = name then some v else none) → R (.ok (.ret .none)) ⟨h', g, d, tk', os⟩) :
    codeAny (model prog w) A (.call (.builtin "object.__setattr__") ⟨[.ref x, .str name tk, v], []⟩) R ⟨hp, g, d, t, os⟩ := by
  have J : InstAt hp x { cls := .ref C, data := .fields fv } C none := ⟨hx, rfl, rfl, trivial⟩
  have tkr : takerIn K C name = some none := by
    unfold takerIn
    rw [no]
    rfl
  have apart : x ≠ hp.objs.size := Nat.ne_of_lt (Heap.lt_size hx)
  have look : Looks (model prog w) hp (classData C) cd := looks_clsIn X hc
  refine osa_openX (s := ⟨hp, g, d, t, os⟩) SF X J over tkr fun b => ?_
  show wpAny _ _ (storeInOwnDict (.ref x) (.ref C) (.str name tk) name v b) _ _ _
  obtain ⟨nm, bs, mro, ns, qn, hd', sn, sb, ab, col, del⟩ := cd
  dsimp only at hd
  subst hd
  unfold storeInOwnDict ownDictForStores
  cases b
  all_goals
    repeat (first | with_reducible refine store_in_new ?_ ?_ | with_reducible refine wpAny_loadPart_at hx ?_ | with_reducible refine look.at ?_ | wp_step)
    · exact ⟨_, #[], _, (Heap.get?_update_ne _ _ _ _ apart.symm).trans (Heap.get?_push_at rfl rfl), rfl, fun e he => absurd he (by simp), fun _ => rfl⟩
    · intro h' tk' hn' hs
      have keep : (hp.push { cls := .type "dict", data := .dict #[] }).get? x = some { cls := .ref C, data := .fields fv } := Heap.get?_push_of_some _ hx
      refine hq h' tk' hp.objs.size (fun b o hb ho => ?_) (Nat.le_refl _) apart.symm ?_ hn'
      · exact (hs.2 b (Nat.ne_of_lt (Heap.lt_size ho))).trans ((Heap.get?_update_ne _ _ _ _ hb).trans (Heap.get?_push_of_some _ ho))
      · exact (hs.2 x apart).trans (Heap.get?_update_self _ keep rfl)
end
section
variable {X : Cx} {pins : List (Addr × Obj)} {σ : L2.St} {H : Hp} {s : Shared} {a C : Addr} {f : Str} {y : V} {u : Value} {Q : Unit → Shared → Prop} {E : Value → Shared → Prop} {A : Around}
theorem storeNew (T : XB X.K C) (no : PySem.W.findIn X.K (.ref C) f = some none) (I : Inv X pins σ H s) (e : H a = some (exo a C none)) (ry : RelV y u)
    (h : ∀ dx s', H dx = none → dx ≠ a → Inv X pins σ (upd (upd H dx (exd dx [(f, y)])) a (exo a C (some dx))) s' → Q () s') : wpAny (model X.prog X.w) A (setAttr (.ref a) f u) Q E s := by
  obtain ⟨B, newId, initId, bmB, nm, q, N, bs, bm, sn, sub, ab, col, dd, k0, k1, k2, k3, k5, F, SF, lk, tl⟩ := T.ex
  have hc : PySem.W.clsIn X.K C = some { name := nm, bases := bs, mro := .ref C :: bm, ns := N, qualname := q, hasDict := true, slotNames := sn, subclasses := sub, abstract := ab, collection := col, hasDel := false } := by unfold PySem.W.clsIn; rw [lk] <;> rfl
  obtain ⟨t1, ho⟩ := exo_at I.hok e
  obtain ⟨hp, g, d, t, os⟩ := s
  refine PySem.W.set_plain I.kIn (ox := { cls := .ref C, dict := none, data := .fields #[.ref t1, .none, .none, .none, .bool false, .none] }) (od := none) ⟨ho, rfl, rfl, trivial⟩ T.sa ?_
  refine osaNew SF I.kIn ho (T.over lk tl) no hc rfl (fun h' tk' dx k dn dne hx hn => ?_)
  have nx : H dx = none := I.hok.fresh dn
  have low : ∀ {b : Addr} {o : Obj}, hp.get? b = some o → b ≠ dx := fun {b o} z => Nat.ne_of_lt (Nat.lt_of_lt_of_le (Heap.lt_size z) dn)
  have off : ∀ {b : Addr}, H b = none → b ≠ a := fun {b} n z => by
    rw [z, e] at n
    cases n
  have un : Un X.fs [] H (upd (upd H dx (exd dx [(f, y)])) a (exo a C (some dx))) hp h' :=
    { keep := fun b o z n _ _ => k b o (off n) z, slot := fun b o z n _ _ => ⟨o.slots, k b o (off n) z⟩
      free := fun b o z n _ => (upd_ne (off n)).trans ((upd_ne (low z)).trans n)
      there := fun b o z _ => by
        by_cases hb : b = a
        · exact ⟨_, by rw [hb]; exact hx⟩
        · exact ⟨o, k b o hb z⟩
      tups := fun b xs z => (upd_ne (at_ne e z exo_tup)).trans ((upd_ne (ne_of_none z nx)).trans z)
      frzs := fun b o v z => (upd_ne (at_ne e z exo_frz)).trans ((upd_ne (ne_of_none z nx)).trans z)
      tbls := fun b ps z => ⟨#[], by rw [upd_ne (at_ne e z exo_tbl), upd_ne (ne_of_none z nx), z]; simp⟩ }
  refine h dx _ nx dne (I.un (t' := tk') un fun b o z => ?_)
  by_cases hb : b = a
  · subst hb
    rw [upd_same] at z
    cases z
    exact exo_ok hx
  · rw [upd_ne hb] at z
    by_cases hd : b = dx
    · subst hd
      rw [upd_same] at z
      cases z
      exact exd_ok hn (relO_put (fs := []) ry fun g => True.intro)
    · rw [upd_ne hd] at z
      refine (I.hok b o z).stay (fun c v hc' z' => k c v ?_ z') (fun c hc' => (upd_ne (at_ne e hc' exo_own)).trans ((upd_ne (ne_of_none hc' nx)).trans hc')) fun c xs hc' => (upd_ne (at_ne e hc' exo_tup)).trans ((upd_ne (ne_of_none hc' nx)).trans hc')
      rcases hc' with q1 | q1
      · rw [q1]; exact hb
      · exact at_ne e q1 exo_own
end
/-- self.f = e, in an __init__ -/
def tStN (K : PySem.W.Frag) (f : Str) (to te : TE) : TS := fun D σ H => te σ H fun y H1 => to σ H1 fun x H2 => ∃ a C : Addr, x = .ref a ∧ XB K C ∧ PySem.W.findIn K (.ref C) f = some none ∧ H2 a = some (exo a C none) ∧
  ∀ dx, H2 dx = none → dx ≠ a → D.nx σ (upd (upd H2 dx (exd dx [(f, y)])) a (exo a C (some dx)))
theorem ps_stN {X : Cx} {o e : Expr} {to te : TE} {f : Str} {p' pos : Pos} (K : PySem.W.Frag) (ho : PE X o to) (he : PE X e te) (h : X.K = K := by rfl) (hs : swapsWith e (some (.Attribute o f p')) pos.line X.env = pure false := by rfl) : PS X (.Assign [.Attribute o f p'] e pos) (tStN K f to te) := by
  subst h
  constructor
  intro pins s σ H D I h
  refine plainObj_wpAny_Assign_Attribute (thn (he.run pins s σ H _ I h) fun v s1 hh => ?_) hs
  obtain ⟨y, H1, I1, r1, q1⟩ := hh
  refine thn (ho.run pins s1 σ H1 _ I1 q1) fun u s2 hh2 => ?_
  obtain ⟨x, H2, I2, r2, a, C, ex, T, no, ea, q⟩ := hh2
  subst ex
  cases r2
  exact storeNew T no I2 ea r1 fun dx s' n ne J => ⟨σ, _, J, q dx n ne⟩
/-- what such an __init__ promises -/
def spXI (K : PySem.W.Frag) (f : Str) : Sp := fun vs H Q _ => ∃ (a C : Addr) (y : V), vs = [.ref a, y] ∧ XB K C ∧ PySem.W.findIn K (.ref C) f = some none ∧ H a = some (exo a C none) ∧
  ∀ dx, H dx = none → dx ≠ a → Q .non (upd (upd H dx (exd dx [(f, y)])) a (exo a C (some dx)))
end U

namespace U
open PySem L2 PySem.Spec PyProof.Rows
/-! ### C(e), C(f=e) as a value -/
/-- the class at C, under the name x, with an own __init__ of one parameter f that it keeps -/
structure XN (P : Program) (w : World) (K : PySem.W.Frag) (mg : Str → Option Value) (base : Heap) (x : Str) (C : Addr) (f : Str) : Prop where
  b : XB K C
  no : PySem.W.findIn K (.ref C) f = some none
  g : mg x = some (.ref C)
  ex : ∃ (fI : Addr) (fd : FuncData), PySem.W.findIn K (.ref C) "__init__" = some (some (.ref fI)) ∧ PySem.W.typeIn K (.ref fI) = some (.type "function") ∧ FnOk P w K mg base CX0 1 fI fd ["self", f] (spXI K f) ∧ Binds K fd ["self", f] [] ∧
    ∀ (s : Shared) (u v : Value), K.In s.heap → BindsTo s fd ⟨[u], [(f, v)]⟩ [("self", u), (f, v)]
/-- a new exception of the class at C whose f is y -/
def NewX (C : Addr) (f : Str) (y : V) (H : Hp) (Q : VK) : Prop := ∀ a d, H a = none → H d = none → d ≠ a → Q (.ref a) (upd (upd H d (exd d [(f, y)])) a (exo a C (some d)))
section
variable {X : Cx} {pins : List (Addr × Obj)} {σ : L2.St} {H : Hp} {s : Shared} {C : Addr} {f x : Str} {y : V} {u : Value} {Q : VK} {k : Nat}
theorem run_new (T : XN X.prog X.w X.K X.mg X.base x C f) (hr : Room 2 X.A) (I : Inv X pins σ H s) (ry : RelV y u) (kw : Bool) (h : NewX C f y H Q) :
    wpAny (model X.prog X.w) X.A (call (.ref C) (if kw then [] else [u]) (if kw then [(f, u)] else [])) (EP X pins σ Q) X.xe s := by
  obtain ⟨fI, fd, hi, ht, F1, hb, hkb⟩ := T.ex
  obtain ⟨B, newId, initId, bmB, nm, q, N, bs, bm, sn, sub, ab, col, dd, k0, k1, k2, k3, k5, F, SF, lk, tl⟩ := T.b.ex
  obtain ⟨hp, g, dr, tk, os⟩ := s
  generalize hus : (if kw then [] else [u]) = us
  generalize hkw : (if kw then [(f, u)] else []) = kws
  have lus : us.length ≤ sizeLine := by
    subst hus
    cases kw
    · show 1 ≤ sizeLine
      decide
    · show 0 ≤ sizeLine
      decide
  have grow : ∀ b o, hp.get? b = some o → ((hp.push (PySem.W.kdv_tup us)).push (PySem.HandSPX.excO C hp.objs.size)).get? b = some o := fun b o e => Heap.get?_push_of_some _ (Heap.get?_push_of_some _ e)
  have new : ((hp.push (PySem.W.kdv_tup us)).push (PySem.HandSPX.excO C hp.objs.size)).get? (hp.objs.size + 1) = some (PySem.HandSPX.excO C hp.objs.size) := by heap_get
  have fr : H (hp.objs.size + 1) = none := I.hok.fresh (Nat.le_succ _)
  have I2 : Inv X pins σ (upd H (hp.objs.size + 1) (exo (hp.objs.size + 1) C none)) ⟨(hp.push (PySem.W.kdv_tup us)).push (PySem.HandSPX.excO C hp.objs.size), g, dr, tk, os⟩ :=
    I.laid (t' := tk) (a := hp.objs.size + 1) (o := exo (hp.objs.size + 1) C none) (h' := (hp.push (PySem.W.kdv_tup us)).push (PySem.HandSPX.excO C hp.objs.size)) grow (Nat.le_succ _) (exo_ok new)
  have prom : spXI X.K f [.ref (hp.objs.size + 1), y] (upd H (hp.objs.size + 1) (exo (hp.objs.size + 1) C none)) (fun v H2 => v = .non ∧ Q (.ref (hp.objs.size + 1)) H2) E0 := by
    refine ⟨_, C, y, rfl, T.b, T.no, upd_same, fun dx n ne => ⟨rfl, ?_⟩⟩
    have nd : H dx = none := by
      rw [upd_ne ne] at n
      exact n
    have q := h (hp.objs.size + 1) dx fr nd ne
    have e : upd (upd (upd H (hp.objs.size + 1) (exo (hp.objs.size + 1) C none)) dx (exd dx [(f, y)])) (hp.objs.size + 1) (exo (hp.objs.size + 1) C (some dx)) = upd (upd H dx (exd dx [(f, y)])) (hp.objs.size + 1) (exo (hp.objs.size + 1) C (some dx)) := by
      funext b
      by_cases hb : b = hp.objs.size + 1
      · subst hb
        rw [upd_same, upd_same]
      · rw [upd_ne hb, upd_ne hb]
        by_cases hd : b = dx
        · subst hd
          rw [upd_same, upd_same]
        · rw [upd_ne hd, upd_ne hd, upd_ne hb]
    rw [e]
    exact q
  have r2 : Vals [V.ref (hp.objs.size + 1), y] [Value.ref (hp.objs.size + 1), u] := .cons (show RelV (V.ref _) (Value.ref _) from rfl) (.cons ry .nil)
  have bd : BindsTo ⟨(hp.push (PySem.W.kdv_tup us)).push (PySem.HandSPX.excO C hp.objs.size), g, dr, tk, os⟩ fd ⟨.ref (hp.objs.size + 1) :: us, kws⟩ ((["self", f] : List Str).zip [Value.ref (hp.objs.size + 1), u]) := by
    subst hus hkw
    cases kw
    · exact hb _ [Value.ref (hp.objs.size + 1), u] I2.kIn rfl
    · exact hkb _ _ _ I2.kIn
  refine wpAny_call (callOwnK F (fun Y => PySem.W.excTail_contains Y bm tl) (I.kIn _ _ lk) (PySem.W.looks_findIn I.kIn hi) (fun self => PySem.W.bind_fn I.kIn self ht) lus
    (codeAny_mono (F1.run _ X.stack _ _ ⟨.ref (hp.objs.size + 1) :: us, kws⟩ [Value.ref (hp.objs.size + 1), u] _ _ E0 (hr.make C us kws) (I2.env0.make C us kws) bd r2 prom) fun r s' hq => ?_))
  cases r with
  | error e => exact (show False from hq).elim
  | ok fl =>
    cases fl with
    | ret v =>
      obtain ⟨v', H', I', rv, ev, q⟩ := I2.after hq
      subst ev
      cases rv
      exact ⟨rfl, .ref (hp.objs.size + 1), H', I', rfl, q⟩
    | next => exact (show False from hq).elim
    | brk => exact (show False from hq).elim
    | cont => exact (show False from hq).elim
variable {e : Expr} {ta : TE} {p pos : Pos}
def tNew (C : Addr) (f : Str) (te : TE) : TE := fun σ H Q => te σ H fun y H1 => NewX C f y H1 Q
theorem pe_new {j : Nat} (T : XN X.prog X.w X.K X.mg X.base x C f) (hr : Room j X.A) (hk : 2 ≤ j) (he : PE X e ta) (hg : Gl X x := by rfl) (hs : starEach [e] X.env = (false, eval e X.env) :: starEach [] X.env := by rfl) (hdb : (x == ("__debug__" : Str)) = false := by decide) :
    PE X (.Call (.Name x p) [e] [] pos) (tNew C f ta) := by
  constructor
  intro pins s σ H Q I h
  refine wpAny_Call_Name_kw (ld_glob I hg T.g ?_ hdb)
  refine PySem.W.callWith_K (h₀ := X.base) I.ok.mod.kin T.b.kC ?_ hs (by rfl)
  rw [hs]
  show wpAny _ _ (spliced ((false, eval e X.env) :: backTo pos (starEach [] X.env))) _ _ s
  refine Calls.spliced_cons (thn (he.run pins s σ H _ I h) fun u s1 hh => ?_)
  obtain ⟨y, H1, I1, r1, q1⟩ := hh
  exact Calls.spliced_nil ⟨I1.kIn, run_new T (hr.mono hk) I1 r1 false q1⟩
theorem pe_newK {j : Nat} (T : XN X.prog X.w X.K X.mg X.base x C f) (hr : Room j X.A) (hk : 2 ≤ j) {kws : List Keyword} {tk : TA} (hkw : PK X kws tk) (hg : Gl X x := by rfl)
    (hall : (backToKw pos (keywordEach kws X.env)).all (·.1.isSome) = true := by rfl) (hks : (backToKw pos (keywordEach kws X.env)).filterMap (·.1) = [f] := by rfl) (hdb : (x == ("__debug__" : Str)) = false := by decide)
    (hpl : ((backTo pos (starEach [] X.env)).any (·.1) || (backToKw pos (keywordEach kws X.env)).any (·.1.isNone)) = false := by rfl) :
    PE X (.Call (.Name x p) [] kws pos) (fun σ H Q => tk σ H fun zs H1 => ∃ y, zs = [y] ∧ NewX C f y H1 Q) := by
  constructor
  intro pins s σ H Q I h
  refine wpAny_Call_Name_kw (ld_glob I hg T.g ?_ hdb)
  refine PySem.W.callWith_KW0 (h₀ := X.base) I.ok.mod.kin T.b.kC hall ?_ hpl
  refine thn (hkw.run pos pins s σ H _ I h) fun ws s2 hh => ?_
  obtain ⟨zs, H2, I2, rz, y, rfl, q2⟩ := hh
  refine ⟨I2.kIn, ?_⟩
  rw [hks]
  cases rz with
  | cons r1 rr =>
    cases rr
    exact run_new T (hr.mono hk) I2 r1 true q2
/-- C(), a class without an own __init__ -/
structure XO (K : PySem.W.Frag) (mg : Str → Option Value) (x : Str) (C : Addr) : Prop where
  b : XB K C
  g : mg x = some (.ref C)
  ex : ∃ (B newId initId : String) (bmB : List Value), ExcBaseFacts B newId initId bmB ∧ PySem.W.excIn K C bmB newId = true
def New0 (C : Addr) (H : Hp) (Q : VK) : Prop := ∀ a, H a = none → Q (.ref a) (upd H a (exo a C none))
def tNew0 (C : Addr) : TE := fun _ H Q => True ∧ New0 C H Q
theorem pe_new0 (T : XO X.K X.mg x C) (hg : Gl X x := by rfl) (hdb : (x == ("__debug__" : Str)) = false := by decide) : PE X (.Call (.Name x p) [] [] pos) (tNew0 C) := by
  constructor
  intro pins s σ H Q I h
  obtain ⟨_, h⟩ := h
  obtain ⟨B, newId, initId, bmB, F, q⟩ := T.ex
  refine wpAny_Call_Name_kw (ld_glob I hg T.g ?_ hdb)
  refine PySem.W.callWith_K0 I.kIn T.b.kC ?_
  show wpAny _ _ (call (.ref C) []) _ _ _
  obtain ⟨bm, N, nm, qn, bs, hdct, sn, sub, ab, col, dd, k0, k1, k2, k3, k5, mN, hC, hN, hni, tl⟩ := exc_obj I.kIn q
  refine wpAny_call_exc_subT F tl hC hN hni (fun h' a hm => ?_) (by show 0 ≤ sizeLine; decide)
  obtain ⟨t, ht, _, _⟩ := hm.there
  have hn : H a = none := I.hok.gone hm.new
  exact ⟨.ref a, _, I.laidN hm.keeps hm.new hn (exo_ok ht), rfl, h a hn⟩
/-! ### what is asked of them -/
/-- what isinstance asks of the class -/
structure XQ (K : PySem.W.Frag) : Prop where
  hn : PySem.W.specialIn K (.builtin "object.__class__") "__get__" = some (some (.builtin "getset_descriptor.__get__"))
  ht : PySem.W.takesIn K (.builtin "object.__class__") = some true
end
section
open PySem.W PySem.Calls
variable {prog : Program} {w : World} {A : Around} {E : Value → Shared → Prop} {s : Shared} {K : Frag} {x D : Addr} {ox : Obj} {od : Option Obj}
theorem clsFound (T : XB K D) (Z : XQ K) : findObj K D od "__class__" = some (.bind (.builtin "getset_descriptor.__get__") (.builtin "object.__class__")) := by
  have hc : (clsIn K D).isSome = true := by
    obtain ⟨bm, bmB, cd, h1, _⟩ := T.cls
    rw [h1]
    rfl
  cases od with
  | none => exact findObj_dataN hc T.ca Z.hn Z.ht
  | some o => exact findObj_data hc T.ca Z.hn Z.ht
theorem clsRead {Q : Option Value → Shared → Prop} (T : XB K D) (Z : XQ K) (X : K.In s.heap) (J : InstAt s.heap x ox D od) (h : Q (some (.ref D)) { s with toks := s.toks + 1 }) : wpAny (model prog w) A (getAttr? (.ref x) "__class__") Q E s := by
  have found := clsFound (od := od) T Z
  obtain ⟨hp, g, d, t, os⟩ := s
  have A0 := J.type (M := model prog w)
  have A1 := looks_findIn (M := model prog w) X T.ga
  have A2 := looks_findIn (M := model prog w) X T.gg
  have A3 := looks_find (M := model prog w) X J found
  have isB : Looks (model prog w) hp (isInstance (.ref x) (.type "BaseException")) true := A0.andThen (looks_subIn X T.isBase)
  have n1 : (Value.builtin "BaseException.__getattribute__" == Value.builtin "object.__getattribute__") = false := by decide +kernel
  have n2 : (onTheHeap (Value.ref D) && Value.builtin "BaseException.__getattribute__" == Value.builtin "object.__getattribute__") = false := by rw [n1]; rfl
  have n3 : (false && onTheHeap (Value.builtin "BaseException.__getattribute__")) = false := rfl
  unfold getAttr? getAttrBy? getAttrBy
  refine wpAny_bind (wpAny_mkText (wpAny_bind (wpAny_attempt (wpAny_holding (wpAny_bind (A0.at (wpAny_bind (A1.at ?_))))))))
  show wpAny _ _ (if (onTheHeap (Value.ref D) && Value.builtin "BaseException.__getattribute__" == Value.builtin "object.__getattribute__") = true then _ else _) _ _ _
  rw [n2, if_neg Bool.false_ne_true]
  unfold getAttrByItsOwn hookBefore
  refine wpAny_bind ?_
  rw [if_pos (show onTheHeap (Value.ref D) = true from rfl)]
  refine A2.at ?_
  refine wpAny_bind (wpAny_attempt (wpAny_holding ?_))
  unfold callGetattribute
  rw [n3, if_neg Bool.false_ne_true]
  unfold boundAndCalled
  rw [PySem.F.excAttr_ValueError.ga.bind (.ref x)]
  refine wpAny_bind (wpAny_pure ?_)
  show wpAny _ _ (call (.builtin "BaseException.__getattribute__") [.ref x, .str "__class__" t]) _ _ _
  refine wpAny_call (codeAny_call_builtin PySem.F.excAttr_ValueError.ga.plain PySem.F.entry_bexc_ga ?_)
  refine @check_slot (model prog w) _ _ ⟨hp, g, d, t + 1, os⟩ "BaseException.__getattribute__" "BaseException" "__getattribute__" (.ref x) [.str "__class__" t] [] _ (by decide +kernel) (by decide +kernel) isB (PySem.F.args_bexc_ga (.ref x) (.str "__class__" t)) ?_
  unfold Builtin.«object.__getattribute__»
  refine wpAny_bind (wpAny_of_eq (a := ((Value.ref x : Value), [Value.str "__class__" t])) (by first | rfl | (simp only [slotArgs]; rfl)) ?_)
  refine wpAny_bind (wpAny_pure (wpAny_bind (A0.at (wpAny_bind (A3.at ?_)))))
  show wpAny _ _ (holding [Value.builtin "object.__class__"] (call (.builtin "getset_descriptor.__get__") [.builtin "object.__class__", .ref x, .ref D]) >>= ret) _ _ _
  refine wpAny_bind (wpAny_holding (wpAny_call (class_get (s := ⟨hp, g, d, t + 1, os⟩) (ox := ox) (od := od) X J T.isObj ?_)))
  refine wpAny_pure ?_
  show wpAny _ _ (handedOut (.ref D)) _ _ _
  rw [handedOut_of (v := .ref D) rfl]
  first
    | exact wpAny_pure (wpAny_pure h)
    | exact wpAny_pure h
    | exact wpAny_pure (wpAny_bind (wpAny_pure (wpAny_pure h)))
theorem kitEx (T : XB K D) (Z : XQ K) : KitX K (.ref x) (.ref D) (fun h => InstAt h x ox D od) where
  ty := fun _ _ _ J => J.type
  it := fun _ _ X _ => by
    obtain ⟨bm, bmB, cd, hc, _⟩ := T.cls
    unfold clsIn at hc
    split at hc
    · rename_i c' d' cd' sl' ho
      intro A' Q' E' s' k q
      unfold isType loadHead
      exact wpAny_bind (wpAny_loadPart (k _ _ (X _ _ ho)) (wpAny_pure q))
    · cases hc
  ne := fun h tp dd its n sl X htp => by
    obtain ⟨bm, bmB, cd, hc, _⟩ := T.cls
    refine Bool.eq_false_iff.mpr fun q => ?_
    have e : D = tp := Value.ref.inj (beq_iff_eq.mp q)
    subst e
    unfold clsIn at hc
    split at hc
    · rename_i c' d' cd' sl' ho
      have z := (X _ _ ho).symm.trans htp
      cases z
    · cases hc
  ca := fun X J k => clsRead T Z X J k
end
/-- at a: an exception of the class at D, with these attributes -/
def XAt (H : Hp) (a D : Addr) (fs : List (Str × V)) : Prop := (fs = [] ∧ H a = some (exo a D none)) ∨ ∃ d, H a = some (exo a D (some d)) ∧ H d = some (exd d fs)
theorem XAt.same {H H' : Hp} {a D : Addr} {fs : List (Str × V)} (x : XAt H a D fs) (s : ∀ b o, H b = some o → H' b = some o) : XAt H' a D fs := by
  rcases x with ⟨e, h⟩ | ⟨d, h1, h2⟩
  · exact .inl ⟨e, s _ _ h⟩
  · exact .inr ⟨d, s _ _ h1, s _ _ h2⟩
theorem XAt.new {H : Hp} {a d C : Addr} {f : Str} {y : V} (ne : d ≠ a) : XAt (upd (upd H d (exd d [(f, y)])) a (exo a C (some d))) a C [(f, y)] := .inr ⟨d, upd_same, by rw [upd_ne ne, upd_same]⟩
theorem XAt.inst {X : Cx} {pins : List (Addr × Obj)} {σ : L2.St} {H : Hp} {s : Shared} {a D : Addr} {fs : List (Str × V)} (I : Inv X pins σ H s) (x : XAt H a D fs) :
    ∃ (ox : Obj) (od : Option Obj), PySem.W.InstAt s.heap a ox D od ∧ ∀ f v, fs.lookup f = some v → ∃ (o : Obj) (u : Value), od = some o ∧ PySem.W.lookIn f o = some (some u) ∧ RelV v u := by
  rcases x with ⟨rfl, h⟩ | ⟨d, h1, h2⟩
  · obtain ⟨t1, ho⟩ := exo_at I.hok h
    exact ⟨_, none, ⟨ho, rfl, rfl, trivial⟩, fun f v z => (nomatch z)⟩
  · obtain ⟨t1, ho⟩ := exo_at I.hok h1
    obtain ⟨mA, hns, rel⟩ := exd_at I.hok h2
    obtain ⟨od, hd, hl⟩ := lookIn_ns hns
    refine ⟨_, some od, ⟨ho, rfl, rfl, hd⟩, fun f v z => ?_⟩
    obtain ⟨u, hu, ru⟩ := RelO.some_of (v := v) (o := mA f) (by rw [← z]; exact rel f)
    exact ⟨od, u, rfl, by rw [hl, hu], ru⟩
/-- isinstance(e, c) -/
def rIsX (K : PySem.W.Frag) : List V → Hp → VK → Prop := fun xs H Q => ∃ (a D : Addr) (fs : List (Str × V)) (c : V) (cv : Value) (b : Bool), xs = [.ref a, c] ∧ XAt H a D fs ∧ XB K D ∧ XQ K ∧ (∀ u, RelV c u → u = cv) ∧ PySem.W.kitOne K (.ref D) cv = some b ∧ Q (.bl b) H
theorem isX {X : Cx} (K : PySem.W.Frag) (h : X.K = K := by rfl) : CallR X (.builtin "isinstance") (rIsX K) := by
  subst h
  intro pins s σ H xs us Q I r h
  obtain ⟨a, D, fs, c, cv, b, rfl, x, T, Z, hcv, e, q⟩ := h
  cases r with
  | cons rx rr =>
    cases rr with
    | cons rt rr =>
      cases rr
      cases rx
      have ec := hcv _ rt
      subst ec
      obtain ⟨ox, od, J, _⟩ := x.inst I
      exact PySem.W.kia_one (kitEx (ox := ox) (od := od) T Z) I.kIn J e (fun z => nomatch z) fun tk => ⟨.bl b, H, I.kept (t' := tk) fun _ _ z => z, rfl, q⟩
/-- e.f -/
def tFx (K : PySem.W.Frag) (f : Str) (te : TE) : TE := fun σ H Q => te σ H fun x H1 => ∃ (a D : Addr) (fs : List (Str × V)) (v : V), x = .ref a ∧ XAt H1 a D fs ∧ XB K D ∧ PySem.W.findIn K (.ref D) f = some none ∧ fs.lookup f = some v ∧ Q v H1
theorem pe_fx {X : Cx} (K : PySem.W.Frag) {e : Expr} {te : TE} {pos : Pos} {n : Str} (he : PE X e te) (h : X.K = K := by rfl) (hb : attributeBase e n X.env (eval e X.env) = eval e X.env := by rfl) : PE X (.Attribute e n pos) (tFx K n te) := by
  subst h
  constructor
  intro pins s σ H Q I h
  refine attr_of hb (thn (he.run pins s σ H _ I h) fun u s1 hh => ?_)
  obtain ⟨x, H1, I1, rx, a, D, fs, v, rfl, xa, T, no, l, q⟩ := hh
  cases rx
  obtain ⟨ox, od, J, look⟩ := xa.inst I1
  obtain ⟨o, u, rfl, hl, ru⟩ := look n v l
  exact PySem.HandSPX.exc_get I1.kIn J T.ga T.gg T.isBase (PySem.W.findObj_own T.hasD no rfl hl) (handed_of ru) ⟨v, H1, I1.tok _, ru, q⟩
end U

namespace U
open PySem L2
/-! ### what is shown: plain data of any depth, or a dict of texts and ints -/
structure Shw (d : PyData) : Prop where
  lay : d.canLay0 = true
  shw : d.showable = true
  dp : d.depth ≤ 60
  fit : d.shown.length ≤ sizeLine
theorem Sh.w {d : PyData} {b n : Nat} (h : Sh d b n) (hb : b ≤ 1048576) (hn : n ≤ 60) : Shw d := ⟨h.lay, h.shw, Nat.le_trans h.dp hn, PyData.shown_fits_bulk (B := 13) (by decide) (by decide) h.lv (Nat.le_trans h.bk (Nat.le_trans hb (by decide)))⟩
def dKs (ks : List (Str × Int)) : List (Key × V) := ks.map fun p => (Sum.inr p.1, V.int p.2)
def dDict (ks : List (Str × Int)) : PyData := .dict (ks.map fun p => (.str p.1, .int p.2))
/-- v shows the text z -/
def Vw (K : PySem.W.Frag) (H : Hp) (v : V) (z : Str) : Prop := (∃ d, Dp K H v d ∧ Shw d ∧ z = d.shown) ∨
  ∃ (a : Addr) (ks : List (Str × Int)), v = .ref a ∧ H a = some (.dK (dKs ks)) ∧ (dDict ks).showable = true ∧ (dDict ks).shown.length ≤ sizeLine ∧ (dDict ks).depth ≤ 60 ∧ z = (dDict ks).shown
theorem Vw.of {K : PySem.W.Frag} {H : Hp} {v : V} {d : PyData} (h : Dp K H v d) (s : Shw d) : Vw K H v d.shown := .inl ⟨d, h, s, rfl⟩
theorem keys_read {P : Program} {w : World} {h : Heap} : ∀ {ks : List (Str × Int)} {es : List DictEntry} {vs : List (Key × Value)}, KV (dKs ks) vs → PySem.Pairs (mixKind P w) es vs →
    ReadsAll h (es.map (·.key)) (ks.map fun p => PyData.str p.1) [] ∧ ReadsAll h (es.map (·.val)) (ks.map fun p => PyData.int p.2) []
  | [], _, _, r, p => by
    cases r
    cases p
    exact ⟨.nil, .nil⟩
  | k :: ks, _, _, r, p => by
    cases r with
    | cons r1 rr =>
      cases p with
      | cons p1 p2 pp =>
        obtain ⟨q1, q2⟩ := keys_read (h := h) rr pp
        obtain ⟨e1, t, e2⟩ := r1
        rw [← e1] at p1
        rw [e2] at p2
        rcases keyIs_shape (show keyIs (Sum.inr k.1) _ = true from p1) with ⟨i, t', z, _⟩ | ⟨x, t', z2, z1⟩
        · cases z
        · cases z2
          refine ⟨?_, ?_⟩
          · rw [List.map_cons, z1]
            exact .cons (as := []) (bs := []) (.str _ _) q1
          · rw [List.map_cons, p2]
            exact .cons (as := []) (bs := []) (.int _ _) q2
def rReprV (K : PySem.W.Frag) : List V → Hp → VK → Prop := fun xs H Q => ∃ (v : V) (z : Str), xs = [v] ∧ Vw K H v z ∧ Q (.str z) H
theorem reprV {X : Cx} (K : PySem.W.Frag) (hg : X.A.guards = some []) (hu : X.A.units + 64 < cLine) (h : X.K = K := by rfl) : CallR X (.builtin "repr") (rReprV K) := by
  subst h
  intro pins s σ H xs us Q I r h
  obtain ⟨v, z, rfl, hd, q⟩ := h
  cases r with
  | cons ru rr =>
    cases rr
    rcases hd with ⟨d, hd, sh, rfl⟩ | ⟨a, ks, rfl, ha, h1, h2, h3, rfl⟩
    · have fits := sh.fit
      cases hd with
      | non => cases ru; exact P.repr_of_none ⟨.str _, H, I.tok _, ⟨_, rfl⟩, by simpa only [PyData.shown] using q⟩
      | bl c => cases ru; exact P.repr_of_bool ⟨.str _, H, I.tok _, ⟨_, rfl⟩, by simpa only [PyData.shown] using q⟩
      | int i =>
        obtain ⟨t, rfl⟩ := ru
        have g := sh.shw
        simp only [PyData.showable] at g
        exact P.repr_of_int (of_decide_eq_true g) ⟨.str _, H, I.tok _, ⟨_, rfl⟩, by simpa only [PyData.shown] using q⟩
      | str x =>
        obtain ⟨t, rfl⟩ := ru
        exact P.repr_of_str ⟨.str _, H, I.tok _, ⟨_, rfl⟩, by simpa only [PyData.shown] using q⟩ (by simpa only [PyData.shown] using fits)
      | lst hs ha =>
        cases ru
        obtain ⟨as, rd⟩ := Dp.reads I _ _ _ (.lst hs ha) (show RelV (V.ref _) (Value.ref _) from rfl)
        exact repr_of_reads' rd sh.shw (PyData.noDict_hsm (PyData.hasDict_of_canLay _ sh.lay)) hg (by have := sh.dp; omega) (fun b o e => e) (fun h' u tk k => ⟨.str _, H, I.kept (t' := tk) k, ⟨_, rfl⟩, q⟩) fits
      | tup hs ha =>
        cases ru
        obtain ⟨as, rd⟩ := Dp.reads I _ _ _ (.tup hs ha) (show RelV (V.ref _) (Value.ref _) from rfl)
        exact repr_of_reads' rd sh.shw (PyData.noDict_hsm (PyData.hasDict_of_canLay _ sh.lay)) hg (by have := sh.dp; omega) (fun b o e => e) (fun h' u tk k => ⟨.str _, H, I.kept (t' := tk) k, ⟨_, rfl⟩, q⟩) fits
    · cases ru
      obtain ⟨hz, hs, vs, kv, o, es, ep, ho, ex, hd, hk, hp, hn⟩ := dk_of I.hok ha
      obtain ⟨r1, r2⟩ := keys_read (h := s.heap) kv hp
      have rd : Reads s.heap (.ref a) (dDict ks) (a :: [] ++ []) := by
        unfold dDict
        refine .dict ho ex.1 hd ?_ ?_
        · rw [List.map_map]; exact r1
        · rw [List.map_map]; exact r2
      exact repr_of_reads' rd h1 (fun _ hm => by
          rw [List.append_nil, List.mem_singleton] at hm
          rw [← hm] at hs
          simp at hs) hg (by omega) (fun b o e => e) (fun h' u tk k => ⟨.str _, H, I.kept (t' := tk) k, ⟨_, rfl⟩, q⟩) h2
end U

namespace U
open PySem L2 PySem.Spec PyProof.Rows
/-! ### which exception is of which class -/
def bkX (k : Nat) : Nat := if k < 12 then 0 else if k < 13 then 1 else 2
def tlX (b : Nat) : List Value := if b = 0 then [.type "ValueError", .type "Exception", .type "BaseException", .type "object"] else if b = 1 then [.type "LookupError", .type "Exception", .type "BaseException", .type "object"] else [.type "ArithmeticError", .type "Exception", .type "BaseException", .type "object"]
def nwX (b : Nat) : String := if b = 0 then "ValueError.__new__" else if b = 1 then "LookupError.__new__" else "ArithmeticError.__new__"
def tyX (b : Nat) : String := if b = 0 then "ValueError" else if b = 1 then "LookupError" else "ArithmeticError"
def nmX : List Str := ["InvalidText", "InvalidNumber", "InvalidName", "InvalidWish", "InvalidIndex", "NotACouncil", "InvalidMinds", "InvalidWays", "InvalidWord", "InvalidThoughts", "InvalidOffers", "InvalidDoubts", "UnknownName", "NoDays", "NoEnd", "TooMany", "NothingToUndo", "Broken"]
def nmW : List Str := ["WrongValue", "WrongName", "NoAnswer"]
/-- the class at C with the name nm, its base at W, over the built-in base b -/
structure LkX (K : PySem.W.Frag) (C W : Addr) (nm : Str) (b : Nat) : Prop where
  ex : ∃ (q : Str) (N : Addr) (bs : List Value) (sn : List Str) (sub : List Value) (ab : Bool) (col : Option Bool) (dd : Option Addr) (k0 k1 k2 k3 k5 : Option Value), K.lookup C = some (excClassObj nm q C N bs (.ref W :: tlX b) true sn sub ab col dd k0 k1 k2 k3 k5 (nwX b))
structure LkW (K : PySem.W.Frag) (W : Addr) (nm : Str) : Prop where
  ex : ∃ (q : Str) (N : Addr) (bs bm : List Value) (sn : List Str) (sub : List Value) (ab : Bool) (col : Option Bool) (dd : Option Addr) (k0 k1 k2 k3 k5 : Option Value) (nw : String), K.lookup W = some (excClassObj nm q W N bs bm true sn sub ab col dd k0 k1 k2 k3 k5 nw)
section
variable {K : PySem.W.Frag} {C D W V : Addr} {n m : Str} {b c : Nat}
theorem LkX.w (x : LkX K C W n b) : LkW K C n := by
  obtain ⟨q, N, bs, sn, sub, ab, col, dd, k0, k1, k2, k3, k5, e⟩ := x.ex
  exact ⟨q, N, bs, _, sn, sub, ab, col, dd, k0, k1, k2, k3, k5, _, e⟩
theorem LkW.ne (x : LkW K C n) (y : LkW K D m) (h : n ≠ m) : C ≠ D := fun z => by
  subst z
  obtain ⟨q, N, bs, bm, sn, sub, ab, col, dd, k0, k1, k2, k3, k5, nw, e⟩ := x.ex
  obtain ⟨q', N', bs', bm', sn', sub', ab', col', dd', k0', k1', k2', k3', k5', nw', e'⟩ := y.ex
  have z := Option.some.inj (e.symm.trans e')
  unfold excClassObj at z
  injection z with _ _ z1 _
  injection z1 with z2
  injection z2 with z3
  exact h z3
theorem LkW.isC (x : LkW K C n) : ((PySem.W.clsIn K C).isSome && PySem.W.typeIn K (.ref C) == some (.type "type")) = true := by
  obtain ⟨q, N, bs, bm, sn, sub, ab, col, dd, k0, k1, k2, k3, k5, nw, e⟩ := x.ex
  have e1 : (PySem.W.clsIn K C).isSome = true := by
    unfold PySem.W.clsIn
    rw [e] <;> rfl
  have e2 : PySem.W.typeIn K (.ref C) = some (.type "type") := by
    show (K.lookup C).map (·.cls) = _
    rw [e]
    rfl
  rw [e1, e2]
  rfl
theorem LkX.mro (x : LkX K C W n b) (v : Value) : PySem.W.mroIn K C v = some ((Value.ref C :: Value.ref W :: tlX b).contains v) := by
  obtain ⟨q, N, bs, sn, sub, ab, col, dd, k0, k1, k2, k3, k5, e⟩ := x.ex
  have h : PySem.W.clsIn K C = some { name := n, bases := bs, mro := .ref C :: .ref W :: tlX b, ns := N, qualname := q, hasDict := true, slotNames := sn, subclasses := sub, abstract := ab, collection := col, hasDel := false } := by
    unfold PySem.W.clsIn
    rw [e] <;> rfl
  unfold PySem.W.mroIn
  rw [h, Option.bind_some, if_neg (by simp)]
theorem tl_ref : ∀ (b : Nat) (a : Addr), (tlX b).contains (.ref a) = false := by
  intro b a
  unfold tlX
  split
  · rfl
  · split <;> rfl
theorem ref_beq {a b : Addr} (h : a ≠ b) : (Value.ref a == Value.ref b) = false := Bool.eq_false_iff.mpr fun q => h (Value.ref.inj (beq_iff_eq.mp q))
theorem kit_self' (K : PySem.W.Frag) (C : Addr) : PySem.W.kitOne K (.ref C) (.ref C) = some true := by
  unfold PySem.W.kitOne
  rw [if_pos (beq_iff_eq.mpr rfl)]
theorem kit_cls (x : LkX K C W n b) (y : LkW K D m) (h : n ≠ m) (hW : W = D ∨ W ≠ D) : PySem.W.kitOne K (.ref C) (.ref D) = some (decide (W = D)) := by
  have ne := x.w.ne y h
  unfold PySem.W.kitOne
  rw [if_neg (by rw [ref_beq ne]; exact Bool.false_ne_true)]
  show (if ((PySem.W.clsIn K D).isSome && PySem.W.typeIn K (.ref D) == some (.type "type")) = true then PySem.W.mroIn K C (.ref D) else none) = _
  rw [if_pos y.isC, x.mro]
  congr 1
  rw [List.contains_cons, List.contains_cons, tl_ref, Bool.or_false, ref_beq (Ne.symm ne), Bool.false_or]
  rcases hW with e | e
  · rw [e, decide_eq_true rfl]
    exact beq_self_eq_true _
  · rw [decide_eq_false e]
    exact ref_beq (Ne.symm e)
theorem kit_typ (x : LkX K C W n b) {T : String} (hm : PySem.W.kitMeta T = true) : PySem.W.kitOne K (.ref C) (.type T) = some ((tlX b).contains (.type T)) := by
  unfold PySem.W.kitOne
  rw [if_neg (by rw [show (Value.ref C == Value.type T) = false from rfl]; exact Bool.false_ne_true)]
  show (if PySem.W.kitMeta T = true then PySem.W.mroIn K C (.type T) else none) = _
  rw [if_pos hm, x.mro]
  rfl
theorem LkX.xb (x : LkX K C W n b) (sa : PySem.W.findIn K (.ref C) "__setattr__" = some (some (.builtin "object.__setattr__"))) (ga : PySem.W.findIn K (.ref C) "__getattribute__" = some (some (.builtin "BaseException.__getattribute__")))
    (gg : PySem.W.findIn K (.ref C) "__getattr__" = some none) (ca : PySem.W.findIn K (.ref C) "__class__" = some (some (.builtin "object.__class__"))) (kC : PySem.W.keepIn K (.ref C) = true) : XB K C := by
  obtain ⟨q, N, bs, sn, sub, ab, col, dd, k0, k1, k2, k3, k5, e⟩ := x.ex
  refine ⟨?_, sa, ga, gg, ca, kC⟩
  have tl : ∀ b, PySem.W.excTail (tlX b) (.ref W :: tlX b) = true := fun b => by
    show PySem.W.excTail (tlX b) (tlX b) = true
    unfold tlX
    split
    · decide +kernel
    · split <;> decide +kernel
  by_cases h0 : b = 0
  · subst h0
    exact ⟨_, _, _, _, _, _, _, _, _, _, _, _, _, _, _, _, _, _, _, F.excBase_ValueError, F.store_ValueError, e, tl 0⟩
  · by_cases h1 : b = 1
    · subst h1
      exact ⟨_, _, _, _, _, _, _, _, _, _, _, _, _, _, _, _, _, _, _, F.excBase_LookupError, F.store_LookupError, e, tl 1⟩
    · have e1 : tlX b = tlX 2 := by unfold tlX; rw [if_neg h0, if_neg h1]; rfl
      have e2 : nwX b = nwX 2 := by unfold nwX; rw [if_neg h0, if_neg h1]; rfl
      rw [e1, e2] at e
      exact ⟨_, _, _, _, _, _, _, _, _, _, _, _, _, _, _, _, _, _, _, F.excBase_ArithmeticError, F.store_ArithmeticError, e, tl 2⟩
end
theorem bk_lt (i : Nat) : bkX i < 3 := by
  unfold bkX
  split
  · decide
  · split <;> decide
theorem nm_ne : ∀ i, i < 18 → ∀ k, k < 18 → i ≠ k → nmX.getD i "" ≠ nmX.getD k "" := by decide +kernel
theorem nw_ne : ∀ i, i < 3 → ∀ k, k < 3 → i ≠ k → nmW.getD i "" ≠ nmW.getD k "" := by decide +kernel
theorem nmw_ne : ∀ i, i < 18 → ∀ b, b < 3 → nmX.getD i "" ≠ nmW.getD b "" := by decide +kernel
theorem tl_ty : ∀ a, a < 3 → ∀ b, b < 3 → (tlX a).contains (.type (tyX b)) = decide (b = a) := by decide +kernel
theorem ty_meta : ∀ b, b < 3 → PySem.W.kitMeta (tyX b) = true := by decide +kernel
section
variable {K : PySem.W.Frag} {c W : Nat → Addr} (lk : ∀ k, k < 18 → LkX K (c k) (W (bkX k)) (nmX.getD k "") (bkX k)) (lw : ∀ b, b < 3 → LkW K (W b) (nmW.getD b ""))
include lk lw
theorem kit_cc (i k : Nat) (hi : i < 18) (hk : k < 18) : PySem.W.kitOne K (.ref (c i)) (.ref (c k)) = some (decide (k = i)) := by
  by_cases e : k = i
  · subst e
    rw [kit_self', decide_eq_true rfl]
  · have ne : W (bkX i) ≠ c k := (lw _ (bk_lt i)).ne (lk k hk).w (Ne.symm (nmw_ne k hk _ (bk_lt i)))
    rw [kit_cls (lk i hi) (lk k hk).w (nm_ne i hi k hk (Ne.symm e)) (.inr ne), decide_eq_false ne, decide_eq_false e]
theorem kit_cw (i b : Nat) (hi : i < 18) (hb : b < 3) : PySem.W.kitOne K (.ref (c i)) (.ref (W b)) = some (decide (b = bkX i)) := by
  by_cases e : b = bkX i
  · subst e
    rw [kit_cls (lk i hi) (lw _ hb) (nmw_ne i hi _ hb) (.inl rfl), decide_eq_true rfl, decide_eq_true rfl]
  · have ne : W (bkX i) ≠ W b := (lw _ (bk_lt i)).ne (lw b hb) (nw_ne _ (bk_lt i) b hb (Ne.symm e))
    rw [kit_cls (lk i hi) (lw _ hb) (nmw_ne i hi _ hb) (.inr ne), decide_eq_false ne, decide_eq_false e]
omit lw in
theorem kit_ct (i b : Nat) (hi : i < 18) (hb : b < 3) : PySem.W.kitOne K (.ref (c i)) (.type (tyX b)) = some (decide (b = bkX i)) := by
  rw [kit_typ (lk i hi) (ty_meta b hb), tl_ty _ (bk_lt i) b hb]
end
end U

namespace U
open PySem L2
/-! ### lists of truth values held against one another -/
theorem beq_dec {α : Type} [BEq α] [LawfulBEq α] [DecidableEq α] (x y : α) : (x == y) = decide (x = y) := by
  by_cases h : x = y
  · subst h; simp
  · simp [h]
theorem lay_map {α : Type} {f : α → PyData} : ∀ {l : List α}, (∀ x ∈ l, (f x).canLay0 = true) → PyData.canLayAll0 (l.map f) = true
  | [], _ => by simp only [List.map_nil, PyData.canLayAll0]
  | x :: l, h => by
    rw [List.map_cons]
    simp only [PyData.canLayAll0]
    rw [h x List.mem_cons_self, lay_map fun y hy => h y (List.mem_cons_of_mem _ hy)]; rfl
theorem depth_map {α : Type} {f : α → PyData} {c : Nat} : ∀ {l : List α}, (∀ x ∈ l, (f x).depth ≤ c) → PyData.depthAll (l.map f) ≤ c
  | [], _ => by simp only [List.map_nil, PyData.depthAll]; exact Nat.zero_le _
  | x :: l, h => by
    rw [List.map_cons]
    simp only [PyData.depthAll]
    exact Nat.max_le.mpr ⟨h x List.mem_cons_self, depth_map fun y hy => h y (List.mem_cons_of_mem _ hy)⟩
theorem eqv_map {α : Type} [DecidableEq α] {f : α → PyData} (h : ∀ x y, PyData.eqv (f x) (f y) = decide (x = y)) : ∀ l l' : List α, PyData.eqvAll (l.map f) (l'.map f) = decide (l = l')
  | [], [] => by simp [PyData.eqvAll]
  | [], _ :: _ => by simp [PyData.eqvAll]
  | _ :: _, [] => by simp [PyData.eqvAll]
  | x :: l, y :: l' => by
    rw [List.map_cons, List.map_cons]
    simp only [PyData.eqvAll]
    rw [h, eqv_map h l l']
    simp [List.cons.injEq, Bool.decide_and]
def dBools (bs : List Bool) : PyData := .list (bs.map PyData.bool)
theorem eqv_bools (a b : List Bool) : PyData.eqv (dBools a) (dBools b) = decide (a = b) := by
  unfold dBools
  simp only [PyData.eqv]
  exact eqv_map (fun x y => by simp only [PyData.eqv]; exact beq_dec x y) a b
theorem dBools_lay (bs : List Bool) : (dBools bs).canLay0 = true ∧ (dBools bs).depth ≤ 60 := by
  unfold dBools
  simp only [PyData.canLay0, PyData.depth]
  refine ⟨lay_map fun x _ => by simp only [PyData.canLay0], ?_⟩
  have := depth_map (f := PyData.bool) (c := 0) (l := bs) fun x _ => by simp only [PyData.depth]; exact Nat.le_refl 0
  omega
theorem dpBools {K : PySem.W.Frag} {H : Hp} {a : Addr} {bs : List Bool} (h : H a = some (.lst (bs.map V.bl))) : Dp K H (.ref a) (dBools bs) := by
  refine .lst (SqL.of h) ?_
  clear h
  induction bs with
  | nil => exact .nil
  | cons b bs ih => exact .cons (.bl b) ih
end U

namespace U
open PySem L2 PySem.Spec PyProof.Rows
/-! ### a list's iterator at its end, while an exception is handled -/
theorem listEndHot {prog : Program} {w : World} {A : Around} {E : Value → Shared → Prop} {s : Shared} {it l x1 : Addr} {i : Nat} {items : Array Value} {Q : Option Value → Shared → Prop} (hot : HotX.HotAt A x1 s.heap) (hit : s.heap.IsListIter it l i) (hl : s.heap.IsList l items) (hx : items[i]? = none)
    (ne : x1 ≠ it) (hQ : ∀ h', (∀ b o, b ≠ it → s.heap.get? b = some o → h'.get? b = some o) → Q none { s with heap := h' }) : wpAny (model prog w) A (pyNext (.ref it)) Q E s := by
  obtain ⟨oi, gi, ci, di⟩ := id hit
  obtain ⟨ol, gl, _, nl, dl⟩ := hl
  obtain ⟨hh, o1, vs1, g1, d1, c1⟩ := hot
  unfold pyNext
  refine wpAny_bind (wpAny_attempt (wpAny_callSpecial?_slot (name := Str.ofString "__next__") hit.typeIs slot_listiter_next (wpAny_call_entry slot_listiter_next hit.typeIs entry_listiter_next ?_ (args_listiter_next _))))
  show wpAny _ _ (field (.ref it) 0 >>= _) _ _ s
  refine wpAny_bind (wpAny_field gi di (x := .ref l) rfl ?_)
  show wpAny _ _ (if (Value.ref l == Value.none) = true then _ else _) _ _ s
  rw [if_neg (show ¬ ((Value.ref l == Value.none) = true) from Bool.false_ne_true)]
  show wpAny _ _ (field (.ref it) 1 >>= _) _ _ s
  refine wpAny_bind (wpAny_field gi di (x := .int i 0) rfl ?_)
  show wpAny _ _ (seqItems? (.ref l) >>= _) _ _ s
  refine wpAny_bind (wpAny_seqItems gl dl ?_)
  simp only [Int.toNat_natCast, hx]
  refine wpAny_bind (wpAny_rule (wpAny_bind (wpAny_setField gi di (by simp) ?_)))
  show wpAny _ _ (newExc (.type "StopIteration") [] >>= _) _ _ _
  refine wpAny_bind ?_
  simp only [newExc, newTuple]
  refine wpAny_bind (wpAny_newObj_type ?_ (by size_fits))
  refine wpAny_bind (m := firstArgMember _ _) (wpAny_of_eq (a := Value.none) (by first | rfl | (simp only [firstArgMember]; rfl)) ?_)
  refine wpAny_newObj_type ?_ (by size_fits)
  have k0 : ∀ b o, b ≠ it → s.heap.get? b = some o → (s.heap.update it (Obj.mapFields (·.setIfInBounds 0 Value.none))).get? b = some o := fun b o hb e => (Heap.get?_update_other _ _ (Ne.symm hb)).trans e
  refine HotX.raiseNew_hot ⟨hh, o1, vs1, Heap.get?_push_of_some _ (Heap.get?_push_of_some _ (k0 _ _ ne g1)), d1, c1⟩ (Nat.ne_of_lt (Heap.lt_size (Heap.get?_push_of_some _ (k0 _ _ ne g1)))) (Heap.get?_push_size _ rfl) rfl (by first | (simp; done) | (simp; omega) | (simp only [Array.size_append]; simp; omega)) ?_
  refine wpAny_bind (wpAny_isInstance (T := "StopIteration") (b := true) ⟨_, Heap.get?_update_self _ (Heap.get?_push_size _ rfl) rfl, rfl⟩ isSubtype_stop ?_)
  refine wpAny_pure (hQ _ fun b o hb e => ?_)
  have k1 := Heap.get?_push_of_some { cls := .type "tuple", data := .seq ([] : List Value).toArray } (k0 b o hb e)
  refine (Heap.get?_update_other _ _ (Nat.ne_of_gt ?_)).trans (Heap.get?_push_of_some _ k1)
  exact Heap.lt_size k1
/-! ### where loops end: nothing is handled, or what is handled is known -/
def Sd (X : Cx) : Prop := ∀ (pins : List (Addr × Obj)) (σ : L2.St) (H : Hp) (s : Shared), Inv X pins σ H s → X.A.handled = none ∨ ∃ p : Addr × Obj, L2H.Hot1 X.A p ∧ s.heap.get? p.1 = some p.2
theorem sd_calm {X : Cx} (h : X.calm = true) : Sd X := fun _ _ _ _ I => .inl (I.ok.hd h)
theorem sd_hot {X : Cx} (c : L2H.HotC X) : Sd X := fun _ _ _ _ I => by
  obtain ⟨p, hp, hm⟩ := c
  exact .inr ⟨p, hp, (I.pin p (List.mem_append_left _ hm)).1⟩
/-- a block's start is a state of X, its iterator's objects stand apart -/
def Blk (X : Cx) (s : Shared) (H : Hp) (fp : List Addr) : Prop := ∃ (pins : List (Addr × Obj)) (σ : L2.St), Inv X pins σ H s ∧ ∀ b ∈ fp, FpOk X pins H b
theorem sd_blk {X : Cx} {s : Shared} {H : Hp} {scope : Scope} {ce : Env} {fp : List Addr} (c : L2H.HotC X) (b : Blk X s H fp) : Sd (X.blk s H scope ce fp) := fun pins σ H' s' J => by
  obtain ⟨p, hp, hm⟩ := c
  obtain ⟨pn, τ, I, hf⟩ := b
  obtain ⟨g, n, nl, nf, nc⟩ := I.pin p (List.mem_append_left _ hm)
  refine .inr ⟨p, hp, J.base.keep p.1 p.2 g n (fun hs => ?_) fun hx => ?_⟩
  · rcases List.mem_cons.mp (I.stkSub p.1 hs) with z | z
    · exact nl z
    · exact nf z
  · exact (hf p.1 hx).2.2.2.2.2 p (List.mem_append_left _ hm) rfl
structure TurnS (P : Program) (w : World) (K : PySem.W.Frag) (tg : Expr) (J : It) (fp : List Addr) (it : Addr) (tn : Nat → Heap → Prop) : Prop where
  mem : it ∈ fp
  obj : ∀ i h, tn i h → ∀ b ∈ fp, ∃ o, h.get? b = some o ∧ ∀ v, o.data ≠ .cell v
  keep : ∀ i h h', tn i h → (∀ b ∈ fp, ∀ o, h.get? b = some o → h'.get? b = some o) → tn i h'
  item : ∀ (X : Cx), X.prog = P → X.w = w → X.K = K → ∀ (i : Nat) (pins : List (Addr × Obj)) (s : Shared) (σ : L2.St) (H : Hp) (E : Value → Shared → Prop), Inv X pins σ H s → (∀ b ∈ fp, FpOk X pins H b) → tn i s.heap → J.go i H →
    wpAny (model P w) X.A (pyNext (.ref it)) (fun r s1 => ∃ u, r = some u ∧ wpAny (model P w) X.A (letOwnedTupleGo tg (.ref it) u) (fun _ s2 => ∃ x H', Inv X pins σ H' s2 ∧ RelV x u ∧ J.yld i H x H' ∧ tn (i + 1) s2.heap ∧ ∀ b ∈ fp, H' b = none) E s1) E s
  done : ∀ (X : Cx), X.prog = P → X.w = w → X.K = K → Sd X → ∀ (i : Nat) (pins : List (Addr × Obj)) (s : Shared) (σ : L2.St) (H : Hp) (E : Value → Shared → Prop), Inv X pins σ H s → (∀ b ∈ fp, FpOk X pins H b) → tn i s.heap → J.stop i H →
    wpAny (model P w) X.A (pyNext (.ref it)) (fun r s1 => r = none ∧ Inv X pins σ H s1) E s
  self : ∀ (A : Around) (i : Nat) (s : Shared) (Q : Value → Shared → Prop) (E : Value → Shared → Prop), tn i s.heap → Q (.ref it) s → wpAny (model P w) A (pyIter (.ref it)) Q E s
section
variable {P : Program} {w : World} {K : PySem.W.Frag} {tg : Expr}
theorem turnSL (a it : Addr) : TurnS P w K tg (Itl K a) [it] it (fun i h => h.IsListIter it a i) where
  mem := by simp
  obj := fun i h st b hb => by
    obtain rfl : b = it := by simpa using hb
    obtain ⟨o, e, c, d⟩ := st
    exact ⟨o, e, fun v z => by rw [d] at z; cases z⟩
  keep := fun i h h' st k => st.at fun o e => k it (by simp) o e
  self := fun _ _ _ _ _ st h => wpAny_pyIter_listiter st h
  item := by
    intro X hP hw hK i pins s σ H E I hf st hg
    subst hP hw hK
    obtain ⟨xs, x, hq, hx⟩ := hg
    obtain ⟨its, rv, p, hz⟩ := I.list hq
    obtain ⟨u, hu, ru⟩ := rv.get hx
    obtain ⟨f0, f1, f2, f3, f4, f5⟩ := hf it (by simp)
    refine wpAny_pyNext_list_item st p.isList (x := u) (by simpa using hu) fun h' st' sb => ?_
    have J : Inv X pins σ H { s with heap := h' } := I.turned (t' := s.toks) (fun b o hb e => (sb.2 b hb).trans e) f0 f1 f3 f4 f5
    obtain ⟨o, e, c, d⟩ := id st'
    refine ⟨u, rfl, go_of (s := { s with heap := h' }) e c d (by decide) ⟨x, H, J, ru, ⟨rfl, fun ys hy => ?_⟩, st', fun b hb => (hf b hb).1⟩⟩
    rw [I.list_inj hy hq]
    exact hx
  done := by
    intro X hP hw hK sd i pins s σ H E I hf st hg
    subst hP hw hK
    obtain ⟨xs, hq, hx⟩ := hg
    obtain ⟨its, rv, p, hz⟩ := I.list hq
    obtain ⟨f0, f1, f2, f3, f4, f5⟩ := hf it (by simp)
    have hl := rv.length
    have out : (its.toArray)[i]? = none := by simp; omega
    rcases sd pins σ H s I with e | ⟨q, ⟨hh, vs, hd, hc⟩, hg⟩
    · exact wpAny_pyNext_list_end e st p.isList out fun h' eb => ⟨rfl, I.turned (t' := s.toks) (fun b o hb e => eb b o hb e) f0 f1 f3 f4 f5⟩
    · have ne : q.1 ≠ it := fun z => by
        obtain ⟨o, e, c, d⟩ := st
        rw [z, e] at hg
        cases hg
        rw [d] at hd
        cases hd
        cases hc
      exact listEndHot ⟨hh, q.2, vs, hg, hd, hc⟩ st p.isList out ne fun h' eb => ⟨rfl, I.turned (t' := s.toks) eb f0 f1 f3 f4 f5⟩
theorem turnSR (it : Addr) (lo : Int) (n : Nat) : TurnS P w K tg (Itr lo n) [it] it (fun i h => IsRangeIter h it (lo + (i : Nat) * 1) ((n : Int) - (i : Nat)) 1) where
  mem := by simp
  obj := fun i h st b hb => by
    obtain rfl : b = it := by simpa using hb
    refine ⟨_, st, fun v z => ?_⟩
    have y : Data.fields _ = Data.cell v := z
    cases y
  keep := fun i h h' st k => k it (by simp) _ st
  self := fun _ _ _ _ _ st h => wpAny_pyIter_rangeiter st h
  item := by
    intro X hP hw hK i pins s σ H E I hf st hg
    subst hP hw hK
    obtain ⟨f0, f1, f2, f3, f4, f5⟩ := hf it (by simp)
    have hlt : i < n := hg
    refine wpAny_pyNext_range_item st (by omega) fun h' st' sb => ?_
    have st2 : IsRangeIter h' it (lo + ((i + 1 : Nat) : Int) * 1) ((n : Int) - ((i + 1 : Nat) : Int)) 1 := by
      rw [show lo + ((i + 1 : Nat) : Int) * 1 = lo + ((i : Nat) : Int) * 1 + 1 from by omega, show (n : Int) - ((i + 1 : Nat) : Int) = (n : Int) - ((i : Nat) : Int) - 1 from by omega]
      exact st'
    have J : Inv X pins σ H { s with heap := h', toks := s.toks + 1 } := I.turned (fun b o hb e => (sb.2 b hb).trans e) f0 f1 f3 f4 f5
    refine ⟨_, rfl, go_of (s := { s with heap := h', toks := s.toks + 1 }) (n := "range_iterator") st2 rfl rfl (by decide) ⟨.int (lo + i), H, J, ⟨s.toks, ?_⟩, ⟨rfl, rfl⟩, st2, fun b hb => (hf b hb).1⟩⟩
    rw [Int.mul_one]
  done := by
    intro X hP hw hK sd i pins s σ H E I hf st hg
    subst hP hw hK
    obtain ⟨f0, f1, f2, f3, f4, f5⟩ := hf it (by simp)
    have out : (n : Int) - (i : Nat) ≤ 0 := by have : n ≤ i := hg; omega
    rcases sd pins σ H s I with e | ⟨q, ⟨hh, vs, hd, hc⟩, hg⟩
    · exact wpAny_pyNext_range_end e st out fun h' eb => ⟨rfl, I.turned (t' := s.toks) (fun b o hb e => eb b o hb e) f0 f1 f3 f4 f5⟩
    · exact HotX.pyNext_range_end_hot ⟨hh, q.2, vs, hg, hd, hc⟩ st out fun h' eb => ⟨rfl, I.turned (t' := s.toks) (fun b o _ e => eb b o e) f0 f1 f3 f4 f5⟩
end
def PIES (X : Cx) (pins : List (Addr × Obj)) (σ : L2.St) (tg : Expr) (R : It → Hp → Prop) (itv : Value) (s2 : Shared) : Prop :=
  ∃ (it : Addr) (fp : List Addr) (tn : Nat → Heap → Prop) (J : It) (H' : Hp), itv = .ref it ∧ Inv X pins σ H' s2 ∧ TurnS X.prog X.w X.K tg J fp it tn ∧ tn 0 s2.heap ∧ (∀ b ∈ fp, FpOk X pins H' b) ∧ R J H'
structure PIS (X : Cx) (tg iter : Expr) (wi : TI) : Prop where
  run : ∀ (pins : List (Addr × Obj)) (s : Shared) (σ : L2.St) (H : Hp) (R : It → Hp → Prop), Inv X pins σ H s → wi σ H R →
    wpAny (model X.prog X.w) X.A (eval iter X.env) (fun v s1 => wpAny (model X.prog X.w) X.A (pyIter v) (PIES X pins σ tg R) X.xe s1) X.xe s
section
variable {X : Cx} {tg : Expr}
theorem pisL (K : PySem.W.Frag) {l : Expr} {tl : TE} (hl : PE X l tl) (h : X.K = K := by rfl) : PIS X tg l (iList K tl) := by
  subst h
  constructor
  intro pins s σ H R I h
  refine thn (hl.run pins s σ H _ I h) fun v s1 hh => ?_
  obtain ⟨x, H1, I1, r1, a, e, ⟨xs, hq⟩, q⟩ := hh
  subst e
  cases r1
  obtain ⟨its, rv, p, hz⟩ := I1.list hq
  refine wpAny_pyIter_list p.isList ⟨s1.heap.objs.size, [s1.heap.objs.size], _, _, H1, rfl, I1.kept (t' := s1.toks) fun b o e => Heap.get?_push_of_some _ e, turnSL a _, ⟨_, Heap.get?_push_size _ rfl, rfl, rfl⟩, fun b hb => ?_, q⟩
  obtain rfl : b = s1.heap.objs.size := by simpa using hb
  exact I1.fpOk (Nat.le_refl _) (I1.hok.fresh (Nat.le_refl _))
theorem rangeItS {pins : List (Addr × Obj)} {σ : L2.St} {H : Hp} {s : Shared} {R : It → Hp → Prop} {E : Value → Shared → Prop} {hi : Int} {t u v : Tok} {tk : Nat} (I : Inv X pins σ H s) (h3 : -(2 ^ 62) ≤ hi) (h4 : hi < 2 ^ 62) (q : R (Itr 0 hi.toNat) H) :
    wpAny (model X.prog X.w) X.A (pyIter (.ref s.heap.objs.size)) (PIES X pins σ tg R) E { s with heap := s.heap.push { cls := .type "range", data := .fields #[.int 0 t, .int hi u, .int 1 v] }, toks := tk } := by
  refine wpAny_pyIter_range (IsRange.new ..) (small_one (by decide) (by decide) h3 h4) ?_
  have J : Inv X pins σ H { s with heap := s.heap.push { cls := .type "range", data := .fields #[.int 0 t, .int hi u, .int 1 v] }, toks := tk } := I.kept fun b o e => Heap.get?_push_of_some _ e
  refine ⟨_, [(s.heap.push { cls := .type "range", data := .fields #[.int 0 t, .int hi u, .int 1 v] }).objs.size], _, _, H, rfl, J.kept (t' := tk) fun b o e => Heap.get?_push_of_some _ e, turnSR _ 0 hi.toNat, ?_, fun b hb => ?_, q⟩
  · have e2 : ((hi.toNat : Nat) : Int) - ((0 : Nat) : Int) = Builtin.Range.rangeSize 0 hi 1 := by rw [rangeSize_one]; split <;> omega
    show IsRangeIter _ _ (0 + ((0 : Nat) : Int) * 1) (((hi.toNat : Nat) : Int) - ((0 : Nat) : Int)) 1
    rw [show (0 : Int) + ((0 : Nat) : Int) * 1 = 0 from by simp, e2]
    exact Heap.get?_push_size _ rfl
  · obtain rfl : b = (s.heap.push { cls := .type "range", data := .fields #[.int 0 t, .int hi u, .int 1 v] }).objs.size := by simpa using hb
    exact J.fpOk (Nat.le_refl _) (J.hok.fresh (Nat.le_refl _))
theorem pisR {a : Expr} {ta : TA} {p pos : Pos} (hg : Gl X "range") (hm : X.mg "range" = none) (ha : PA X [a] ta) (hs : starEach [a] X.env = [(false, eval a X.env)] := by rfl) : PIS X tg (.Call (.Name "range" p) [a] [] pos) (iRng1 ta) := by
  constructor
  intro pins s σ H R I h
  refine Call_ (ld_blt I hg hm boot_range (PyProof.Rows.callWith_type1 (thn (ha.run pos pins s σ H _ I h) fun us s1 hh => ?_) hs rfl))
  obtain ⟨vs, H1, I1, r1, j, e, q1, q2, q⟩ := hh
  subst e
  cases r1 with
  | cons r rr =>
    cases rr
    obtain ⟨t, rfl⟩ := r
    exact call_range_1 (rangeItS I1 q1 q2 q)
/-- [elt for target in iter if ..], wherever loops may end -/
theorem lcSCore {pins : List (Addr × Obj)} {s : Shared} {σ : L2.St} {H : Hp} {Q : VK} {elt iter : Expr} {ifs : List Expr} {scope : Scope} {own : List (Str × Nat)} {pos pos' : Pos} {wi : TI} {g : TG} {tt : TT} {te : TE} {Qf : Value → Shared → Prop}
    (hsd : ∀ s H fp ce, Blk X s H fp → Sd (X.blk s H scope ce fp)) (hN : X.N.Nodup) (I : Inv X pins σ H s) (hi : PIS X tg iter wi) (ok : BlkOk X.N X.env.scope scope own)
    (hg : ∀ (s : Shared) (H : Hp) (C : Addr) (cl : List (Str × Addr)) (fp : List Addr), PG (X.blk s H scope (compEnvC scope cl C X.env) fp) tg g) (ht : ∀ (s : Shared) (H : Hp) (C : Addr) (cl : List (Str × Addr)) (fp : List Addr), PTs (X.blk s H scope (compEnvC scope cl C X.env) fp) ifs tt)
    (he : ∀ (s : Shared) (H : Hp) (C : Addr) (cl : List (Str × Addr)) (fp : List Addr), Blk X s H fp → PE (X.blk s H scope (compEnvC scope cl C X.env) fp) elt te) (hs : ∀ x, foldedSetIterable iter X.env x = pure x) (h : tLc wi g tt te (own.map (·.2)) σ H Q)
    (fin : ∀ D C s' m H', Inv X pins σ H' s' → Q (.ref D) H' → s'.heap.Ns C m → FpOk X pins H' C → compPost (model X.prog X.w) X.A X.xe none Qf (.ref D) C (.ok .next) s') :
    wpAny (model X.prog X.w) X.A (comprehension (.ListComp elt [⟨tg, iter, ifs, 0⟩] scope pos) scope X.env pos' (newList []) false (eval iter X.env) none) Qf X.xe s := by
  have captured : ∀ y ∈ scope.names, y.2 = .free → ∃ c, X.env.cells.lookup y.1 = some c := fun y hy e => (ok.free y hy e).elim (fun k => I.ok.has _ (.inl k)) fun k => I.ok.has _ (.inr k)
  refine wpAny_comprehension_free (use := none) rfl hs (closure_ok captured) ok.kind (fun y hy e => by rw [ok.uniq y hy, e]) (thn (hi.run pins s σ H _ I h) fun xv s1 hx => thn hx fun itv s2 h2 => ?_)
  obtain ⟨it, fp, tn, J, H2, e, I2, T, st2, f2, q⟩ := h2
  subst e
  refine wpAny_newObj_type (newEnv_comp ?_) (by show 0 ≤ sizeLine; decide)
  generalize hD : s2.heap.objs.size = D
  obtain ⟨W, ⟨m0, w0⟩, turn⟩ := q D (I2.hok.fresh (Nat.le_of_eq hD))
  generalize hs3 : ({ s2 with heap := s2.heap.push { cls := .type "list", data := .seq ([] : List Value).toArray } } : Shared) = s3
  have I3 : Inv X pins σ (upd H2 D (.lst [])) s3 := by
    rw [← hs3]
    refine I2.laid (t' := s2.toks) (fun b o e => Heap.get?_push_of_some _ e) (Nat.le_of_eq hD) ⟨Nat.zero_le _, [], 0, .nil, ?_⟩
    rw [← hD]
    exact Heap.get?_push_size _ rfl
  have h3 : s3.heap = s2.heap.push { cls := .type "list", data := .seq ([] : List Value).toArray } := by rw [← hs3]
  have f3 : ∀ b ∈ fp, FpOk X pins (upd H2 D (.lst [])) b ∧ b < s3.heap.objs.size := fun b hb => by
    obtain ⟨o, e, _⟩ := T.obj _ _ st2 b hb
    have lt := Heap.lt_size e
    refine ⟨⟨(upd_ne (by rw [← hD]; exact Nat.ne_of_lt lt)).trans (f2 b hb).1, (f2 b hb).2⟩, ?_⟩
    rw [h3, Heap.size_push]
    exact Nat.lt_succ_of_lt lt
  have st3 : tn 0 s3.heap := T.keep _ _ _ st2 fun b _ o e => by rw [h3]; exact Heap.get?_push_of_some _ e
  have I4 := block_start I3 ok hN f3
  have blk : Blk X s3 (upd H2 D (.lst [])) fp := ⟨pins, σ, I3, fun b hb => (f3 b hb).1⟩
  have pg := hg s3 (upd H2 D (.lst [])) s3.heap.objs.size (cellsFrom (s3.heap.objs.size + 1) scope.names (cloFrom X.env.cells scope.names [])) fp
  have pt := ht s3 (upd H2 D (.lst [])) s3.heap.objs.size (cellsFrom (s3.heap.objs.size + 1) scope.names (cloFrom X.env.cells scope.names [])) fp
  have pe := he s3 (upd H2 D (.lst [])) s3.heap.objs.size (cellsFrom (s3.heap.objs.size + 1) scope.names (cloFrom X.env.cells scope.names [])) fp blk
  have sd := hsd s3 (upd H2 D (.lst [])) fp (compEnvC scope (cellsFrom (s3.heap.objs.size + 1) scope.names (cloFrom X.env.cells scope.names [])) s3.heap.objs.size X.env) blk
  show codeAny _ _ (.compStart (.ListComp elt [⟨tg, iter, ifs, 0⟩] scope pos) 0 (.ref it) (.ref D) (compEnvC scope (cellsFrom (s3.heap.objs.size + 1) scope.names (cloFrom X.env.cells scope.names [])) s3.heap.objs.size X.env)) (compPost (model X.prog X.w) X.A X.xe none Qf (.ref D) s3.heap.objs.size) { s3 with heap := pushCells (s3.heap.push { cls := .type "dict", data := .dict #[] }) scope.names }
  have nfp : ∀ b ∈ fp, (upd H2 D (.lst [])) b = none := fun b hb => (f3 b hb).1.1
  generalize hce : compEnvC scope (cellsFrom (s3.heap.objs.size + 1) scope.names (cloFrom X.env.cells scope.names [])) s3.heap.objs.size X.env = ce at I4 pg pt pe sd ⊢
  have cL : ce.locals = s3.heap.objs.size := by subst hce; rfl
  generalize hH3 : upd H2 D (.lst []) = H3 at I3 I4 pg pt pe sd w0 nfp f3
  generalize hs4 : ({ s3 with heap := pushCells (s3.heap.push { cls := .type "dict", data := .dict #[] }) scope.names } : Shared) = s4 at I4 ⊢
  have st4 : tn 0 s4.heap := T.keep _ _ _ st3 fun b _ o e => by rw [← hs4]; exact pushCells_keeps _ _ _ _ (Heap.get?_push_of_some _ e)
  have stat : ∀ {σ' : L2.St} {H' : Hp} {s' : Shared}, Inv (X.blk s3 H3 scope ce fp) [] σ' H' s' → (∀ b ∈ fp, H' b = none) → ∀ b ∈ fp, FpOk (X.blk s3 H3 scope ce fp) [] H' b := fun {σ' H' s'} J hn b hb =>
    ⟨hn b hb, (J.ok.exf b hb).1, J.ok.exfs b hb, .inl hb, fun x c e => (J.ok.exf b hb).2 x c e, fun p hp => absurd (show p ∈ ([] : List (Addr × Obj)) ++ [] from hp) (by simp)⟩
  have loop : codeAny (model X.prog X.w) X.A (.compLoop (.ListComp elt [⟨tg, iter, ifs, 0⟩] scope pos) 0 (.ref it) (.ref D) ce) (compPost (model X.prog X.w) X.A X.xe none Qf (.ref D) s3.heap.objs.size) s4 := by
    refine compLoop_any (fun n s' => ∃ i H', Inv (X.blk s3 H3 scope ce fp) [] (wipe σ (own.map (·.2))) H' s' ∧ tn i s'.heap ∧ (∀ b ∈ fp, H' b = none) ∧ W i n H') ?_ m0 ⟨0, H3, I4, st4, nfp, w0⟩
    rintro n s5 ⟨i, H5, I5, st5, n5, w5⟩
    rcases turn i n H5 w5 with ⟨stop, qq⟩ | ⟨go, Nx, hNx, step⟩
    · refine thnF (T.done (X.blk s3 H3 scope ce fp) rfl rfl rfl sd i [] s5 _ H5 (fun _ _ => False) I5 (stat I5 n5) st5 stop) fun r s6 hh => ?_
      obtain ⟨hr, I6⟩ := hh
      subst hr
      have I7 : Inv X pins σ H5 s6 := I3.call' (ch := fp) I6.os I6.base I6.hok I6.bare fun b hb => ⟨(f3 b hb).1.2.2.2.1, (f3 b hb).1.2.1, (f3 b hb).1.2.2.2.2.1, (f3 b hb).1.2.2.2.2.2⟩
      have nC : H5 s3.heap.objs.size = none := by rw [← cL]; exact I6.free
      obtain ⟨m, hn, _⟩ := I6.loc
      have hn : s6.heap.Ns ce.locals m := hn
      rw [cL] at hn
      exact fin D s3.heap.objs.size s6 m H5 I7 qq hn (I3.fpOk (Nat.le_refl _) nC)
    · refine thnF (T.item (X.blk s3 H3 scope ce fp) rfl rfl rfl i [] s5 _ H5 (fun _ _ => False) I5 (stat I5 n5) st5 go) fun r s6 hh => ?_
      obtain ⟨u, hr, h6⟩ := hh
      subst hr
      refine thnF h6 fun _ s7 hh7 => ?_
      obtain ⟨x, H7, I7, r7, y7, st7, n7⟩ := hh7
      have P7 := I7.pinned (stat I7 n7) (T.obj _ _ st7)
      refine thnF (pg.run _ s7 _ H7 x u _ P7 r7 (step x H7 y7)) fun _ s8 hh8 => ?_
      obtain ⟨σ8, H8, I8, hw8, q8⟩ := hh8
      refine thnF (pt.run _ s8 σ8 H8 _ I8 q8) fun b s9 hh9 => ?_
      obtain ⟨H9, I9, q9⟩ := hh9
      have again : ∀ {s' : Shared} {H' : Hp}, Inv (X.blk s3 H3 scope ce fp) ([] ++ pinsAt fp s7.heap) σ8 H' s' → Nx H' → ∃ m, m < n ∧ ∃ i H', Inv (X.blk s3 H3 scope ce fp) [] (wipe σ (own.map (·.2))) H' s' ∧ tn i s'.heap ∧ (∀ b ∈ fp, H' b = none) ∧ W i m H' := fun {s' H'} J nx => by
        obtain ⟨m', hm, w'⟩ := hNx H' nx
        have stays : ∀ b ∈ fp, ∀ o, s7.heap.get? b = some o → s'.heap.get? b = some o ∧ H' b = none := fun b hb o e => by
          have z := J.pin (b, o) (List.mem_append_right _ (List.mem_append_right _ (mem_pinsAt hb e)))
          exact ⟨z.1, z.2.1⟩
        refine ⟨m', hm, i + 1, H', (J.unpinned (pins := [])).weak (by rw [← hw8, wipe_length]) (fun j v e => ?_), T.keep _ _ _ st7 fun b hb o e => (stays b hb o e).1, fun b hb => ?_, w'⟩
        · rw [← hw8] at e
          exact (wipe_some e).1
        · obtain ⟨o, e, _⟩ := T.obj _ _ st7 b hb
          exact (stays b hb o e).2
      cases b with
      | false =>
        simp only [Bool.false_eq_true, if_false] at q9 ⊢
        exact again I9 q9
      | true =>
        simp only [if_true] at q9 ⊢
        refine thnF (pe.run _ s9 σ8 H9 _ I9 q9) fun z s10 hh10 => ?_
        obtain ⟨yv, H10, I10, r10, acc, hD10, hz10, nx⟩ := hh10
        exact app_ok (X := X.blk s3 H3 scope ce fp) I10 hD10 hz10 r10 fun s11 I11 => again I11 nx
  exact codeAny_compStart_list loop (T.self X.A 0 _ _ _ st4 loop)
theorem pe_lcS {elt iter : Expr} {ifs : List Expr} {scope : Scope} {own : List (Str × Nat)} {pos : Pos} {wi : TI} {g : TG} {tt : TT} {te : TE} (hsd : ∀ s H fp ce, Blk X s H fp → Sd (X.blk s H scope ce fp)) (hN : X.N.Nodup) (hi : PIS X tg iter wi) (ok : BlkOk X.N X.env.scope scope own)
    (hg : ∀ (s : Shared) (H : Hp) (C : Addr) (cl : List (Str × Addr)) (fp : List Addr), PG (X.blk s H scope (compEnvC scope cl C X.env) fp) tg g) (ht : ∀ (s : Shared) (H : Hp) (C : Addr) (cl : List (Str × Addr)) (fp : List Addr), PTs (X.blk s H scope (compEnvC scope cl C X.env) fp) ifs tt)
    (he : ∀ (s : Shared) (H : Hp) (C : Addr) (cl : List (Str × Addr)) (fp : List Addr), Blk X s H fp → PE (X.blk s H scope (compEnvC scope cl C X.env) fp) elt te) (hs : ∀ x, foldedSetIterable iter X.env x = pure x := by intro _; rfl) :
    PE X (.ListComp elt [⟨tg, iter, ifs, 0⟩] scope pos) (tLc wi g tt te (own.map (·.2))) := by
  constructor
  intro pins s σ H Q I h
  rw [eval_ListComp]
  refine lcSCore hsd hN I hi ok hg ht he hs h fun D C s' m H' J q hn f => ⟨m, hn, fun h'' sb => ?_⟩
  obtain ⟨f0, f1, f2, f3, f4, f5⟩ := f
  exact ⟨.ref D, H', J.turned (t' := s'.toks) (fun b o hb e => (sb.2 b hb).trans e) f0 f1 f3 f4 f5, rfl, q⟩
end
end U

namespace U
open PySem L2 PySem.Spec PyProof.Rows
/-! ### lambdas kept as values -/
structure LamD where
  q : Str
  params : Arguments
  body : Expr
  scope : Scope
  clo : List (Str × Addr)
/-- at f: the function object of such a lambda, its code object at c' -/
def LamO (f c' : Addr) (L : LamD) : HO := .ext fun h => ∃ pm ctv, h.get? f = some (PySem.W.kla_obj "<lambda>" L.q L.params L.body L.scope L.clo pm c' ctv)
def LamAt (H : Hp) (f : Addr) (L : LamD) : Prop := ∃ c', H f = some (LamO f c' L) ∧ H c' = some (LamX.CodeO c' L.q)
theorem LamAt.same {H H' : Hp} {f : Addr} {L : LamD} (x : LamAt H f L) (s : Same H H') : LamAt H' f L := by
  obtain ⟨c', h1, h2⟩ := x
  exact ⟨c', s _ _ h1, s _ _ h2⟩
theorem LamAt.but {H H' : Hp} {f : Addr} {L : LamD} (x : LamAt H f L) (s : ∀ b o, (∀ xs, o ≠ .lst xs) → (∀ ps, o ≠ .tbl ps) → H b = some o → H' b = some o) : LamAt H' f L := by
  obtain ⟨c', h1, h2⟩ := x
  refine ⟨c', s _ _ (fun xs z => ?_) (fun xs z => ?_) h1, s _ _ (fun xs z => ?_) (fun xs z => ?_) h2⟩ <;> (first | (unfold LamO at z; cases z) | (unfold LamX.CodeO at z; cases z))
theorem lamO_ok {P : Program} {w : World} {H : Hp} {h : Heap} {f c' : Addr} {L : LamD} {pm ctv : Value} (e : h.get? f = some (PySem.W.kla_obj "<lambda>" L.q L.params L.body L.scope L.clo pm c' ctv)) : ObjOk P w H h f (LamO f c' L) :=
  ⟨⟨pm, ctv, e⟩, ⟨_, e⟩, fun h1 h2 z k => by
    obtain ⟨a, b, q⟩ := z
    exact ⟨a, b, k _ q⟩⟩
/-- what the making of a lambda asks and leaves -/
def tLamE (T : List (Addr × Str)) (L : LamD) : TE := fun _ H Q => LamX.Tabs T H ∧ ∀ H1 f, LamX.ExtN H H1 → LamX.Tabs T H1 → H f = none → LamAt H1 f L → Q (.ref f) H1
theorem pe_lam {X : Cx} {T : List (Addr × Str)} {c P : Addr} {params : Arguments} {body : Expr} {scope : Scope} {pos : Pos} (TB : LamX.TabB X.base X.mg c P) (hcode : X.env.code = .ref c) (hm : (P, X.env.qual ++ "<lambda>") ∈ T) (hu : ∀ p ∈ T, p.1 = P → p.2 = X.env.qual ++ "<lambda>")
    (hdef : defaultsOf params X.env = ([], []) := by rfl) (S : LamX.LamS X.env.scope scope := by exact LamX.lamS_by (by decide +kernel)) :
    PE X (.Lambda params body scope pos) (tLamE T ⟨X.env.qual ++ "<lambda>", params, body, scope, cloFrom X.env.cells scope.names []⟩) := by
  constructor
  intro pins s σ H Q I h
  obtain ⟨hT, h⟩ := h
  obtain ⟨ps, hP, ht, ha⟩ := hT _ hm
  have hfree := S.has I.ok
  refine PySem.W.kla_eval hdef ?_
  have bP : s.heap.BuiltinsAt X.mg P := TB.bm.keeps I.bk
  have gP : s.heap.get? P = some { cls := .none, data := .fields ps } := I.hok P _ hP
  -- the object is laid and tracked
  have fin : ∀ {h' : Heap} {tk : Nat} {H1 : Hp} {c' : Addr} {ctv : Value}, Inv X pins σ H1 { s with heap := h', toks := tk } → s.heap.objs.size ≤ h'.objs.size → LamX.ExtN H H1 → LamX.Tabs T H1 → H1 c' = some (LamX.CodeO c' (X.env.qual ++ "<lambda>")) →
      EP X pins σ Q (.ref h'.objs.size) { s with heap := h'.push (PySem.W.kla_obj "<lambda>" (X.env.qual ++ "<lambda>") params body scope (cloFrom X.env.cells scope.names []) ((X.mg "__name__").getD .none) c' ctv), toks := tk } := by
    intro h' tk H1 c' ctv J sz ext tabs hc
    have new : H1 h'.objs.size = none := J.hok.fresh (Nat.le_refl _)
    have J2 := J.laid (t' := tk) (a := h'.objs.size) (o := LamO h'.objs.size c' ⟨X.env.qual ++ "<lambda>", params, body, scope, cloFrom X.env.cells scope.names []⟩) (h' := h'.push (PySem.W.kla_obj "<lambda>" (X.env.qual ++ "<lambda>") params body scope (cloFrom X.env.cells scope.names []) ((X.mg "__name__").getD .none) c' ctv))
      (fun b o e => Heap.get?_push_of_some _ e) (Nat.le_refl _) (lamO_ok (Heap.get?_push_size _ rfl))
    have up : ∀ b o, H1 b = some o → upd H1 h'.objs.size (LamO h'.objs.size c' ⟨X.env.qual ++ "<lambda>", params, body, scope, cloFrom X.env.cells scope.names []⟩) b = some o := fun b o e => (upd_ne (ne_of_none e new)).trans e
    refine ⟨.ref h'.objs.size, _, J2, rfl, h _ _ (fun b o e n => up b o (ext b o e n)) (tabs.ext up) (I.hok.fresh sz) ⟨c', upd_same, up _ _ hc⟩⟩
  cases hc : codeAmong pos ps.toList with
  | none =>
    refine PySem.W.kla_makeFunction (mg := X.mg) (c := c) (P := P) (ps := ps) (closure_ok hfree) I.ok.glob (I.mod.glob.keeps I.bk) hcode (TB.code.keeps I.bk) gP ht hc TB.gP bP fun c' ctv h' tk hx hge hlt hrec htb => ?_
    obtain ⟨c2, oc, vs, t, e2, hoc, hd, hv⟩ := hrec
    cases e2
    have nC : H c' = none := I.hok.fresh hge
    have J := LamX.inv_table (t' := tk) (more := #[rawInt pos.line, rawInt pos.col, .ref c']) (h' := h') I hP (fun b o hb e => hx b o hb e) htb hge ⟨oc, vs, t, hoc, hd, hv⟩
    have ext : LamX.ExtN H (upd (upd H P (.tbl (ps ++ #[rawInt pos.line, rawInt pos.col, .ref c']))) c' (LamX.CodeO c' (X.env.qual ++ "<lambda>"))) := fun b o e n => by
      rw [upd_ne (ne_of_none e nC), upd_ne (fun z => n ps (Option.some.inj (e.symm.trans (by rw [z]; exact hP))))]
      exact e
    have el : (ps ++ #[rawInt pos.line, rawInt pos.col, .ref c']).toList = ps.toList ++ [rawInt pos.line, rawInt pos.col, .ref c'] := by simp
    refine fin (c' := c') J (Nat.le_trans hge (Nat.le_of_lt hlt)) ext (fun p hp => ?_) upd_same
    by_cases hb : p.1 = P
    · rw [hu p hp hb, hb]
      refine ⟨_, by rw [upd_ne (ne_of_none hP nC), upd_same], by rw [el]; exact PySem.TriplesOk_snoc _ _ _ _ ht, fun p' cv hcv => ?_⟩
      rw [el] at hcv
      rcases LamX.among_app _ ht hcv with z | z
      · obtain ⟨c0, e1, e2⟩ := ha p' cv z
        exact ⟨c0, e1, ext _ _ e2 LamX.codeO_ne⟩
      · exact ⟨c', z, upd_same⟩
    · obtain ⟨ps', a1, a2, a3⟩ := hT p hp
      refine ⟨ps', (upd_ne (ne_of_none a1 nC)).trans ((upd_ne hb).trans a1), a2, fun p' cv hcv => ?_⟩
      obtain ⟨c0, e1, e2⟩ := a3 p' cv hcv
      exact ⟨c0, e1, ext _ _ e2 LamX.codeO_ne⟩
  | some cv =>
    obtain ⟨c', e, hco⟩ := ha pos cv hc
    subst e
    refine PySem.W.kla_makeFunctionHit (mg := X.mg) (c := c) (P := P) (ps := ps) (closure_ok hfree) I.ok.glob (I.mod.glob.keeps I.bk) hcode (TB.code.keeps I.bk) gP ht hc bP fun ctv h' tk hx hsz => ?_
    exact fin (c' := c') (tk := tk) (I.kept (t' := tk) hx) hsz (LamX.ExtN.refl H) hT hco
/-! ### called later: the cells that it reads stand -/
/-- these objects stand, out of the reach of what is tracked and of the frames that run -/
def Kept (B : List (Addr × Obj)) (outer : List Env) (s : Shared) (H : Hp) : Prop := ∀ p ∈ B, s.heap.get? p.1 = some p.2 ∧ H p.1 = none ∧ p.1 ∉ frs outer
/-- B has the cells of X, with what the slots hold -/
structure CellsIn (X : Cx) (σ : L2.St) (B : List (Addr × Obj)) : Prop where
  all : ∀ y c, X.env.cells.lookup y = some c → ∃ (o : Obj) (v : Option Value), (c, o) ∈ B ∧ o.data = .cell v
  slot : ∀ (i : Nat) (y : Str) (v : V) (c : Addr), X.N[i]? = some y → σ[i]? = some (some v) → Vis X.env.scope y → X.env.cells.lookup y = some c → X.env.kindOf y ≠ some .local → ∃ (o : Obj) (u : Value), (c, o) ∈ B ∧ o.data = .cell (some u) ∧ RelV v u
def mkCells (l : List (Str × Addr)) (h : Heap) : List (Addr × Obj) := l.filterMap fun p => (h.get? p.2).map fun o => (p.2, o)
theorem mem_mkCells {l : List (Str × Addr)} {h : Heap} {y : Str} {c : Addr} {o : Obj} (hm : (y, c) ∈ l) (e : h.get? c = some o) : (c, o) ∈ mkCells l h := List.mem_filterMap.mpr ⟨(y, c), hm, by show (h.get? c).map _ = _; rw [e]; rfl⟩
theorem of_mkCells {l : List (Str × Addr)} {h : Heap} {p : Addr × Obj} (hp : p ∈ mkCells l h) : ∃ y, (y, p.1) ∈ l ∧ h.get? p.1 = some p.2 := by
  obtain ⟨q, hq, e⟩ := List.mem_filterMap.mp hp
  cases z : h.get? q.2 with
  | none => rw [z] at e; cases e
  | some o =>
    rw [z] at e
    cases e
    exact ⟨q.1, hq, z⟩
section
variable {X : Cx} {pins : List (Addr × Obj)} {σ : L2.St} {H : Hp} {s : Shared}
theorem lookup_of_mem {l : List (Str × Addr)} (nd : (l.map (·.1)).Nodup) {y : Str} {c : Addr} (h : (y, c) ∈ l) : l.lookup y = some c := by
  induction l with
  | nil => cases h
  | cons p l ih =>
    obtain ⟨z, d⟩ := p
    rw [List.lookup_cons]
    rw [List.map_cons, List.nodup_cons] at nd
    rcases List.mem_cons.mp h with e | h
    · cases e
      simp
    · have ne : (y == z) = false := by
        refine Bool.eq_false_iff.mpr fun q => nd.1 ?_
        rw [← (beq_iff_eq.mp q : y = z)]
        exact List.mem_map_of_mem (f := (·.1)) h
      rw [ne]
      exact ih nd.2 h
theorem cells_in (I : Inv X pins σ H s) : CellsIn X σ (mkCells X.env.cells s.heap) := by
  refine ⟨fun y c e => ?_, fun i y v c e1 e2 e3 e4 nl => ?_⟩
  · obtain ⟨v, o, ho, hd⟩ := I.cell y c e
    exact ⟨o, v, mem_mkCells (PySem.mem_of_lookup e) ho, hd⟩
  · obtain ⟨m, hn, hl⟩ := I.loc
    obtain ⟨u, r, lk⟩ := hl i y v e1 e2 e3
    rcases lk with ⟨k, _⟩ | ⟨_, c', e', o, ho, hd⟩
    · exact absurd k nl
    · rw [e4] at e'
      cases e'
      exact ⟨o, u, mem_mkCells (PySem.mem_of_lookup e4) ho, hd, r⟩
theorem cells_kept (I : Inv X pins σ H s) (nd : (X.env.cells.map (·.1)).Nodup) (hf : ∀ y c, X.env.cells.lookup y = some c → X.s_0.heap.objs.size ≤ c) : Kept (mkCells X.env.cells s.heap) X.stack s H := fun p hp => by
  obtain ⟨y, hy, e⟩ := of_mkCells hp
  have lk := lookup_of_mem nd hy
  refine ⟨e, I.freeC y _ lk, fun hs => ?_⟩
  rcases List.mem_cons.mp (I.stkSub _ hs) with z | z
  · exact I.cne y _ lk z
  · obtain ⟨_, o, ho, _⟩ := I.ok.funs.mem z
    exact absurd (Nat.lt_of_lt_of_le (Heap.lt_size ho) (hf y _ lk)) (Nat.lt_irrefl _)
/-- within a def, and within a block of it, they still stand -/
def KeptX (B : List (Addr × Obj)) (X : Cx) : Prop := ∀ (pins : List (Addr × Obj)) (σ : L2.St) (H : Hp) (s : Shared), Inv X pins σ H s → Kept B X.stack s H
theorem kept_def {B : List (Addr × Obj)} (k : Kept B X.outer X.s_0 X.H_0) (hex : X.ex = []) (hs : X.stack = X.env :: X.outer) : KeptX B X := fun pins σ H s I p hp => by
  obtain ⟨e, n, nf⟩ := k p hp
  have no : p.1 ∉ X.ex := by rw [hex]; simp
  refine ⟨I.base.keep p.1 p.2 e n nf no, I.base.free p.1 p.2 e n no, fun hm => ?_⟩
  rcases List.mem_cons.mp (I.stkSub _ hm) with z | z
  · have h1 := I.ok.above
    rw [← z] at h1
    exact absurd (Nat.lt_of_lt_of_le (Heap.lt_size e) h1) (Nat.lt_irrefl _)
  · exact nf z
theorem kept_blk {B : List (Addr × Obj)} {s1 : Shared} {H1 : Hp} {scope : Scope} {ce : Env} {fp : List Addr} (k : KeptX B X) (k0 : Kept B X.outer X.s_0 X.H_0) (hex : X.ex = []) (b : Blk X s1 H1 fp) : KeptX B (X.blk s1 H1 scope ce fp) := fun pins σ H s J p hp => by
  obtain ⟨pn, τ, I, hf⟩ := b
  obtain ⟨e, n, nf⟩ := k pn τ H1 s1 I p hp
  have no : p.1 ∉ fp := fun hx => by
    rcases (hf p.1 hx).2.2.2.1 with z | z
    · rw [hex] at z; cases z
    · exact absurd (Nat.lt_of_lt_of_le (Heap.lt_size (k0 p hp).1) z) (Nat.lt_irrefl _)
  exact ⟨J.base.keep p.1 p.2 e n nf no, J.base.free p.1 p.2 e n no, nf⟩
end
end U

namespace U
open PySem L2 PySem.Spec PyProof.Rows
/-! ### how a call ends: told, or an error of the package with what it keeps -/
inductive Oc
  | told (z : Str)
  | bad (i : Nat) (z : Str)
def fX (k : Nat) : Str := if k = 6 ∨ k = 7 ∨ k = 8 ∨ k = 9 ∨ k = 10 ∨ k = 11 ∨ k = 17 then "index" else "given"
def ocP (K : PySem.W.Frag) (c : Nat → Addr) : Oc → XK → Hp → VK → Prop
  | .told z, _, H, Q => ∀ v H', Same H H' → Vw K H' v z → Q v H'
  | .bad i z, E, H, _ => ∀ d y H', Same H H' → H' d = some (.xd [(fX i, y)]) → Vw K H' y z → E (.ref (c i)) (some d) H'
/-- what stands at f may be called so -/
structure Act (P : Program) (w : World) (K : PySem.W.Frag) (mg : Str → Option Value) (base : Heap) (c : Nat → Addr) (k : Nat) (B : List (Addr × Obj)) (H0 : Hp) (f : Addr) (oc : Oc) : Prop where
  lam : ∃ L, LamAt H0 f L
  run : ∀ (A : Around) (outer : List Env) (s : Shared) (H : Hp) (Q : VK) (E : XK), A.guards = some [] → Room k A → Env0 P w K mg base A outer s H → Kept B outer s H → Same H0 H → ocP K c oc E H Q →
    codeAny (model P w) A (.call (.ref f) ⟨[], []⟩) (CR (L2N.CX P w) outer P w H s Q E) s
theorem Act.same {P : Program} {w : World} {K : PySem.W.Frag} {mg : Str → Option Value} {base : Heap} {c : Nat → Addr} {k : Nat} {B : List (Addr × Obj)} {H0 H1 : Hp} {f : Addr} {oc : Oc} (x : Act P w K mg base c k B H0 f oc) (s : Same H0 H1) : Act P w K mg base c k B H1 f oc := by
  obtain ⟨⟨L, h⟩, r⟩ := x
  exact ⟨⟨L, h.same s⟩, fun A outer s' H Q E hg hr e0 hk sm h => r A outer s' H Q E hg hr e0 hk (s.trans sm) h⟩
/-! ### the lambda's body, entered later -/
abbrev lamEnvN (L : LamD) (l f c' : Addr) : Env := PySem.W.envX L.q L.scope l f (.ref c') L.clo
def lamCxN (X : Cx) (A : Around) (outer : List Env) (s : Shared) (H : Hp) (E : XK) (L : LamD) (f c' : Addr) : Cx where
  prog := X.prog
  w := X.w
  K := X.K
  mg := X.mg
  base := X.base
  A := A.deeper (lamEnvN L s.heap.objs.size f c')
  N := X.N
  s_0 := s
  H_0 := H
  env := lamEnvN L s.heap.objs.size f c'
  outer := outer
  stack := lamEnvN L s.heap.objs.size f c' :: outer
  ex := []
  fn := fun _ => false
  calm := true
  pn := []
  xe := fun e s' => wpAny (model X.prog X.w) (A.deeper (lamEnvN L s.heap.objs.size f c')) (leaving (lamEnvN L s.heap.objs.size f c') e) (fun _ s'' => L2N.CX X.prog X.w outer H s E e s'') (fun e' s'' => L2N.CX X.prog X.w outer H s E e' s'') s'
/-- what is known of a lambda written in the def of X -/
structure LamSpec (X : Cx) (k : Nat) (L : LamD) (tb : XK → TE) : Prop where
  q : L.clo = cloFrom X.env.cells L.scope.names []
  S : LamX.LamS X.env.scope L.scope
  bind : ∀ pm cv ctv, bindArgs (PySem.W.kla_fn "<lambda>" L.q L.params L.body L.scope L.clo pm cv ctv) ⟨[], []⟩ = pure []
  body : ∀ (A : Around) (outer : List Env) (s : Shared) (H : Hp) (E : XK) (f c' : Addr), (A.deeper (lamEnvN L s.heap.objs.size f c')).guards = some [] → Room k (A.deeper (lamEnvN L s.heap.objs.size f c')) → PE (lamCxN X A outer s H E L f c') L.body (tb E)
section
variable {X : Cx} {pins : List (Addr × Obj)} {σ : L2.St} {H HZ : Hp} {s s1 : Shared}
theorem clo_of {L : LamD} (q : L.clo = cloFrom X.env.cells L.scope.names []) (S : LamX.LamS X.env.scope L.scope) (ok : X.Ok) {y : Str} {c : Addr} (e : L.clo.lookup y = some c) : X.env.cells.lookup y = some c := by
  rw [q] at e
  rcases cloFrom_mem (PySem.mem_of_lookup e) with hm | ⟨h1, h2⟩
  · cases hm
  · obtain ⟨c1, hc⟩ := S.has ok _ h1 rfl
    have hc : X.env.cells.lookup y = some c1 := hc
    have e2 : c = c1 := by
      rw [h2, hc] <;> rfl
    rw [e2]
    exact hc
theorem lamStart {A : Around} {outer : List Env} {E : XK} {L : LamD} {f c' : Addr} {B : List (Addr × Obj)} {h₁ : Heap} {tk : Nat} (ok : X.Ok) (len : σ.length = X.N.length) (q : L.clo = cloFrom X.env.cells L.scope.names []) (S : LamX.LamS X.env.scope L.scope) (e0 : Env0 X.prog X.w X.K X.mg X.base A outer s1 HZ)
    (hd : A.handled = none) (ci : CellsIn X σ B) (kp : Kept B outer s1 HZ) (hns : h₁.Ns s1.heap.objs.size fun y => ([] : List (Str × Value)).reverse.lookup y) (up : ∀ b o, s1.heap.get? b = some o → h₁.get? b = some o) :
    Inv (lamCxN X A outer s1 HZ E L f c') [] σ HZ { s1 with heap := h₁, toks := tk } := by
  have free_ : ∀ y ∈ L.scope.names, y.2 = .free → ∃ c, X.env.cells.lookup y.1 = some c := S.has ok
  have back : ∀ {y c}, L.clo.lookup y = some c → X.env.cells.lookup y = some c := fun e => clo_of q S ok e
  have look : ∀ {y}, L.scope.names.lookup y = some .free → ∃ c, L.clo.lookup y = some c := fun {y} hl => by
    have hy : (y, NameKind.free) ∈ L.scope.names := PySem.mem_of_lookup hl
    rw [q]
    exact mem_lookup (cloFrom_has (cells := X.env.cells) (acc := []) hy)
  have none_ : ∀ b : Addr, b ∉ (lamCxN X A outer s1 HZ E L f c').ex := fun b z => absurd (show b ∈ ([] : List Addr) from z) (by simp)
  refine ⟨⟨e0.mod, S.kind, rfl, rfl, Nat.le_refl _, fun y z c a b => ok.inj y z c (back a) (back b), fun y hy => ?_, fun y c z _ => ?_, fun _ => hd, Around.frames_deeper e0.frames, .inr ⟨rfl, rfl⟩, fun b z => absurd z (none_ b), e0.bs, e0.bsz, fun b _ _ => none_ b,
      fun b z => absurd z (none_ b), e0.funs, e0.frf⟩, rfl, e0.bare, Un.kept up, ⟨_, hns, fun i y v a b vis => ?_⟩, fun y c e => ?_, e0.hok.fresh (Nat.le_refl _), fun y c e => ?_, fun p hp => absurd (show p ∈ ([] : List (Addr × Obj)) ++ [] from hp) (by simp), e0.hok.kept up, len⟩
  · have hy : L.scope.names.lookup y = some .cell ∨ L.scope.names.lookup y = some .free := hy
    rcases hy with hy | hy
    · exact absurd rfl (S.own _ (PySem.mem_of_lookup hy)).2
    · exact look hy
  · have z : false = true := z
    cases z
  · have vis : Vis L.scope y := vis
    rcases vis with k | k | k
    · exact absurd rfl (S.own _ (PySem.mem_of_lookup k)).1
    · exact absurd rfl (S.own _ (PySem.mem_of_lookup k)).2
    · obtain ⟨c2, h2⟩ := look k
      have c1 := back h2
      have kinds := S.free _ (PySem.mem_of_lookup k) rfl
      have hvis : Vis X.env.scope y := kinds.elim (fun k => .inr (.inl k)) (fun k => .inr (.inr k))
      have nl : X.env.kindOf y ≠ some .local := fun z => by
        have z : X.env.scope.names.lookup y = some .local := z
        rcases kinds with k2 | k2 <;> rw [show X.env.scope.names.lookup y = _ from k2] at z <;> cases z
      obtain ⟨o, u, hm, hd', ru⟩ := ci.slot i y v c2 a b hvis c1 nl
      exact ⟨u, ru, .inr ⟨.inr k, c2, h2, o, up _ _ (kp _ hm).1, hd'⟩⟩
  · obtain ⟨o, v, hm, hd'⟩ := ci.all y c (back e)
    exact ⟨v, o, up _ _ (kp _ hm).1, hd'⟩
  · obtain ⟨o, v, hm, _⟩ := ci.all y c (back e)
    exact (kp _ hm).2.1
/-- a lambda of the def of X, as X stands now, may be called later -/
theorem act_of {c : Nat → Addr} {k : Nat} {L : LamD} {tb : XK → TE} {f : Addr} {oc : Oc} (Z : LamSpec X k L tb) (I : Inv X pins σ H s) (x : LamAt H f L) (h : ∀ E HZ Q, Same H HZ → ocP X.K c oc E HZ Q → tb E σ HZ Q) :
    Act X.prog X.w X.K X.mg X.base c (k + 1) (mkCells X.env.cells s.heap) H f oc := by
  refine ⟨⟨L, x⟩, fun A outer s1 HZ Q E hg hr e0 kp sm hoc => ?_⟩
  obtain ⟨c', x1, x2⟩ := x.same sm
  have ho : ObjOk X.prog X.w HZ s1.heap f (.ext fun h => ∃ pm ctv, h.get? f = some (PySem.W.kla_obj "<lambda>" L.q L.params L.body L.scope L.clo pm c' ctv)) := e0.hok f _ x1
  obtain ⟨⟨pm, ctv, of1⟩, _, _⟩ := ho
  have hc : ObjOk X.prog X.w HZ s1.heap c' (.ext fun h => ∃ (oc : Obj) (vs : Array Value) (t : Tok), h.get? c' = some oc ∧ oc.data = .fields vs ∧ vs[1]? = some (.str L.q t)) := e0.hok c' _ x2
  obtain ⟨⟨oo, vs, t, hoc', hdc, hvc⟩, _, _⟩ := hc
  have lim : s1.heap.NoLimit := e0.mod.nolimit.keeps fun b o e => (e0.bs b o e).1
  refine PySem.W.kla_callFunE hr.depth of1 rfl Z.S.co Z.S.gen rfl ⟨c', oo, vs, t, rfl, hoc', hdc, hvc⟩ ?_
  rw [Z.bind]
  refine wpAny_pure (wpAny_newFunctionEnv (fun y hy => (Z.S.own y hy).2) (fun y hy => absurd hy (by simp)) (fun h₁ hns hsb => ⟨lim.fresh _ hsb, ?_⟩) Z.S.kind)
  show codeAny _ _ (.expr L.body (lamEnvN L s1.heap.objs.size f c')) _ _
  have up : ∀ b o, s1.heap.get? b = some o → h₁.get? b = some o := fun b o e => hsb.extBut b o (Nat.ne_of_lt (Heap.lt_size e)) (Heap.get?_push_of_some _ e)
  have J := lamStart (E := E) (L := L) (f := f) (c' := c') (tk := s1.toks + ([] : List (Str × Value)).length) I.ok I.len Z.q Z.S e0 hr.hd (cells_in I) kp hns up
  refine PySem.W.kla_codeExpr (wpAny_mono ((Z.body A outer s1 HZ E f c' hg (hr.deeper _)).run [] _ _ HZ Q J (h E HZ Q sm hoc)) (fun v s' hq => ?_) fun e s' hq => hq)
  obtain ⟨w', H', J', rv, qq⟩ := hq
  exact ⟨w', H', J'.os, J'.bare, J'.base, J'.hok, rv, qq⟩
end
/-- x(), x a local name that holds such a thing -/
def tAct (P : Program) (w : World) (K : PySem.W.Frag) (mg : Str → Option Value) (base : Heap) (c : Nat → Addr) (k i : Nat) (B : List (Addr × Obj)) (E : L2.St → XK) : TE := fun σ H Q => ∃ f oc, σ[i]? = some (some (.ref f)) ∧ Act P w K mg base c k B H f oc ∧ ocP K c oc (E σ) H Q
theorem pe_actN {X : Cx} {c : Nat → Addr} {k j i : Nat} {B : List (Addr × Obj)} {E : L2.St → XK} {a : Str} {p1 p2 : Pos} (kx : KeptX B X) (hg : X.A.guards = some []) (hr : Room j X.A) (hk : k ≤ j) (hx : ∀ σ, PassesAt (L2N.CX X.prog X.w) X σ (E σ)) (hN : X.N[i]? = some a) (hv : Vis X.env.scope a)
    (hd : (a == ("__debug__" : Str)) = false := by decide) (hcd : (a == ("__classdict__" : Str)) = false := by decide) : PE X (.Call (.Name a p1) [] [] p2) (tAct X.prog X.w X.K X.mg X.base c k i B E) := by
  constructor
  intro pins s σ H Q I h
  obtain ⟨f, oc, hs, hA, hoc⟩ := h
  refine wpAny_Call_Name_kw (thn ((pe_var (pos := p1) (i := i) hN hv hd hcd).run pins s σ H (fun v H1 => v = .ref f ∧ H1 = H) I ⟨.ref f, hs, rfl, rfl⟩) fun u s1 hh => ?_)
  obtain ⟨v, H1, I1, r1, ev, eH⟩ := hh
  subst ev
  subst eH
  obtain rfl : u = Value.ref f := r1
  obtain ⟨L, c', x1, x2⟩ := hA.lam
  have ho : ObjOk X.prog X.w H1 s1.heap f (.ext fun h => ∃ pm ctv, h.get? f = some (PySem.W.kla_obj "<lambda>" L.q L.params L.body L.scope L.clo pm c' ctv)) := I1.hok f _ x1
  obtain ⟨⟨pm, ctv, of1⟩, _, _⟩ := ho
  refine PySem.W.callWith_F0 ⟨_, _, _, _, of1⟩ ?_
  refine wpAny_call (codeAny_mono (hA.run X.A X.stack s1 H1 Q (E σ) hg (hr.mono hk) I1.env0 (kx pins σ H1 s1 I1) (Same.refl _) hoc) fun r s' hq => ?_)
  cases r with
  | error e => exact hx σ pins H1 s1 e s' I1 hq
  | ok fl =>
    cases fl with
    | ret u => exact I1.after hq
    | next => exact (show False from hq).elim
    | brk => exact (show False from hq).elim
    | cont => exact (show False from hq).elim
end U

namespace U
open PySem L2 PySem.Spec PyProof.Rows
/-! ### raise C(e): an own class of the package, its context None -/
theorem xbRaises {X : Cx} {C : Addr} (T : XB X.K C) : Raises X (.ref C) := raises_own T.isBase T.ty
section
variable {X : Cx} {pins : List (Addr × Obj)} {σ : L2.St} {H : Hp} {s : Shared} {C : Addr} {f x : Str} {y : V} {u : Value} {Q : XK}
theorem run_newR (T : XN X.prog X.w X.K X.mg X.base x C f) (hr : Room 2 X.A) (I : Inv X pins σ H s) (ry : RelV y u) (h : ∀ d H', Same H H' → H' d = some (.xd [(f, y)]) → Q (.ref C) (some d) H') :
    wpAny (model X.prog X.w) X.A (call (.ref C) [u]) (L2N.MkP X pins σ Q) X.xe s := by
  obtain ⟨fI, fd, hi, ht, F1, hb, hkb⟩ := T.ex
  obtain ⟨B, newId, initId, bmB, nm, q, N, bs, bm, sn, sub, ab, col, dd, k0, k1, k2, k3, k5, F, SF, lk, tl⟩ := T.b.ex
  obtain ⟨hp, g, dr, tk, os⟩ := s
  have hsz : hp.objs.size ≤ hp.objs.size + 1 := Nat.le_succ _
  have fr : H (hp.objs.size + 1) = none := I.hok.fresh hsz
  have grow : ∀ b o, hp.get? b = some o → ((hp.push (PySem.W.kdv_tup [u])).push (PySem.HandSPX.excO C hp.objs.size)).get? b = some o := fun b o e => Heap.get?_push_of_some _ (Heap.get?_push_of_some _ e)
  have new : ((hp.push (PySem.W.kdv_tup [u])).push (PySem.HandSPX.excO C hp.objs.size)).get? (hp.objs.size + 1) = some (PySem.HandSPX.excO C hp.objs.size) := by heap_get
  have I2 : Inv X pins σ (upd H (hp.objs.size + 1) (exo (hp.objs.size + 1) C none)) ⟨(hp.push (PySem.W.kdv_tup [u])).push (PySem.HandSPX.excO C hp.objs.size), g, dr, tk, os⟩ :=
    I.laid (t' := tk) (a := hp.objs.size + 1) (o := exo (hp.objs.size + 1) C none) (h' := (hp.push (PySem.W.kdv_tup [u])).push (PySem.HandSPX.excO C hp.objs.size)) grow hsz (exo_ok new)
  have prom : spXI X.K f [.ref (hp.objs.size + 1), y] (upd H (hp.objs.size + 1) (exo (hp.objs.size + 1) C none)) (fun v H2 => v = .non ∧ ∃ dx, H dx = none ∧ dx ≠ hp.objs.size + 1 ∧ H2 = upd (upd (upd H (hp.objs.size + 1) (exo (hp.objs.size + 1) C none)) dx (exd dx [(f, y)])) (hp.objs.size + 1) (exo (hp.objs.size + 1) C (some dx))) E0 := by
    refine ⟨_, C, y, rfl, T.b, T.no, upd_same, fun dx n ne => ⟨rfl, dx, ?_, ne, rfl⟩⟩
    rw [upd_ne ne] at n
    exact n
  have r2 : Vals [V.ref (hp.objs.size + 1), y] [Value.ref (hp.objs.size + 1), u] := .cons (show RelV (V.ref _) (Value.ref _) from rfl) (.cons ry .nil)
  have bd : BindsTo ⟨(hp.push (PySem.W.kdv_tup [u])).push (PySem.HandSPX.excO C hp.objs.size), g, dr, tk, os⟩ fd ⟨.ref (hp.objs.size + 1) :: [u], []⟩ ((["self", f] : List Str).zip [Value.ref (hp.objs.size + 1), u]) := hb _ [Value.ref (hp.objs.size + 1), u] I2.kIn rfl
  refine wpAny_call (callOwnK F (fun Y => PySem.W.excTail_contains Y bm tl) (I.kIn _ _ lk) (PySem.W.looks_findIn I.kIn hi) (fun self => PySem.W.bind_fn I.kIn self ht) (by show 1 ≤ sizeLine; decide)
    (codeAny_mono (F1.run _ X.stack _ _ ⟨.ref (hp.objs.size + 1) :: [u], []⟩ [Value.ref (hp.objs.size + 1), u] _ _ E0 (hr.make C [u] []) (I2.env0.make C [u] []) bd r2 prom) fun r s' hq => ?_))
  cases r with
  | error e => exact (show False from hq).elim
  | ok fl =>
    cases fl with
    | ret v =>
      obtain ⟨w', H2, os2, bare2, un2, hok2, rv, ev, dx, nd, ne, eH⟩ := hq
      subst ev
      subst eH
      cases rv
      obtain ⟨h2, g2, d2, t2, os'⟩ := s'
      obtain ⟨t0, G, J, kG, ge, hoe, na⟩ := mk_end0 (d2 := d2) (t2 := t2) I hsz grow un2 hok2 os2 bare2 upd_same (show _ = some (exd dx [(f, y)]) from by rw [upd_ne ne, upd_same]) nd
      refine ⟨rfl, hp.objs.size + 1, _, _, ⟨G, g2, d2, t2, os'⟩, _, .ref C, some dx, rfl, J, kG, ge, hoe, ⟨rfl, rfl, fun vs hv => ?_⟩, rfl, rfl, na, rfl, bare2, xbRaises T.b, h dx _ (fun b o e => ?_) upd_same⟩
      · cases hv
        rfl
      · rw [upd_ne (ne_of_none e nd), del_ne (ne_of_none e fr), upd_ne (ne_of_none e fr), upd_ne (ne_of_none e nd), upd_ne (ne_of_none e fr)]
        exact e
    | next => exact (show False from hq).elim
    | brk => exact (show False from hq).elim
    | cont => exact (show False from hq).elim
def tNewR (C : Addr) (f : Str) (te : TE) : L2.St → Hp → XK → Prop := fun σ H Q => te σ H fun y H1 => ∀ d H', Same H1 H' → H' d = some (.xd [(f, y)]) → Q (.ref C) (some d) H'
theorem pmk_newR {e : Expr} {ta : TE} {p pos : Pos} {j : Nat} (T : XN X.prog X.w X.K X.mg X.base x C f) (hr : Room j X.A) (hk : 2 ≤ j) (he : PE X e ta) (hg : Gl X x := by rfl) (hs : starEach [e] X.env = (false, eval e X.env) :: starEach [] X.env := by rfl) (hdb : (x == ("__debug__" : Str)) = false := by decide) :
    L2N.PMk X (.Call (.Name x p) [e] [] pos) (tNewR C f ta) := by
  intro pins s σ H Q I h
  refine wpAny_Call_Name_kw (ld_glob I hg T.g ?_ hdb)
  refine PySem.W.callWith_K (h₀ := X.base) I.ok.mod.kin T.b.kC ?_ hs (by rfl)
  rw [hs]
  show wpAny _ _ (spliced ((false, eval e X.env) :: backTo pos (starEach [] X.env))) _ _ s
  refine Calls.spliced_cons (thn (he.run pins s σ H _ I h) fun u s1 hh => ?_)
  obtain ⟨y, H1, I1, r1, q1⟩ := hh
  exact Calls.spliced_nil ⟨I1.kIn, run_newR T (hr.mono hk) I1 r1 q1⟩
/-- as a statement -/
theorem ps_raiseN {e : Expr} {ta : TE} {W : WX} {p pos pos2 : Pos} {j : Nat} (tk : L2N.Takes X W) (T : XN X.prog X.w X.K X.mg X.base x C f) (hr : Room j X.A) (hk : 2 ≤ j) (he : PE X e ta) (hc : X.calm = true := by rfl) (hg : Gl X x := by rfl) (hs : starEach [e] X.env = (false, eval e X.env) :: starEach [] X.env := by rfl) (hdb : (x == ("__debug__" : Str)) = false := by decide) :
    PS X (.Raise (some (.Call (.Name x p) [e] [] pos)) none pos2) (fun _ σ H => tNewR C f ta σ H fun cls d H' => W cls d σ H') := L2N.ps_raise hc tk (pmk_newR T hr hk he hg hs hdb)
end
/-- a def that may raise, nothing being handled -/
theorem Fun.okN {P : Program} {w : World} {K : PySem.W.Frag} {mg : Str → Option Value} {base : Heap} {x qual : Str} {st : Stmt} {f : Addr} {fd : FuncData} {N ps : List Str} {k : Nat} {sp : Sp} (F : Fun K x qual st f fd) (S : FnScope N ps (defScope st)) (len : ∀ vs H Q E, sp vs H Q E → vs.length = ps.length)
    (hbody : ∀ (cdv : Value) (A : Around) (outer : List Env) (s : Shared) (H : Hp) (vs : List V) (Q : VK) (E : XK), Room k (A.deeper (envOfC qual (defScope st) s.heap.objs.size f cdv)) → sp vs H Q E →
      ∃ t, PSs (cxOf (L2N.CX P w) P w K mg base N qual (defScope st) f cdv A outer s H E) (defBody st) t ∧ t { nx := fun _ H' => Q .non H', rt := Q } (start N vs) H) : FnOk P w K mg base (L2N.CX P w) (k + 1) f fd ps sp := by
  obtain ⟨oc, od, kV, doc, pm, an, cdv, ct, osl, rfl, lk, hcd⟩ := F.ex
  exact fn_of lk hcd S len fun A outer s H vs Q E hr hsp => hbody cdv A outer s H vs Q E hr hsp
/-- what the context of such a def lets out -/
theorem takesN {P : Program} {w : World} {K : PySem.W.Frag} {mg : Str → Option Value} {base : Heap} {N : List Str} {qual : Str} {scope : Scope} {f : Addr} {cdv : Value} {A : Around} {outer : List Env} {s : Shared} {H : Hp} {E : XK} :
    L2N.Takes (cxOf (L2N.CX P w) P w K mg base N qual scope f cdv A outer s H E) (fun cls d _ H => E cls d H) := L2N.takes_of rfl rfl rfl rfl
theorem passN {X : Cx} {E : XK} (tk : L2N.Takes X (fun cls d _ H => E cls d H)) : Passes (L2N.CX X.prog X.w) X E := fun _ σ _ _ e s' I c => tk e s' (L2N.XE.of_call I (fun cls d H' h => h) c)
/-- a def that raises nothing, where others may -/
theorem FnOk.toN {P : Program} {w : World} {K : PySem.W.Frag} {mg : Str → Option Value} {base : Heap} {k : Nat} {f : Addr} {fd : FuncData} {ps : List Str} {sp : Sp} (F : FnOk P w K mg base CX0 k f fd ps sp) : FnOk P w K mg base (L2N.CX P w) k f fd ps sp :=
  ⟨F.len, fun A outer s H args us vs Q E hr e0 hb r h => codeAny_mono (F.run A outer s H args us vs Q E hr e0 hb r h) fun rr s' hq => by
    cases rr with
    | error e => exact (show False from hq).elim
    | ok fl => cases fl <;> exact hq⟩
end U

namespace U
open PySem L2 PySem.Spec PyProof.Rows
/-! ### except (A, B, C) as n: the exception is one of the three -/
def wAs3N (K : PySem.W.Frag) (c1 c2 c3 : Value) (i : Nat) (ts : Addr → Value → Option Addr → TS) (D : Ends) : WX := fun cls d σ H => PySem.W.exmAny K cls [c1, c2, c3] = some true ∧ ∀ a, H a = none →
  ts a cls d { nx := fun τ G => D.nx (τ.set i none) G, rt := D.rt, bk := fun τ G => D.bk (τ.set i none) G, ct := fun τ G => D.ct (τ.set i none) G } (σ.set i (some (.ref a))) H
theorem flying_onN {B : Heap} {l : List Env} {a : Addr} {Z : Obj → Prop} {h h' : Heap} (k : ∀ b o, h.get? b = some o → h'.get? b = some o) (f : HandSPX.FlyingZ B l a Z h) : HandSPX.FlyingZ B l a Z h' := by
  obtain ⟨g1, g2, g3, oe, vs, T, oT, ts, e1, z, d, v1, bT, nT, eT, dT, v3⟩ := f
  exact ⟨fun b o e => k b o (g1 b o e), g2, g3.of_keeps fun b o e _ => ⟨o, k b o e, rfl⟩, oe, vs, T, oT, ts, k _ _ e1, z, d, v1, bT, nT, k _ _ eT, dT, v3⟩
section
variable {X : Cx} {x1 x2 x3 n : Str} {c1 c2 c3 : Value} {i kk : Nat} {body suite : List Stmt} {b₀ : Stmt} {p1 p2 p3 pt pos pos' : Pos} {tb : WX → TS} {ts : Addr → Value → Option Addr → TS}
theorem ps_try_as3N (hs : X.stack = X.env :: X.outer) (hf : X.env.frame = some X.env.locals) (hN : X.N.Nodup) (hi : X.N[i]? = some n) (hln : X.env.kindOf n = some .local) (q1 : Names X x1 c1) (q2 : Names X x2 c2) (q3 : Names X x3 c3)
    (hb : ∀ (W : WX) (pn : List (Addr × Obj)) (xe : Value → Shared → Prop), L2N.Takes (X.tr pn xe) W → PassesOwn (model X.prog X.w) X.A X.env xe → PSs (X.tr pn xe) body (tb W))
    (hsu : ∀ (a : Addr) (oe : Obj) (cls : Value) (d : Option Addr) (pn : List (Addr × Obj)), L2N.Zn cls d oe → (∃ vs, oe.data = .fields vs) → PSs (X.suite a ((a, oe) :: pn)) (b₀ :: suite) (ts a cls d)) :
    PS X (.Try body [.ExceptHandler (some (.Tuple [.Name x1 p1, .Name x2 p2, .Name x3 p3] kk pt)) (some n) (b₀ :: suite) pos'] [] [] pos) (fun D σ H => tb (wAs3N X.K c1 c2 c3 i ts D) D σ H) := by
  constructor
  intro pins s σ H D I h
  have ok := I.ok
  have frm : X.A.frames = some (X.env :: X.outer) := by rw [ok.frames, hs]
  refine wpAny_Try_except ?_
  refine wpAny_mono ((hb (wAs3N X.K c1 c2 c3 i ts D) (X.pn ++ pins) (fun e s₁ => wpAny (model X.prog X.w) X.A (noteFrame e X.env) (fun _ s₂ => wpAny (model X.prog X.w) X.A (setFlight e none) (fun _ s₃ =>
    wpAny (model X.prog X.w) X.A (handleBy e X.env [.ExceptHandler (some (.Tuple [.Name x1 p1, .Name x2 p2, .Name x3 p3] kk pt)) (some n) (b₀ :: suite) pos']) (SP X pins D) X.xe s₃) X.xe s₂) X.xe s₁) (fun u s' xx => ?_) PassesOwn.looking).run [] s σ H D (I.toTry _) h) (fun f s1 hsp => ?_) (fun e s1 he => he)
  · obtain ⟨a, B, sI, pins', τ, G, cls, d, rfl, J0, nb, up, sky, na, os, ag, any, suit⟩ := xx
    have J : Inv X pins τ G sI := J0.ofTry ok
    rw [show (X.tr (X.pn ++ pins) _).stack = X.env :: X.outer from hs] at sky
    show wpAny _ _ (noteFrame (.ref a) X.env) _ _ _
    refine L2N.Sky.land L2N.Zn.steady frm hf sky fun h3 fl3 up3 => ?_
    have J3 : Inv X pins τ G { s' with heap := h3 } := J.landed nb fl3.1 (up.trans up3) os ag
    obtain ⟨oe, vs, _, _, _, he, hz, hd, _⟩ := id fl3.2.2.2
    have apart : ∀ {g : Heap} {o : Obj} {ws : Array Value}, g.FunFrames B (X.env :: X.outer) → g.get? a = some o → o.data = .fields ws → a ∉ frs (X.env :: X.outer) := fun {g o ws} ff e dd m => by
      obtain ⟨_, o', e', no⟩ := ff.mem m
      rw [e] at e'
      cases e'
      exact no _ dd
    have out := apart fl3.2.2.1 he hd
    have nL : a ≠ X.env.locals := fun z => out (List.mem_filterMap.mpr ⟨X.env, List.mem_cons_self, by rw [hf, z]⟩)
    have nF : a ∉ X.fs := fun m => by
      obtain ⟨e, he', q⟩ := List.mem_filterMap.mp m
      exact out (List.mem_filterMap.mpr ⟨e, List.mem_cons_of_mem _ he', q⟩)
    have S3 := J3.suite he hd na nL nF
    have one : ∀ {x : Str} {c : Value} {p : Pos} {Q : Value → Shared → Prop} {E : Value → Shared → Prop}, Names X x c → Q c { s' with heap := h3 } → wpAny (model X.prog X.w) (X.A.mark (some (.ref a))) (eval (.Name x p) X.env) Q E { s' with heap := h3 } := fun {x c p Q E} nm q => by
      obtain ⟨hg, hdbg, hm | ⟨hm, hv, hnn⟩⟩ := nm
      · exact ld_glob (X := X.suite a ((a, oe) :: (X.pn ++ pins))) S3 hg hm q hdbg
      · exact ld_blt (X := X.suite a ((a, oe) :: (X.pn ++ pins))) S3 hg hm hv q hnn hdbg
    refine wpAny_handleBy_cons (codeAny_handlers_test ?_) (by intro q; cases q)
    refine wpAny_Tuple_spliced (args_cons (one q1 (args_cons (one q2 (args_cons (one q3 (args_nil ⟨by show 3 ≤ sizeLine; decide, ?_⟩)) (by rfl))) (by rfl))) (by rfl))
    have kp : ∀ b o, h3.get? b = some o → (h3.push { cls := .type "tuple", data := .seq [c1, c2, c3].toArray }).get? b = some o := fun b o e => Heap.get?_push_of_some _ e
    have LT : PySem.W.Looks (model X.prog X.w) (h3.push { cls := .type "tuple", data := .seq [c1, c2, c3].toArray }) (typeOf (.ref a)) cls := fun A Q E s k q => wpAny_typeOf_ref (k _ _ (kp _ _ he)) (by rw [hz.1]; exact q)
    have KI : X.K.In (h3.push { cls := .type "tuple", data := .seq [c1, c2, c3].toArray }) := J3.kIn.keeps kp
    refine (PySem.W.exm_tup3 KI LT (Heap.get?_push_size h3 rfl) any).here ?_
    have fl5 := flying_onN kp fl3
    refine codeAny_handlers_suite_as ?_
    refine HandSPX.lands_againZ fl5 fun h4 fl4 up4 => ?_
    have J4 : Inv X pins τ G { s' with heap := h4 } := J.landed nb fl4.1 (((up.trans up3).trans (.of_keeps kp)).trans up4) os ag
    obtain ⟨oe4, vs4, _, _, _, he4, hz4, hd4, _⟩ := id fl4.2.2.2
    have S4 := J4.suite he4 hd4 na nL nF
    refine store_ok (X := X.suite a ((a, oe4) :: (X.pn ++ pins))) (v := .ref a) S4 hN hi (.inl hln) rfl (fun s5 S5 => ?_) (.inr hln)
    refine wpAny_mono ((hsu a oe4 cls d (X.pn ++ pins) hz4 ⟨_, hd4⟩).run [] s5 _ G _ S5 (suit a na)) (fun f s6 hsp => ?_) (fun _ _ z => False.elim z)
    have done : ∀ {τ6 : L2.St} {G6 : Hp} {Q : Shared → Prop}, Inv (X.suite a ((a, oe4) :: (X.pn ++ pins))) [] τ6 G6 s6 → (∀ s7, Inv X pins (τ6.set i none) G6 s7 → Q s7) →
        wpAny (model X.prog X.w) X.A (do bindName X.env n .none; unbindBehindTheSuite X.env n pos') (fun _ s7 => Q s7) X.xe s6 := fun {τ6 G6 Q} S6 hq => gone_ok (S6.unsuite ok) hN hi hln hq
    cases f with
    | next => obtain ⟨τ6, G6, S6, q6⟩ := hsp; exact done S6 fun s7 J7 => ⟨_, _, J7, q6⟩
    | brk => obtain ⟨τ6, G6, S6, q6⟩ := hsp; exact done S6 fun s7 J7 => ⟨_, _, J7, q6⟩
    | cont => obtain ⟨τ6, G6, S6, q6⟩ := hsp; exact done S6 fun s7 J7 => ⟨_, _, J7, q6⟩
    | ret u => obtain ⟨v6, τ6, G6, S6, r6, q6⟩ := hsp; exact done S6 fun s7 J7 => ⟨_, _, _, J7, r6, q6⟩
  · cases f with
    | next => obtain ⟨τ, G, J, q⟩ := hsp; exact wpAny_execs_nil ⟨τ, G, J.ofTry ok, q⟩
    | brk => obtain ⟨τ, G, J, q⟩ := hsp; exact ⟨τ, G, J.ofTry ok, q⟩
    | cont => obtain ⟨τ, G, J, q⟩ := hsp; exact ⟨τ, G, J.ofTry ok, q⟩
    | ret u => obtain ⟨v, τ, G, J, r, q⟩ := hsp; exact ⟨v, τ, G, J.ofTry ok, r, q⟩
end
end U

namespace U
open PySem L2 PySem.Spec PyProof.Rows
/-! ### what an except suite asks of its exception -/
theorem zn_inst {a D d : Addr} {cls : Value} {dd : Option Addr} {oe od : Obj} {h : Heap} (hz : L2N.Zn cls dd oe) (hf : ∃ vs, oe.data = .fields vs) (ec : cls = .ref D) (ed : dd = some d) (ha : h.get? a = some oe) (ho : h.get? d = some od) : PySem.W.InstAt h a oe D (some od) := by
  subst ec
  subst ed
  obtain ⟨vs, hv⟩ := hf
  exact ⟨ha, hz.1, by unfold PySem.W.notCls; rw [hv] <;> rfl, by rw [hz.2.1]; exact ho⟩
def rIsS (K : PySem.W.Frag) (a : Addr) (cls : Value) (dd : Option Addr) : List V → Hp → VK → Prop := fun xs H Q => ∃ (c : V) (cv : Value) (b : Bool) (D d : Addr) (fs : List (Str × V)), xs = [.ref a, c] ∧ cls = .ref D ∧ dd = some d ∧ H d = some (.xd fs) ∧ XB K D ∧ XQ K ∧ (∀ u, RelV c u → u = cv) ∧ PySem.W.kitOne K (.ref D) cv = some b ∧ Q (.bl b) H
theorem isS {X : Cx} {a : Addr} {cls : Value} {dd : Option Addr} {oe : Obj} {pn : List (Addr × Obj)} (K : PySem.W.Frag) (hz : L2N.Zn cls dd oe) (hf : ∃ vs, oe.data = .fields vs) (h : X.K = K := by rfl) : CallR (X.suite a ((a, oe) :: pn)) (.builtin "isinstance") (rIsS K a cls dd) := by
  subst h
  intro pins s σ H xs us Q I r h
  obtain ⟨c, cv, b, D, d, fs, rfl, ec, ed, hd, T, Z, hcv, e, q⟩ := h
  cases r with
  | cons rx rr =>
    cases rr with
    | cons rt rr =>
      cases rr
      cases rx
      have eq := hcv _ rt
      subst eq
      obtain ⟨hget, _⟩ := I.pin (a, oe) (List.mem_append.mpr (.inl List.mem_cons_self))
      have hx : ObjOk X.prog X.w H s.heap d (.xd fs) := I.hok d _ hd
      obtain ⟨mA, hns, hr⟩ := hx
      obtain ⟨od, ho, hl⟩ := lookIn_ns hns
      have J := zn_inst hz hf ec ed hget ho
      exact PySem.W.kia_one (kitEx (ox := oe) (od := some od) T Z) I.kIn J e (fun z => nomatch z) fun tk => ⟨.bl b, H, I.kept (t' := tk) fun _ _ z => z, rfl, q⟩
def tFs (K : PySem.W.Frag) (a : Addr) (cls : Value) (dd : Option Addr) (f : Str) (te : TE) : TE := fun σ H Q => te σ H fun x H1 => ∃ (D d : Addr) (fs : List (Str × V)) (v : V), x = .ref a ∧ cls = .ref D ∧ dd = some d ∧ H1 d = some (.xd fs) ∧ XB K D ∧ PySem.W.findIn K (.ref D) f = some none ∧ fs.lookup f = some v ∧ Q v H1
theorem pe_fs {X : Cx} {a : Addr} {cls : Value} {dd : Option Addr} {oe : Obj} {pn : List (Addr × Obj)} (K : PySem.W.Frag) {e : Expr} {te : TE} {pos : Pos} {n : Str} (hz : L2N.Zn cls dd oe) (hf : ∃ vs, oe.data = .fields vs) (he : PE (X.suite a ((a, oe) :: pn)) e te) (h : X.K = K := by rfl)
    (hb : attributeBase e n X.env (eval e X.env) = eval e X.env := by rfl) : PE (X.suite a ((a, oe) :: pn)) (.Attribute e n pos) (tFs K a cls dd n te) := by
  subst h
  constructor
  intro pins s σ H Q I h
  refine attr_of hb (thn (he.run pins s σ H _ I h) fun u s1 hh => ?_)
  obtain ⟨x, H1, I1, rx, D, d, fs, v, rfl, ec, ed, hd, T, no, l, q⟩ := hh
  cases rx
  obtain ⟨hget, _⟩ := I1.pin (a, oe) (List.mem_append.mpr (.inl List.mem_cons_self))
  have hx : ObjOk X.prog X.w H1 s1.heap d (.xd fs) := I1.hok d _ hd
  obtain ⟨mA, hns, hr⟩ := hx
  obtain ⟨od, ho, hl⟩ := lookIn_ns hns
  obtain ⟨u, hu, ru⟩ := RelO.some_of (v := v) (o := mA n) (by rw [← l]; exact hr n)
  exact PySem.HandSPX.exc_get I1.kIn (zn_inst hz hf ec ed hget ho) T.ga T.gg T.isBase (PySem.W.findObj_own T.hasD no rfl (by rw [hl, hu])) (handed_of ru) ⟨v, H1, I1.tok _, ru, q⟩
theorem hotS {X : Cx} {a : Addr} {cls : Value} {dd : Option Addr} {oe : Obj} {pn : List (Addr × Obj)} (hz : L2N.Zn cls dd oe) (hf : ∃ vs, oe.data = .fields vs) : L2H.HotC (X.suite a ((a, oe) :: pn)) := by
  obtain ⟨vs, hv⟩ := hf
  exact ⟨(a, oe), ⟨rfl, vs, hv, hz.2.2 vs hv⟩, List.mem_cons_self⟩
/-! ### a promise told of the very state (what stands out of the reach of what is tracked) -/
abbrev SpS := List Env → Shared → Sp
structure FnS (P : Program) (w : World) (K : PySem.W.Frag) (mg : Str → Option Value) (base : Heap) (CX : CXT) (k : Nat) (f : Addr) (fd : FuncData) (ps : List Str) (sp : SpS) : Prop where
  len : ∀ o s vs H Q E, sp o s vs H Q E → vs.length = ps.length
  run : ∀ (A : Around) (outer : List Env) (s : Shared) (H : Hp) (args : Args) (us : List Value) (vs : List V) (Q : VK) (E : XK), A.guards = some [] → Room k A → Env0 P w K mg base A outer s H →
    BindsTo s fd args (ps.zip us) → Vals vs us → sp outer s vs H Q E → codeAny (model P w) A (.call (.ref f) args) (CR CX outer P w H s Q E) s
theorem fnS_of {P : Program} {w : World} {K : PySem.W.Frag} {mg : Str → Option Value} {base : Heap} {CX : CXT} {x qual : Str} {st : Stmt} {f : Addr} {fd : FuncData} {N ps : List Str} {k : Nat} {sp : SpS} (F : Fun K x qual st f fd) (S : FnScope N ps (defScope st))
    (len : ∀ o s vs H Q E, sp o s vs H Q E → vs.length = ps.length)
    (body : ∀ (cdv : Value) (A : Around) (outer : List Env) (s : Shared) (H : Hp) (vs : List V) (Q : VK) (E : XK), (A.deeper (envOfC qual (defScope st) s.heap.objs.size f cdv)).guards = some [] →
      Room k (A.deeper (envOfC qual (defScope st) s.heap.objs.size f cdv)) → sp outer s vs H Q E →
      ∃ t, PSs (cxOf CX P w K mg base N qual (defScope st) f cdv A outer s H E) (defBody st) t ∧ t { nx := fun _ H' => Q .non H', rt := Q } (start N vs) H) : FnS P w K mg base CX (k + 1) f fd ps sp := by
  obtain ⟨oc, od, kV, doc, pm, an, cdv, ct, osl, rfl, lk, hcd⟩ := F.ex
  constructor
  · exact len
  intro A outer s H args us vs Q E hgd hr e0 hb r hsp
  have X0 : K.In s.heap := e0.mod.kin.keeps fun b o e => (e0.bs b o e).1
  have L0 : s.heap.NoLimit := e0.mod.nolimit.keeps fun b o e => (e0.bs b o e).1
  have kinds : ∀ y ∈ ps.zip us, (defScope st).names.lookup y.1 = some .local ∨ ((defScope st).names.lookup y.1 = some .cell ∧ ((cellsFrom (s.heap.objs.size + 1) (defScope st).names []).lookup y.1).isSome = true) := by
    rintro ⟨n, v⟩ hy
    rcases S.par n (List.of_mem_zip hy).1 with q | q
    · exact Or.inl q
    · exact Or.inr ⟨q, PySem.W.cellsFrom_some _ _ _ (Or.inl q)⟩
  refine codeAny_call_function hr.depth (X0 _ _ lk) rfl S.co S.gen rfl (PySem.W.codeRec_of X0 hcd) (hb _ _ _ _ ?_)
  refine wpAny_newFunctionEnv_cells S.kind kinds fun env he s1 x => ?_
  subst he
  refine ⟨L0.keeps x.toInCall.keep, codeAny_func ?_⟩
  obtain ⟨t, ht, hq⟩ := body cdv A outer s H vs Q E hgd (hr.deeper _) hsp
  have I := inv_start (CX := CX) (E := E) S hr.hd e0 (len _ _ _ _ _ _ hsp) r x
  refine wpAny_mono (ht.run [] s1 (start N vs) H _ I hq) (fun fl s' hs => ?_) fun e s' hs => hs
  cases fl with
  | ret u =>
    obtain ⟨v, σ', H', J, rv, q⟩ := hs
    exact ⟨v, H', J.os, J.bare, J.base, J.hok, rv, q⟩
  | next =>
    obtain ⟨σ', H', J, q⟩ := hs
    exact ⟨V.non, H', J.os, J.bare, J.base, J.hok, rfl, q⟩
  | brk =>
    obtain ⟨_, _, _, q⟩ := hs
    exact q.elim
  | cont =>
    obtain ⟨_, _, _, q⟩ := hs
    exact q.elim
structure DefS (P : Program) (w : World) (K : PySem.W.Frag) (mg : Str → Option Value) (base : Heap) (k : Nat) (x : Str) (ps : List Str) (sp : SpS) : Prop where
  ex : ∃ (f : Addr) (fd : FuncData), FnS P w K mg base CX0 k f fd ps sp ∧ mg x = some (.ref f) ∧ PySem.W.keepIn K (.ref f) = true ∧ Binds K fd ps []
/-- its call, by whatever says that the promise's premise holds at the states of X -/
theorem pe_fnS {X : Cx} {k j : Nat} {x : Str} {ps : List Str} {sp : SpS} {e : Expr} {es : List Expr} {t : TA} {p pos : Pos} {R : L2.St → List V → Hp → VK → Prop} (D : DefS X.prog X.w X.K X.mg X.base k x ps sp) (hgd : X.A.guards = some []) (hr : Room j X.A) (hk : k ≤ j)
    (hR : ∀ pins σ H s vs Q, Inv X pins σ H s → R σ vs H Q → sp X.stack s vs H Q E0)
    (ha : PA X (e :: es) t) (hg : Gl X x := by rfl) (hdb : (x == ("__debug__" : Str)) = false := by decide) (he : starEach (e :: es) X.env = (false, eval e X.env) :: starEach es X.env := by rfl) (hpl : (backTo pos (starEach es X.env)).any (·.1) = false := by rfl) :
    PE X (.Call (.Name x p) (e :: es) [] pos) (fun σ H Q => t σ H fun vs H1 => R σ vs H1 Q) := by
  obtain ⟨f, fd, F, hm, hkp, hb⟩ := D.ex
  constructor
  intro pins s σ H Q I h
  refine wpAny_Call_Name_kw (ld_glob I hg hm ?_ hdb)
  refine PySem.W.callWith_K (h₀ := X.base) I.ok.mod.kin hkp (thn (ha.run pos pins s σ H _ I h) fun us s1 hh => ?_) he hpl
  obtain ⟨vs, H1, I1, r, q0⟩ := hh
  have q := hR pins σ H1 s1 vs Q I1 q0
  refine ⟨I1.kIn, ?_⟩
  have hl : us.length = ps.length := by rw [← r.length]; exact F.len _ _ _ _ _ _ q
  have hbd := hb s1 us I1.kIn (by rw [List.append_nil]; exact hl)
  rw [List.append_nil] at hbd
  refine wpAny_call (codeAny_mono (F.run X.A X.stack s1 H1 ⟨us, []⟩ us vs Q E0 hgd (hr.mono hk) I1.env0 hbd r q) fun rr s' hq => ?_)
  cases rr with
  | error e => exact (show False from hq).elim
  | ok fl =>
    cases fl with
    | ret u => exact I1.after hq
    | next => exact (show False from hq).elim
    | brk => exact (show False from hq).elim
    | cont => exact (show False from hq).elim
/-- as pe_actN, the whole named -/
theorem pe_actK (P : Program) (w : World) (K : PySem.W.Frag) (mg : Str → Option Value) (base : Heap) (c : Nat → Addr) (B : List (Addr × Obj)) {X : Cx} {k j i : Nat} {E : L2.St → XK} {a : Str} {p1 p2 : Pos} (kx : KeptX B X) (hg : X.A.guards = some []) (hr : Room j X.A) (hk : k ≤ j) (hx : ∀ σ, PassesAt (L2N.CX X.prog X.w) X σ (E σ)) (hN : X.N[i]? = some a) (hv : Vis X.env.scope a)
    (h1 : X.prog = P := by rfl) (h2 : X.w = w := by rfl) (h3 : X.K = K := by rfl) (h4 : X.mg = mg := by rfl) (h5 : X.base = base := by rfl) (hd : (a == ("__debug__" : Str)) = false := by decide) (hcd : (a == ("__classdict__" : Str)) = false := by decide) :
    PE X (.Call (.Name a p1) [] [] p2) (tAct P w K mg base c k i B E) := by
  subst h1 h2 h3 h4 h5
  exact pe_actN kx hg hr hk hx hN hv hd hcd
/-! ### what is shown stays so -/
theorem sameT {K : PySem.W.Frag} {H H' : Hp} {a : Addr} {xs : List V} (e : Same H H') (h : SqT K H a xs) : SqT K H' a xs := by
  rcases h with (h | ⟨o, h⟩) | h
  · exact .inl (.inl (e _ _ h))
  · exact .inl (.inr ⟨o, e _ _ h⟩)
  · exact .inr h
mutual
theorem DpSame {K : PySem.W.Frag} {H H' : Hp} (s : Same H H') : ∀ (d : PyData) (v : V), Dp K H v d → Dp K H' v d
  | .none, _, h => by cases h; exact .non
  | .bool _, _, h => by cases h; exact .bl _
  | .int _, _, h => by cases h; exact .int _
  | .str _, _, h => by cases h; exact .str _
  | .list ds, _, h => by
    cases h with
    | lst h1 h2 => exact .lst (s.seq h1) (DpAllSame s ds _ h2)
  | .tuple ds, _, h => by
    cases h with
    | tup h1 h2 => exact .tup (sameT s h1) (DpAllSame s ds _ h2)
  | .dict _, _, h => by cases h
theorem DpAllSame {K : PySem.W.Frag} {H H' : Hp} (s : Same H H') : ∀ (ds : List PyData) (vs : List V), DpAll K H vs ds → DpAll K H' vs ds
  | [], _, h => by cases h; exact .nil
  | d :: ds, _, h => by
    cases h with
    | cons h1 h2 => exact .cons (DpSame s d _ h1) (DpAllSame s ds _ h2)
end
theorem vw_same {K : PySem.W.Frag} {H H' : Hp} {v : V} {z : Str} (h : Vw K H v z) (s : Same H H') : Vw K H' v z := by
  rcases h with ⟨d, h1, h2, h3⟩ | ⟨a, ks, e, h1, h2⟩
  · exact .inl ⟨d, DpSame s _ _ h1, h2, h3⟩
  · exact .inr ⟨a, ks, e, s _ _ h1, h2⟩
theorem eqVQ {X : Cx} (K : PySem.W.Frag) (hu : X.A.units + 64 < cLine) (h : X.K = K := by rfl) : OpR X (compareOp .Eq) (rEqV K) := by
  subst h
  exact op_eqV hu
/-! ### lists of pairs of a truth value and a word -/
def Prs (H : Hp) (l : Addr) (ps : List (Bool × Str)) : Prop := ∃ rs : List Addr, H l = some (.lst (rs.map V.ref)) ∧ rs.length = ps.length ∧ ∀ (i : Nat) (r : Addr) (p : Bool × Str), rs[i]? = some r → ps[i]? = some p → H r = some (.lst [.bl p.1, .str p.2])
theorem Prs.same {H H' : Hp} {l : Addr} {ps : List (Bool × Str)} (x : Prs H l ps) (s : Same H H') : Prs H' l ps := by
  obtain ⟨rs, h1, h2, h3⟩ := x
  exact ⟨rs, s _ _ h1, h2, fun i r p e1 e2 => s _ _ (h3 i r p e1 e2)⟩
theorem Prs.cat {H H' : Hp} {l m k : Addr} {ps qs : List (Bool × Str)} (x : Prs H l ps) (y : Prs H m qs) (s : Same H H') (h : ∀ rs ts : List V, H l = some (.lst rs) → H m = some (.lst ts) → H' k = some (.lst (rs ++ ts))) : Prs H' k (ps ++ qs) := by
  obtain ⟨rs, h1, h2, h3⟩ := x
  obtain ⟨ts, g1, g2, g3⟩ := y
  refine ⟨rs ++ ts, by rw [List.map_append]; exact h _ _ h1 g1, by rw [List.length_append, List.length_append, h2, g2], fun i r p e1 e2 => ?_⟩
  by_cases hi : i < rs.length
  · rw [List.getElem?_append_left hi] at e1
    rw [List.getElem?_append_left (by omega)] at e2
    exact s _ _ (h3 i r p e1 e2)
  · rw [List.getElem?_append_right (by omega)] at e1
    rw [List.getElem?_append_right (by omega)] at e2
    rw [h2] at e1
    exact s _ _ (g3 _ r p e1 e2)
theorem prs1 {H : Hp} {l r : Addr} {p : Bool × Str} (h : H l = some (.lst [.ref r])) (h1 : H r = some (.lst [.bl p.1, .str p.2])) : Prs H l [p] := ⟨[r], h, rfl, fun i a q e1 e2 => by
  cases i with
  | zero => cases e1; cases e2; exact h1
  | succ i => cases e1⟩
theorem prs2 {H : Hp} {l r t : Addr} {p q : Bool × Str} (h : H l = some (.lst [.ref r, .ref t])) (h1 : H r = some (.lst [.bl p.1, .str p.2])) (h2 : H t = some (.lst [.bl q.1, .str q.2])) : Prs H l [p, q] := ⟨[r, t], h, rfl, fun i a z e1 e2 => by
  cases i with
  | zero => cases e1; cases e2; exact h1
  | succ i =>
    cases i with
    | zero => cases e1; cases e2; exact h2
    | succ i => cases e1⟩
/-- the words whose truth value says so -/
def said (ps : List (Bool × Str)) : List Str := (ps.filter (·.1)).map (·.2)
theorem said_succ {ps : List (Bool × Str)} {i : Nat} {p : Bool × Str} (h : ps[i]? = some p) : said (ps.take (i + 1)) = said (ps.take i) ++ (if p.1 = true then [p.2] else []) := by
  unfold said
  rw [List.take_succ, h]
  show ((ps.take i ++ [p]).filter (·.1)).map (·.2) = _
  rw [List.filter_append, List.map_append]
  congr 1
  obtain ⟨b, z⟩ := p
  cases b <;> rfl
theorem said_len (ps : List (Bool × Str)) : (said ps).length ≤ ps.length := by
  unfold said
  rw [List.length_map]
  exact List.length_filter_le _ _
end U

namespace U
open PySem L2 PySem.Spec PyProof.Rows
/-! ### a tuple once: the tuple itself -/
theorem tupOnce (l : Addr) (items : Array Value) (n : Nat) (dd : Option Addr) (sl : Array (Option Value)) (u : Tok) :
    Meets (Builtin.«tuple.__mul__» ⟨[.ref l, .int 1 u], []⟩) (fun _ R s => s.heap.get? l = some { cls := .type "tuple", dict := dd, data := .seq items n, slots := sl } ∧ R (.ok (.ret (Value.ref l))) s) :=
  .of_wp fun prog w A R s h => by
    obtain ⟨hp, g, d, tk, os⟩ := s
    obtain ⟨hl, h⟩ := h
    have f1 := AutoSeq1.idx_int
    wp_walk using wpAny_loadPart' hl
    repeat (first
      | (refine wpAny_ite_false (by decide) ?_; wp_walk using wpAny_loadPart' hl)
      | (refine wpAny_ite_true (by simp) ?_; wp_walk using wpAny_loadPart' hl))
    exact ⟨_, rfl, h⟩
def rRepN (K : PySem.W.Frag) : R2 := fun x y H Q => (∃ l xs, x = .ref l ∧ y = .int 1 ∧ SqT K H l xs ∧ Q (.ref l) H) ∨ rRepT K x y H Q
theorem repN {X : Cx} (K : PySem.W.Frag) (h : X.K = K := by rfl) : OpR X (binaryOp .Mult) (rRepN K) := by
  subst h
  intro pins s σ H x y v u Q I rx ry h
  rcases h with ⟨l, xs, rfl, rfl, hT, q⟩ | h
  · cases rx
    obtain ⟨t, rfl⟩ := ry
    obtain ⟨its, r, ⟨⟨cls, dd, data, sl⟩, ho, hc, n, hd⟩, hs⟩ := I.tuple hT
    simp only at hc hd
    subst hc hd
    exact wpAny_binaryOp_repeat_ref (T := "tuple") (U := "int") (by decide) ⟨_, ho, rfl⟩ (fun s' => typeIs_int s' 1 t) noFill_tuple_mul F.fills_int_mul F.slot_int_rmul repeat_tuple F.slot_int_index.lookup
      (call_meets F.slot_int_rmul (typeIs_int s 1 t) F.entry_int_rmul (F.args_int_rmul_2 _ _) (int_rmul_tuple 1 t l its.toArray n dd sl)
        ⟨ho, rfl, ⟨_, ho, rfl⟩, call_meets F.slot_tuple_mul ⟨_, ho, rfl⟩ F.entry_tuple_mul (F.args_tuple_mul_2 _ _) (tupOnce l its.toArray n dd sl t) ⟨ho, .ref l, H, I, rfl, q⟩⟩)
  · exact op_repT pins s σ H x y v u Q I rx ry h
/-! ### held against the empty tuple -/
def rEqNil (K : PySem.W.Frag) : R2 := fun x y H Q => ∃ a b xs, x = .ref a ∧ y = .ref b ∧ SqT K H a xs ∧ SqT K H b [] ∧ Q (.bl xs.isEmpty) H
theorem eqNil {X : Cx} (K : PySem.W.Frag) (hu : X.A.units + 64 < cLine) (h : X.K = K := by rfl) : OpR X (compareOp .Eq) (rEqNil K) := by
  subst h
  intro pins s σ H x y v u Q I rx ry h
  obtain ⟨a, b, xs, rfl, rfl, ha, hb, q⟩ := h
  cases rx
  cases ry
  obtain ⟨its, r, p, _⟩ := I.tuple ha
  obtain ⟨it2, r2, p2, _⟩ := I.tuple hb
  cases r2
  refine SeqAt.eq_tupleAt (e := fun _ => true) p p2 (by omega) (fun j h1 h2 => absurd h2 (by simp)) ?_
  refine ⟨.bl xs.isEmpty, H, I, ?_, q⟩
  have e := r.length
  cases xs with
  | nil => cases r; rfl
  | cons x xs =>
    cases r
    rfl
/-- a list held against the empty list -/
def rNeNil (K : PySem.W.Frag) : R2 := fun x y H Q => ∃ a b xs, x = .ref a ∧ y = .ref b ∧ SqL K H a xs ∧ SqL K H b [] ∧ Q (.bl (!xs.isEmpty)) H
theorem neNil {X : Cx} (K : PySem.W.Frag) (hu : X.A.units + 64 < cLine) (h : X.K = K := by rfl) : OpR X (compareOp .NotEq) (rNeNil K) := by
  subst h
  intro pins s σ H x y v u Q I rx ry h
  obtain ⟨a, b, xs, rfl, rfl, ha, hb, q⟩ := h
  cases rx
  cases ry
  obtain ⟨its, r, p, _⟩ := I.list ha
  obtain ⟨it2, r2, p2, _⟩ := I.list hb
  cases r2
  cases xs with
  | nil =>
    cases r
    exact SeqAt.RcNeAt.lists (e := fun _ => true) p.isList p2.isList rfl (by omega) (fun j h1 h2 => absurd h2 (by simp)) _ _ _ _ ⟨.bl false, H, I, rfl, q⟩
  | cons x xs =>
    cases r
    exact SeqAt.RcNeAt.lists_lengths p.isList p2.isList (by simp) (by omega) _ _ _ _ ⟨.bl true, H, I, rfl, q⟩
end U

namespace U
open PySem L2 PySem.Spec PyProof.Rows
/-! ### a def's own cells stand above what was there -/
theorem cellsUp : ∀ (names : List (Str × NameKind)) (n : Nat) (acc : List (Str × Addr)) (x : Str) (c : Addr), (x, c) ∈ cellsFrom n names acc → (x, c) ∈ acc ∨ n ≤ c
  | [], _, _, _, _, h => .inl h
  | (y, k) :: r, n, acc, x, c, h => by
    unfold cellsFrom at h
    split at h
    · rcases cellsUp r (n + 1) _ x c h with q | q
      · rcases List.mem_cons.mp q with e | e
        · cases e
          exact .inr (Nat.le_refl _)
        · exact .inl e
      · exact .inr (by omega)
    · exact cellsUp r n acc x c h
theorem cellsAt {L : Addr} {sc : Scope} {y : Str} {c : Addr} (h : (cellsFrom (L + 1) sc.names []).lookup y = some c) : L ≤ c := by
  rcases cellsUp _ _ _ _ _ (PySem.mem_of_lookup h) with q | q
  · cases q
  · exact Nat.le_of_succ_le q
/-! ### all stays but the jug at j and the tables -/
def ButT (j : Addr) (H H' : Hp) : Prop := ∀ b o, b ≠ j → H b = some o → (∀ ps, o ≠ .tbl ps) → H' b = some o
theorem ButT.refl {j : Addr} {H : Hp} : ButT j H H := fun _ _ _ e _ => e
theorem ButT.trans {j : Addr} {H H1 H2 : Hp} (a : ButT j H H1) (b : ButT j H1 H2) : ButT j H H2 := fun c o n e t => b c o n (a c o n e t) t
theorem ButT.of {j : Addr} {H H' : Hp} (b : But j H H') : ButT j H H' := fun c o n e _ => b c o n e
theorem ButT.same {j : Addr} {H H' : Hp} (s : Same H H') : ButT j H H' := fun c o _ e _ => s c o e
theorem ButT.ext {j : Addr} {H H' : Hp} (s : LamX.ExtN H H') : ButT j H H' := fun c o _ e t => s c o e t
theorem tabs_but {T : List (Addr × Str)} {H H' : Hp} {j : Addr} (t : LamX.Tabs T H) (b : But j H H') (h : JugAt H j) : LamX.Tabs T H' := fun p hp => by
  obtain ⟨x, y, z, e, _⟩ := h
  obtain ⟨ps, h1, h2, h3⟩ := t p hp
  have off : ∀ {c : Addr} {o : HO}, H c = some o → (∀ xs, o ≠ .lst xs) → c ≠ j := fun {c o} q n w => by
    rw [w, e] at q
    cases q
    exact n _ rfl
  refine ⟨ps, b _ _ (off h1 fun xs z => by cases z) h1, h2, fun pos cv hc => ?_⟩
  obtain ⟨c, e1, e2⟩ := h3 pos cv hc
  refine ⟨c, e1, b _ _ (off e2 fun xs z => ?_) e2⟩
  unfold LamX.CodeO at z
  cases z
/-! ### a def whose code object is named -/
structure FunC (K : PySem.W.Frag) (x qual : Str) (st : Stmt) (f : Addr) (fd : FuncData) (c : Addr) : Prop where
  ex : ∃ (oc : Value) (od : Option Addr) (kV doc pm : Value) (an : Option Addr) (ct : Value) (osl : Array (Option Value)), fd = PySem.W.fnOf x qual (defArgs st) (defBody st) (defScope st) .none kV doc pm an (.ref c) ct ∧ K.lookup f = some ⟨oc, od, .func fd, osl⟩ ∧ PySem.W.codeIn K (.ref c) qual = true
theorem fnG_ofC {P : Program} {w : World} {K : PySem.W.Frag} {mg : Str → Option Value} {base : Heap} {x qual : Str} {st : Stmt} {f c : Addr} {fd : FuncData} {N ps : List Str} {k : Nat} {sp : Sp} (F : FunC K x qual st f fd c) (S : FnScope N ps (defScope st))
    (len : ∀ vs H Q E, sp vs H Q E → vs.length = ps.length)
    (body : ∀ (A : Around) (outer : List Env) (s : Shared) (H : Hp) (vs : List V) (Q : VK) (E : XK), (A.deeper (envOfC qual (defScope st) s.heap.objs.size f (.ref c))).guards = some [] →
      Room k (A.deeper (envOfC qual (defScope st) s.heap.objs.size f (.ref c))) → sp vs H Q E →
      ∃ t, PSs (cxOf CX0 P w K mg base N qual (defScope st) f (.ref c) A outer s H E).nox (defBody st) t ∧ t { nx := fun _ H' => Q .non H', rt := Q } (start N vs) H) : FnG P w K mg base CX0 (k + 1) f fd ps sp := by
  obtain ⟨oc, od, kV, doc, pm, an, ct, osl, rfl, lk, hcd⟩ := F.ex
  refine ⟨len, fun A outer s H args us vs Q E hgd hr e0 hb r hsp => ?_⟩
  have X0 : K.In s.heap := e0.mod.kin.keeps fun b o e => (e0.bs b o e).1
  refine codeAny_call_function hr.depth (X0 _ _ lk) rfl S.co S.gen rfl (PySem.W.codeRec_of X0 hcd) (hb _ _ _ _ ?_)
  refine wpAny_newFunctionEnv_cells S.kind (fun y hy => ?_) fun env he s1 x => ?_
  · obtain ⟨n, v⟩ := y
    rcases S.par n (List.of_mem_zip hy).1 with q | q
    · exact Or.inl q
    · exact Or.inr ⟨q, PySem.W.cellsFrom_some _ _ _ (Or.inl q)⟩
  subst he
  refine ⟨(e0.mod.nolimit.keeps fun b o e => (e0.bs b o e).1).keeps x.toInCall.keep, codeAny_func ?_⟩
  obtain ⟨t, ht, hq⟩ := body A outer s H vs Q E hgd (hr.deeper _) hsp
  refine wpAny_mono (ht.nox.run [] s1 (start N vs) H _ (inv_start (CX := CX0) (E := E) S hr.hd e0 (len _ _ _ _ hsp) r x) hq) (fun fl s' hs => ?_) fun e s' hs => hs
  cases fl with
  | next =>
    obtain ⟨σ', H', J, q⟩ := hs
    exact ⟨V.non, H', J.os, J.bare, J.base, J.hok, rfl, q⟩
  | ret u =>
    obtain ⟨v, σ', H', J, rv, q⟩ := hs
    exact ⟨v, H', J.os, J.bare, J.base, J.hok, rv, q⟩
  | brk =>
    obtain ⟨_, _, _, q⟩ := hs
    exact q.elim
  | cont =>
    obtain ⟨_, _, _, q⟩ := hs
    exact q.elim
end U

namespace U
open PySem L2 PySem.Spec PyProof.Rows
/-! ### the end of a law whose defs make lambdas: one table of code objects is tracked -/
theorem sqL_ext {K : PySem.W.Frag} {H H' : Hp} {a : Addr} {xs : List V} (h : SqL K H a xs) (s : LamX.ExtN H H') : SqL K H' a xs := by
  rcases h with (h | ⟨o, h⟩) | h
  · exact .inl (.inl (s _ _ h fun _ z => by cases z))
  · exact .inl (.inr ⟨o, s _ _ h fun _ z => by cases z⟩)
  · exact .inr h
section
variable {P : Program} {w : World} {K : PySem.W.Frag} {mg mb : Str → Option Value} {k : Nat} {fa a c PT : Addr} {fd : FuncData} {x : Str} {sp : Sp} {s₁ : Shared} {vs : List Value} {ns : List Int}
/-- the heap that is tracked at the start -/
theorem startT (KX : K.In s₁.heap) (hT : s₁.heap.get? PT = some { cls := .none, data := .fields #[] }) (ha : s₁.heap.get? a = some { cls := .type "list", data := .seq vs.toArray }) (hi : IntsAre vs ns) (hl : ns.length ≤ sizeLine) :
    ∃ H : Hp, H PT = some (.tbl #[]) ∧ SqL K H a (ns.map V.int) ∧ HOk P w H s₁.heap ∧ ∀ b u, H b = some u → b ≠ PT → b = a ∧ K.lookup a = none ∧ u = .frz { cls := .type "list", data := .seq vs.toArray } (.lst (ns.map V.int)) := by
  have rv := vals_ints hi
  have lenV := hi.length
  have ne : a ≠ PT := fun z => by
    rw [z, hT] at ha
    have q := congrArg Obj.data (Option.some.inj ha)
    cases q
  cases hk : K.lookup a with
  | some o =>
    have e := KX a o hk
    rw [ha] at e
    cases e
    refine ⟨upd (fun _ => none) PT (.tbl #[]), upd_same, .inr ⟨_, vs.toArray, _, hk, rfl, rfl, rfl, by rw [List.size_toArray, lenV]; exact hl, by simpa using rv⟩, fun b u z => ?_, fun b u z nb => ?_⟩
    · by_cases q : b = PT
      · subst q
        rw [upd_same] at z
        cases z
        exact hT
      · rw [upd_ne q] at z
        cases z
    · rw [upd_ne nb] at z
      cases z
  | none =>
    refine ⟨upd (upd (fun _ => none) a (.frz { cls := .type "list", data := .seq vs.toArray } (.lst (ns.map V.int)))) PT (.tbl #[]), upd_same, .inl (.inr ⟨_, by rw [upd_ne ne]; exact upd_same⟩), fun b u z => ?_, fun b u z nb => ?_⟩
    · by_cases q : b = PT
      · subst q
        rw [upd_same] at z
        cases z
        exact hT
      · rw [upd_ne q] at z
        by_cases qa : b = a
        · subst qa
          rw [upd_same] at z
          cases z
          exact ⟨ha, by rw [List.length_map]; exact hl, vs, _, rv, ha⟩
        · rw [upd_ne qa] at z
          cases z
    · rw [upd_ne nb] at z
      by_cases qa : b = a
      · subst qa
        rw [upd_same] at z
        exact ⟨rfl, rfl, (Option.some.inj z).symm⟩
      · rw [upd_ne qa] at z
        cases z
theorem lawGT (KX : K.In s₁.heap) (hns : s₁.heap.Ns mainGlobals mg) (hb : s₁.heap.Ns builtinsNs mb) (hbb : ∀ x : Str, x ≠ "__name__" → mb x = bootBuiltins x) (hlim : s₁.heap.NoLimit) (hg : s₁.gens = #[])
    (hT : s₁.heap.get? PT = some { cls := .none, data := .fields #[] }) (nT : K.lookup PT = none) (hC : PySem.W.CodeHd s₁.heap c PT)
    (hbm : ∃ (bm : Addr) (ob : Obj), mg "__builtins__" = some (.ref bm) ∧ bm ≠ builtinsNs ∧ s₁.heap.get? bm = some ob ∧ ob.cls = .type "module" ∧ ob.dict = some builtinsNs ∧ ob.data = .plain)
    (ha : s₁.heap.get? a = some { cls := .type "list", data := .seq vs.toArray }) (hi : IntsAre vs ns) (hl : ns.length ≤ sizeLine) (hr : Room k callerA)
    (F : ∀ base : Heap, K.In base → base.Ns mainGlobals mg → LamX.TabB base mg c PT → FnG P w K mg base CX0 k fa fd [x] sp) (hbind : ∀ (s : Shared) (u : Value), BindsTo s fd ⟨[u], []⟩ [(x, u)])
    (hsp : ∀ H : Hp, H PT = some (.tbl #[]) → SqL K H a (ns.map V.int) → sp [.ref a] H (fun v _ => v = .bl true) fun _ _ _ => False) :
    codeAny (model P w) callerA (.call (.ref fa) ⟨[.ref a], []⟩) (fun r s' => r = .ok (.ret (.bool true)) ∧ OldK s₁.heap s'.heap ∧ s'.os = s₁.os ∧ AllBare s'.gens) s₁ := by
  obtain ⟨H, hP, hS, hok, hO⟩ := startT (P := P) (w := w) KX hT ha hi hl
  -- what is neither a list nor an empty record is not tracked
  have out : ∀ {b : Addr} {o : Obj}, s₁.heap.get? b = some o → (∀ n m, o.data ≠ .seq n m) → o.data ≠ .fields #[] → H b = none := fun {b o} e d1 d2 => by
    cases q : H b with
    | none => rfl
    | some u =>
      exfalso
      by_cases z : b = PT
      · rw [z, hT] at e
        cases e
        exact d2 rfl
      · obtain ⟨eb, _, _⟩ := hO b u q z
        rw [eb, ha] at e
        cases e
        exact d1 _ _ rfl
  have low : ∀ {b : Addr} {o : Obj}, s₁.heap.get? b = some o → (∀ n m, o.data ≠ .seq n m) → o.data ≠ .fields #[] → (hidT s₁.heap H).get? b = some o := fun e d1 d2 => hidT_get e (out e d1 d2)
  have nsH : ∀ {b : Addr} {m : Str → Option Value}, s₁.heap.Ns b m → (hidT s₁.heap H).Ns b m := fun {b m} ⟨o, es, ep, e, d, r⟩ => ⟨o, es, ep, low e (fun n m z => by rw [d] at z; cases z) (fun z => by rw [d] at z; cases z), d, r⟩
  have kH : K.In (hidT s₁.heap H) := fun b o e => hidT_get (KX b o e) (by
    cases q : H b with
    | none => rfl
    | some u =>
      exfalso
      by_cases z : b = PT
      · rw [z, nT] at e
        cases e
      · obtain ⟨eb, na, _⟩ := hO b u q z
        rw [eb, na] at e
        cases e)
  have TB : LamX.TabB (hidT s₁.heap H) mg c PT := by
    refine ⟨?_, ?_, fun z => ?_⟩
    · obtain ⟨o, us, file, tf, flags, tg, inF, text, tt, e1, r1, r2, rest⟩ := hC
      obtain ⟨r3, rest⟩ := rest
      refine ⟨o, us, file, tf, flags, tg, inF, text, tt, low e1 (fun n m z => by rw [r2] at z; cases z) (fun z => ?_), r1, r2, r3, rest⟩
      rw [r2] at z
      cases z
      simp at r3
    · obtain ⟨bm, ob, b1, b2, b3, b4, b5, b6⟩ := hbm
      have hne : ∀ {q : Addr} {o : Obj}, s₁.heap.get? q = some o → o.data ≠ .plain → bm ≠ q := fun {q o} e d z => by
        rw [z, e] at b3
        cases b3
        exact d b6
      refine ⟨bm, ob, b1, b2, ?_, hne hT (fun z => by cases z), low b3 (fun n m z => by rw [b6] at z; cases z) (fun z => by rw [b6] at z; cases z), b4, b5, b6⟩
      obtain ⟨o, es, ep, e, hd, _⟩ := hns
      exact hne e fun z => by rw [hd] at z; cases z
    · obtain ⟨o, es, ep, e, hd, _⟩ := hns
      rw [z, hT] at e
      cases e
      cases hd
  obtain ⟨mc, l1, l2⟩ := hlim
  have e0 : Env0 P w K mg (hidT s₁.heap H) callerA [] s₁ H :=
    { frames := rfl, mod := { kin := kH, glob := nsH hns, blt := ⟨mb, nsH hb, hbb⟩, nolimit := ⟨mc, nsH l1, l2⟩ }, bs := fun b o e => of_hidT e, bsz := Nat.le_of_eq (hidT_size _ _), funs := trivial, frf := fun b z => (nomatch z), hok := hok, bare := .of_eq hg }
  refine codeAny_mono ((F _ kH (nsH hns) TB).run callerA [] s₁ H ⟨[.ref a], []⟩ [.ref a] [.ref a] _ _ rfl hr e0 (hbind s₁ (.ref a)) (.cons rfl .nil) (hsp H hP hS)) fun r s' h => ?_
  cases r with
  | error e => exact (show False from h).elim
  | ok fl =>
    cases fl with
    | next => exact (show False from h).elim
    | brk => exact (show False from h).elim
    | cont => exact (show False from h).elim
    | ret u =>
      obtain ⟨v, H', os, bare, un, hok', r', q⟩ := h
      obtain rfl : v = .bl true := q
      obtain rfl : u = Value.bool true := r'
      have stay : ∀ b o, b ≠ PT → s₁.heap.get? b = some o → s'.heap.get? b = some o := fun b o nb e => by
        cases q : H b with
        | none => exact un.keep b o e q (fun z => nomatch z) (fun z => nomatch z)
        | some u =>
          obtain ⟨_, _, eu⟩ := hO b u q nb
          subst eu
          have g1 := (hok b _ q).1
          have g2 := (hok' b _ (un.frzs b _ _ q)).1
          rw [g1] at e
          cases e
          exact g2
      obtain ⟨more, hm⟩ := un.tbls PT #[] hP
      have hm := hok' PT _ hm
      refine ⟨rfl, ⟨fun b o e => ?_, fun b o e => ?_⟩, os, bare⟩
      · by_cases z : b = PT
        · subst z
          rw [hT] at e
          cases e
          exact .inr (.inl ⟨(hC.tab hT).isCodeTable, rfl, #[], more, rfl, by rw [Array.empty_append] at hm ⊢; exact hm⟩)
        · exact .inl (stay b o z e)
      · by_cases z : b = PT
        · rw [z]
          exact ⟨_, hm⟩
        · exact ⟨o, stay b o z e⟩
end
theorem walkGT {l : PySem.W.OpenLaw} {n k : Nat} {q : Program} {loose : List Str} {XP : (Str → Option Value) → Heap → Prop} {YP : World → Heap → Prop} {d : DefRec} {K : Params → PySem.W.Frag} {sp : PySem.W.Frag → Addr → Sp} {x : Str} {ts : List Addr}
    (hn : l.most = some n) (hn2 : n ≤ sizeLine) (hdf : d.params.defaults = []) (hr : Room k callerA) (hY : ∀ (w : World) (h : Heap), YP w h → (K w.params).In h) (hY2 : ∀ (w : World) (h : Heap), YP w h → ∀ P ∈ ts, h.get? P = some (PySem.W.tabObj #[]))
    (F : ∀ (w : World) (mg : Str → Option Value) (fa : Addr) (h : Heap), (K w.params).In h → h.Ns mainGlobals mg → mg d.name = some (.ref fa) →
      ∃ (fd : FuncData) (c PT : Addr), PT ∈ ts ∧ PySem.W.codeHdIn (K w.params) c PT = true ∧ (K w.params).lookup PT = none ∧ (∀ (s : Shared) (u : Value), BindsTo s fd ⟨[u], []⟩ [(x, u)]) ∧ ∀ base : Heap, (K w.params).In base → base.Ns mainGlobals mg → LamX.TabB base mg c PT → FnG l.prog w (K w.params) mg base CX0 k fa fd [x] (sp (K w.params) PT))
    (hsp : ∀ (K : PySem.W.Frag) (PT : Addr) (H : Hp) (a : Addr) (ns : List Int), ns.length ≤ n → H PT = some (.tbl #[]) → SqL K H a (ns.map V.int) → sp K PT [.ref a] H (fun v _ => v = .bl true) fun _ _ _ => False) :
    PySem.W.WalkO q loose XP YP l.row.toRowW d [] (fun f vs => PySem.call f vs) := by
  refine Att.attach_call hn hdf fun w s₀ s₁ mg mb fa o pm cd doc a vs ns G Y ho hd hcd hmg hobj hints hlen hg => ?_
  have KX := hY w _ Y
  obtain ⟨fd, c, PT, hm, hC, nT, hb, hF⟩ := F w mg fa _ KX G.T.g hmg
  exact lawGT KX G.T.g G.T.b G.T.builtins G.T.nolimit hg (hY2 w _ Y PT hm) nT (PySem.W.codeHd_of_K KX hC) G.T.bmain hobj hints (Nat.le_trans hlen hn2) hr hF hb fun H hP hS => hsp _ PT H a ns hlen hP hS
end U

namespace U
open PySem L2
/-! ### values of any kind, as trees -/
inductive Tr
  | int (i : Int)
  | bl (b : Bool)
  | non
  | str (x : Str)
  | tup (l : List Tr)
  | lst (l : List Tr)
  | dic
mutual
inductive Rep (H : Hp) : V → Tr → Prop
  | int (i : Int) : Rep H (.int i) (.int i)
  | bl (b : Bool) : Rep H (.bl b) (.bl b)
  | non : Rep H .non .non
  | str (x : Str) : Rep H (.str x) (.str x)
  | tup {a : Addr} {vs : List V} {ts : List Tr} (h : Tu H a vs) (r : RepAll H vs ts) : Rep H (.ref a) (.tup ts)
  | lst {a : Addr} {vs : List V} {ts : List Tr} (h : H a = some (.lst vs)) (r : RepAll H vs ts) : Rep H (.ref a) (.lst ts)
  | dic {a : Addr} {ks : List (Key × V)} (h : H a = some (.dK ks)) : Rep H (.ref a) .dic
inductive RepAll (H : Hp) : List V → List Tr → Prop
  | nil : RepAll H [] []
  | cons {v : V} {t : Tr} {vs : List V} {ts : List Tr} (h : Rep H v t) (r : RepAll H vs ts) : RepAll H (v :: vs) (t :: ts)
end
theorem tu_ext {H H' : Hp} {a : Addr} {xs : List V} (h : Tu H a xs) (s : LamX.ExtN H H') : Tu H' a xs := by
  obtain ⟨o, e, h⟩ := h
  refine ⟨o, s _ _ e fun ps z => ?_, h⟩
  rcases h with h | ⟨r, _, h⟩ <;> (rw [h] at z; cases z)
mutual
theorem Rep.ext {H H' : Hp} (s : LamX.ExtN H H') : ∀ {v : V} (t : Tr), Rep H v t → Rep H' v t
  | _, .int _, h => by cases h; exact .int _
  | _, .bl _, h => by cases h; exact .bl _
  | _, .non, h => by cases h; exact .non
  | _, .str _, h => by cases h; exact .str _
  | _, .tup ts, h => by
    cases h with
    | tup h r => exact .tup (tu_ext h s) (RepAll.ext s ts r)
  | _, .lst ts, h => by
    cases h with
    | lst h r => exact .lst (s _ _ h fun _ z => by cases z) (RepAll.ext s ts r)
  | _, .dic, h => by
    cases h with
    | dic h => exact .dic (s _ _ h fun _ z => by cases z)
theorem RepAll.ext {H H' : Hp} (s : LamX.ExtN H H') : ∀ {vs : List V} (ts : List Tr), RepAll H vs ts → RepAll H' vs ts
  | _, [], h => by cases h; exact .nil
  | _, t :: ts, h => by
    cases h with
    | cons h r => exact .cons (Rep.ext s t h) (RepAll.ext s ts r)
end
theorem Rep.same {H H' : Hp} {v : V} {t : Tr} (h : Rep H v t) (s : Same H H') : Rep H' v t := Rep.ext (.of s) t h
theorem RepAll.same {H H' : Hp} {vs : List V} {ts : List Tr} (h : RepAll H vs ts) (s : Same H H') : RepAll H' vs ts := RepAll.ext (.of s) ts h
theorem RepAll.length {H : Hp} : ∀ {vs : List V} {ts : List Tr}, RepAll H vs ts → vs.length = ts.length
  | _, _, .nil => rfl
  | _, _, .cons _ r => by rw [List.length_cons, List.length_cons, RepAll.length r]
theorem RepAll.get {H : Hp} : ∀ {vs : List V} {ts : List Tr} {i : Nat} {v : V}, RepAll H vs ts → vs[i]? = some v → ∃ t, ts[i]? = some t ∧ Rep H v t
  | _, _, _, _, .nil, e => by simp at e
  | _, _, 0, _, .cons h _, e => by
    rw [List.getElem?_cons_zero] at e
    cases e
    exact ⟨_, rfl, h⟩
  | _, _, i + 1, _, .cons _ r, e => by
    rw [List.getElem?_cons_succ] at e
    obtain ⟨t, h1, h2⟩ := RepAll.get r e
    exact ⟨t, by rw [List.getElem?_cons_succ]; exact h1, h2⟩
theorem RepAll.app {H : Hp} {us : List V} {ss : List Tr} (g : RepAll H us ss) : ∀ {vs : List V} {ts : List Tr}, RepAll H vs ts → RepAll H (vs ++ us) (ts ++ ss)
  | _, _, .nil => g
  | _, _, .cons h r => .cons h (RepAll.app g r)
theorem RepAll.take {H : Hp} : ∀ {vs : List V} {ts : List Tr} (n : Nat), RepAll H vs ts → RepAll H (vs.take n) (ts.take n)
  | _, _, 0, _ => .nil
  | _, _, _ + 1, .nil => .nil
  | _, _, n + 1, .cons h r => .cons h (RepAll.take n r)
theorem RepAll.drop {H : Hp} : ∀ {vs : List V} {ts : List Tr} (n : Nat), RepAll H vs ts → RepAll H (vs.drop n) (ts.drop n)
  | _, _, 0, r => r
  | _, _, _ + 1, .nil => .nil
  | _, _, n + 1, .cons _ r => RepAll.drop n r
def tyT : Tr → String
  | .int _ => "int"
  | .bl _ => "bool"
  | .non => "NoneType"
  | .str _ => "str"
  | .tup _ => "tuple"
  | .lst _ => "list"
  | .dic => "dict"
theorem Rep.tyx {K : PySem.W.Frag} {H : Hp} {v : V} {t : Tr} (h : Rep H v t) : TyX K H v (.type (tyT t)) := by
  cases h with
  | int i => exact .base (.int i)
  | bl b => exact .base (.bl b)
  | non => exact .base .non
  | str x => exact .base (.str x)
  | tup h _ => exact h.tyx
  | lst h _ => exact .base (.lst h)
  | dic h => exact .base (.dK h)
def isTup : Tr → Bool
  | .tup _ => true
  | _ => false
def isInt : Tr → Bool
  | .int _ => true
  | _ => false
theorem kitTup (K : PySem.W.Frag) (t : Tr) : PySem.W.kitOne K (.type (tyT t)) (.type "tuple") = some (isTup t) := by
  have h1 : PySem.W.kitOne K (.type "int") (.type "tuple") = some false := kit_ty (by decide +kernel)
  have h2 : PySem.W.kitOne K (.type "bool") (.type "tuple") = some false := kit_ty (by decide +kernel)
  have h3 : PySem.W.kitOne K (.type "NoneType") (.type "tuple") = some false := kit_ty (by decide +kernel)
  have h4 : PySem.W.kitOne K (.type "str") (.type "tuple") = some false := kit_ty (by decide +kernel)
  have h5 : PySem.W.kitOne K (.type "tuple") (.type "tuple") = some true := kit_ty (by decide +kernel)
  have h6 : PySem.W.kitOne K (.type "list") (.type "tuple") = some false := kit_ty (by decide +kernel)
  have h7 : PySem.W.kitOne K (.type "dict") (.type "tuple") = some false := kit_ty (by decide +kernel)
  cases t <;> assumption
theorem kitInt (K : PySem.W.Frag) (t : Tr) : ∃ b1 b2, PySem.W.kitOne K (.type (tyT t)) (.type "int") = some b1 ∧ PySem.W.kitOne K (.type (tyT t)) (.type "bool") = some b2 ∧ (b1 && !b2) = isInt t := by
  have g : ∀ T b1 b2, T ∈ ["int", "bool", "NoneType", "str", "tuple", "list", "dict"] → (b1 = decide (T = "int" ∨ T = "bool")) → (b2 = decide (T = "bool")) → PySem.W.kitOne K (.type T) (.type "int") = some b1 ∧ PySem.W.kitOne K (.type T) (.type "bool") = some b2 := by
    intro T b1 b2 hT h1 h2
    subst h1 h2
    simp only [List.mem_cons, List.not_mem_nil, or_false] at hT
    rcases hT with rfl | rfl | rfl | rfl | rfl | rfl | rfl <;> exact ⟨kit_ty (by decide +kernel), kit_ty (by decide +kernel)⟩
  cases t with
  | int i => exact ⟨true, false, (g "int" _ _ (by simp) rfl rfl).1, (g "int" _ _ (by simp) rfl rfl).2, rfl⟩
  | bl b => exact ⟨true, true, (g "bool" _ _ (by simp) rfl rfl).1, (g "bool" _ _ (by simp) rfl rfl).2, rfl⟩
  | non => exact ⟨false, false, (g "NoneType" _ _ (by simp) rfl rfl).1, (g "NoneType" _ _ (by simp) rfl rfl).2, rfl⟩
  | str x => exact ⟨false, false, (g "str" _ _ (by simp) rfl rfl).1, (g "str" _ _ (by simp) rfl rfl).2, rfl⟩
  | tup l => exact ⟨false, false, (g "tuple" _ _ (by simp) rfl rfl).1, (g "tuple" _ _ (by simp) rfl rfl).2, rfl⟩
  | lst l => exact ⟨false, false, (g "list" _ _ (by simp) rfl rfl).1, (g "list" _ _ (by simp) rfl rfl).2, rfl⟩
  | dic => exact ⟨false, false, (g "dict" _ _ (by simp) rfl rfl).1, (g "dict" _ _ (by simp) rfl rfl).2, rfl⟩
/-- a weight, a row, a way by the text, of a tree -/
def wgTr : Tr → Bool
  | .int i => decide (0 ≤ i) && decide (i ≤ 1000000000)
  | _ => false
def inTr : Tr → Int
  | .int i => i
  | _ => 0
def rowTr (n : Int) : Tr → Bool
  | .tup ts => decide ((ts.length : Int) = n) && (ts.all wgTr && decide (0 < (ts.map inTr).sum))
  | _ => false
def wayTr (n : Int) : Tr → Bool
  | .tup ts => decide ((ts.length : Int) = n) && ts.all (rowTr n)
  | _ => false
theorem rep_ints {H : Hp} : ∀ {vs : List V} {ts : List Tr}, RepAll H vs ts → ts.all wgTr = true → vs = (ts.map inTr).map V.int
  | _, _, .nil, _ => rfl
  | _, _, .cons (t := t) h r, e => by
    rw [List.all_cons, Bool.and_eq_true] at e
    obtain ⟨e1, e2⟩ := e
    rw [List.map_cons, List.map_cons, ← rep_ints r e2]
    cases t <;> first | (cases h; rfl) | cases e1
end U

namespace U
open PySem L2
/-! ### trees while the jug at j goes on -/
mutual
def trOf : PyData → Tr
  | .none => .non
  | .bool b => .bl b
  | .int i => .int i
  | .str x => .str x
  | .tuple l => .tup (trAll l)
  | .list _ => .dic
  | .dict _ => .dic
def trAll : List PyData → List Tr
  | [] => []
  | d :: ds => trOf d :: trAll ds
end
mutual
theorem Im.rep {H : Hp} : ∀ (d : PyData) (v : V), Im H v d → Rep H v (trOf d)
  | .none, _, h => by cases h; exact .non
  | .bool _, _, h => by cases h; exact .bl _
  | .int _, _, h => by cases h; exact .int _
  | .str _, _, h => by cases h; exact .str _
  | .list _, _, h => by cases h
  | .dict _, _, h => by cases h
  | .tuple ds, _, h => by
    cases h with
    | tup h1 h2 => exact .tup h1 (ImAll.rep ds _ h2)
theorem ImAll.rep {H : Hp} : ∀ (ds : List PyData) (vs : List V), ImAll H vs ds → RepAll H vs (trAll ds)
  | [], _, h => by cases h; exact .nil
  | d :: ds, _, h => by
    cases h with
    | cons h1 h2 => exact .cons (Im.rep d _ h1) (ImAll.rep ds _ h2)
end
theorem trAll_map : ∀ l : List PyData, trAll l = l.map trOf
  | [] => rfl
  | d :: ds => by rw [trAll, trAll_map ds]; rfl
def RepB (j : Addr) (G : Hp) (v : V) (t : Tr) : Prop := ∀ H', But j G H' → Rep H' v t
def RepAllB (j : Addr) (G : Hp) (vs : List V) (ts : List Tr) : Prop := ∀ H', But j G H' → RepAll H' vs ts
section
variable {j : Addr} {G G' : Hp} {v : V} {t : Tr} {vs us : List V} {ts ss : List Tr}
theorem RepB.rep (h : RepB j G v t) : Rep G v t := h G .refl
theorem RepB.but (h : RepB j G v t) (b : But j G G') : RepB j G' v t := fun H' b' => h H' (b.trans b')
theorem RepB.same (h : RepB j G v t) (s : Same G G') : RepB j G' v t := h.but (.of s)
theorem RepAllB.but (h : RepAllB j G vs ts) (b : But j G G') : RepAllB j G' vs ts := fun H' b' => h H' (b.trans b')
theorem RepAllB.same (h : RepAllB j G vs ts) (s : Same G G') : RepAllB j G' vs ts := h.but (.of s)
theorem RepAllB.length (h : RepAllB j G vs ts) : vs.length = ts.length := (h G .refl).length
theorem RepB.of_im {d : PyData} (h : Im G v d) (J : JugAt G j) : RepB j G v (trOf d) := fun H' b => Im.rep _ _ (Im.mono (b.tups J) _ _ h)
theorem RepAllB.of_im {ds : List PyData} (h : ImAll G vs ds) (J : JugAt G j) : RepAllB j G vs (trAll ds) := fun H' b => ImAll.rep _ _ (ImAll.mono (b.tups J) _ _ h)
theorem RepB.tup {a : Addr} (ha : Tu G a vs) (J : JugAt G j) (r : RepAllB j G vs ts) : RepB j G (.ref a) (.tup ts) := fun H' b => .tup (b.tups J _ _ ha) (r H' b)
theorem RepB.lst {l : Addr} (h : G l = some (.lst vs)) (n : l ≠ j) (r : RepAllB j G vs ts) : RepB j G (.ref l) (.lst ts) := fun H' b => .lst (b _ _ n h) (r H' b)
theorem RepB.dic {l : Addr} {ks : List (Key × V)} (h : G l = some (.dK ks)) (n : l ≠ j) : RepB j G (.ref l) .dic := fun H' b => .dic (b _ _ n h)
theorem RepB.leaf (h : ∀ H', Rep H' v t) : RepB j G v t := fun H' _ => h H'
theorem RepAllB.nil : RepAllB j G [] [] := fun _ _ => .nil
theorem RepAllB.one (h : RepB j G v t) : RepAllB j G [v] [t] := fun H' b => .cons (h H' b) .nil
theorem RepAllB.cons (h : RepB j G v t) (r : RepAllB j G vs ts) : RepAllB j G (v :: vs) (t :: ts) := fun H' b => .cons (h H' b) (r H' b)
theorem RepAllB.app (h : RepAllB j G vs ts) (g : RepAllB j G us ss) : RepAllB j G (vs ++ us) (ts ++ ss) := fun H' b => RepAll.app (g H' b) (h H' b)
theorem RepAllB.take (n : Nat) (h : RepAllB j G vs ts) : RepAllB j G (vs.take n) (ts.take n) := fun H' b => (h H' b).take n
theorem RepAllB.drop (n : Nat) (h : RepAllB j G vs ts) : RepAllB j G (vs.drop n) (ts.drop n) := fun H' b => (h H' b).drop n
theorem RepAllB.get {i : Nat} (h : RepAllB j G vs ts) (e : vs[i]? = some v) : ∃ t, ts[i]? = some t ∧ RepB j G v t := by
  obtain ⟨t, h1, _⟩ := (h G .refl).get e
  refine ⟨t, h1, fun H' b => ?_⟩
  obtain ⟨t', h2, h3⟩ := (h H' b).get e
  rw [h1] at h2
  cases h2
  exact h3
theorem RepAllB.reps (h : RepAllB j G vs ts) : ∀ n : Nat, RepAllB j G (List.replicate n vs).flatten (List.replicate n ts).flatten
  | 0 => .nil
  | n + 1 => by
    rw [List.replicate_succ, List.replicate_succ, List.flatten_cons, List.flatten_cons]
    exact h.app (h.reps n)
/-- a tuple's length and what its elements keep -/
def bd (b : Nat) (q : Tr → Prop) (t : Tr) : Prop := ∀ us, t = .tup us → us.length ≤ b ∧ ∀ u ∈ us, q u
theorem bd.mono {b c : Nat} {p q : Tr → Prop} (h : bd b p t) (hb : b ≤ c) (hq : ∀ u, p u → q u) : bd c q t := fun us e => ⟨Nat.le_trans (h us e).1 hb, fun u hu => hq u ((h us e).2 u hu)⟩
theorem bd.off {b : Nat} {q : Tr → Prop} (h : isTup t = false) : bd b q t := fun us e => by rw [e] at h; cases h
theorem bd.of {b : Nat} {q : Tr → Prop} (h : ts.length ≤ b) (hq : ∀ u ∈ ts, q u) : bd b q (.tup ts) := fun us e => by cases e; exact ⟨h, hq⟩
end
section
variable {K : PySem.W.Frag} {G : Hp} {Q : VK} {a b : Addr} {xs ys : List V}
theorem slTu {lo hi : Option Int} (ha : Tu G a xs) (h : ∀ q G', Same G G' → Tu G' q (cutV xs lo hi) → Q (.ref q) G') : rSlA K (.ref a) lo hi G Q := by
  refine ⟨a, xs, rfl, ha.sq, fun hw => ?_, fun _ p np => h p _ (same_upd np) Tu.up⟩
  refine h a G (Same.refl G) ?_
  have e : cutV xs lo hi = xs := by
    unfold cutV
    rw [hw.1, hw.2]
    show List.take (xs.length - 0) (List.drop 0 xs) = _
    rw [Nat.sub_zero, List.drop_zero, List.take_length]
  rw [e]
  exact ha
theorem catTu2 (ha : Tu G a xs) (hb : Tu G b ys) (hl : xs.length + ys.length ≤ 1000) (h : ∀ q G', Same G G' → Tu G' q (xs ++ ys) → Q (.ref q) G') : rCatA K (.ref a) (.ref b) G Q := by
  refine ⟨a, b, xs, ys, rfl, rfl, ha.sq, hb.sq, Nat.le_trans hl (by decide), fun e => ?_, fun _ e => ?_, fun _ _ p np => h p _ (same_upd np) Tu.up⟩
  · subst e
    exact h b G (Same.refl G) hb
  · subst e
    exact h a G (Same.refl G) (by rw [List.append_nil]; exact ha)
theorem repTu2 {n : Nat} (ha : Tu G a xs) (h0 : 1 ≤ xs.length) (h6 : xs.length ≤ 100) (h1 : 1 ≤ n) (h2 : n ≤ 10) (h : ∀ r G', Same G G' → Tu G' r (List.replicate n xs).flatten → Q (.ref r) G') : rRepN K (.ref a) (.int n) G Q := by
  by_cases e : n = 1
  · subst e
    exact .inl ⟨a, xs, rfl, rfl, ha.sq, h a G (Same.refl G) (by simpa using ha)⟩
  · refine .inr ⟨a, n, xs, rfl, rfl, ha.sq, by intro e; rw [e] at h0; exact absurd h0 (by decide), by omega, by omega, by omega, fun p np => h p _ (same_upd np) ?_⟩
    rw [Int.toNat_natCast]
    exact Tu.up
theorem cutTo {k : Nat} (h : k ≤ xs.length) : cutV xs none (some (k : Int)) = xs.take k := by
  have e : HT.sIx xs.length xs.length (some (k : Int)) = k := by rw [HT.sIx_nat]; omega
  unfold cutV
  rw [e]
  show List.take (k - 0) (List.drop 0 xs) = _
  rw [Nat.sub_zero, List.drop_zero]
theorem cutFrom {k : Nat} (h : k ≤ xs.length) : cutV xs (some (k : Int)) none = xs.drop k := by
  have e : HT.sIx xs.length 0 (some (k : Int)) = k := by rw [HT.sIx_nat]; omega
  unfold cutV
  rw [e]
  show List.take (xs.length - k) (List.drop k xs) = _
  rw [List.take_of_length_le (by rw [List.length_drop]; exact Nat.le_refl _)]
end
theorem seqQ {t u : TS} {D : Ends} {σ : L2.St} {H : Hp} (P : L2.St → Hp → Prop) (h1 : ∀ N : L2.St → Hp → Prop, (∀ σ' H', P σ' H' → N σ' H') → t { D with nx := N } σ H) (h2 : ∀ σ' H', P σ' H' → u D σ' H') : tSeq t u D σ H := h1 (u D) h2
end U

namespace M
open PySem L2 U
def top (i : Nat) : Stmt := PySem.Challenge.pw_alwaysagree_k04_ways_refused.main.body.getD i (.Pass ⟨0, 0, 0, 0⟩)
/-- what the built-ins' names are not: names of the module -/
structure Bt (mg : Str → Option Value) : Prop where
  len : mg "len" = none
  range : mg "range" = none
  int : mg "int" = none
  abs : mg "abs" = none
  divmod : mg "divmod" = none
  sum : mg "sum" = none
  tuple : mg "tuple" = none
  all : mg "all" = none
  max : mg "max" = none
  min : mg "min" = none
  str : mg "str" = none
  bool : mg "bool" = none
  isinstance : mg "isinstance" = none
  enumerate : mg "enumerate" = none
  repr : mg "repr" = none
  g_LETTERS : ∃ u, mg "LETTERS" = some u ∧ RelV (.str "abcdefghijklmnopqrstuvwxyz") u
  g_LETTERS_AND_DIGITS : ∃ u, mg "LETTERS_AND_DIGITS" = some u ∧ RelV (.str "abcdefghijklmnopqrstuvwxyz0123456789") u
  g_LONGEST_NAME : ∃ u, mg "LONGEST_NAME" = some u ∧ RelV (.int 8) u
  g_MOST_MINDS : ∃ u, mg "MOST_MINDS" = some u ∧ RelV (.int 6) u
  g_MOST_WAYS : ∃ u, mg "MOST_WAYS" = some u ∧ RelV (.int 6) u
  g_MOST_WEIGHT : ∃ u, mg "MOST_WEIGHT" = some u ∧ RelV (.int 1000000000) u
abbrev sInt : Stmt := top 5
abbrev nInt : List Str := ["value"]
abbrev pInt : List Str := ["value"]
theorem scInt : FnScope nInt pInt (defScope sInt) := ⟨rfl, rfl, rfl, by decide +kernel, rfl, by decide +kernel, by decide +kernel⟩
abbrev sName : Stmt := top 6
abbrev nName : List Str := ["value", "sign"]
abbrev pName : List Str := ["value"]
theorem scName : FnScope nName pName (defScope sName) := ⟨rfl, rfl, rfl, by decide +kernel, rfl, by decide +kernel, by decide +kernel⟩
abbrev sWgt : Stmt := top 26
abbrev nWgt : List Str := ["value"]
abbrev pWgt : List Str := ["value"]
theorem scWgt : FnScope nWgt pWgt (defScope sWgt) := ⟨rfl, rfl, rfl, by decide +kernel, rfl, by decide +kernel, by decide +kernel⟩
abbrev sRoww : Stmt := top 27
abbrev nRoww : List Str := ["value", "many", "weight"]
abbrev pRoww : List Str := ["value", "many"]
theorem scRoww : FnScope nRoww pRoww (defScope sRoww) := ⟨rfl, rfl, rfl, by decide +kernel, rfl, by decide +kernel, by decide +kernel⟩
abbrev sWay : Stmt := top 28
abbrev nWay : List Str := ["value", "many", "row"]
abbrev pWay : List Str := ["value", "many"]
theorem scWay : FnScope nWay pWay (defScope sWay) := ⟨rfl, rfl, rfl, by decide +kernel, rfl, by decide +kernel, by decide +kernel⟩
abbrev sCMi : Stmt := top 29
abbrev nCMi : List Str := ["minds", "at", "mind"]
abbrev pCMi : List Str := ["minds"]
theorem scCMi : FnScope nCMi pCMi (defScope sCMi) := ⟨rfl, rfl, rfl, by decide +kernel, rfl, by decide +kernel, by decide +kernel⟩
abbrev sCWa : Stmt := top 30
abbrev nCWa : List Str := ["ways", "many", "at", "way"]
abbrev pCWa : List Str := ["ways", "many"]
theorem scCWa : FnScope nCWa pCWa (defScope sCWa) := ⟨rfl, rfl, rfl, by decide +kernel, rfl, by decide +kernel, by decide +kernel⟩
def spInt (K : PySem.W.Frag) : Sp := fun vs H Q _ => ∃ (x : V) (t : Value) (b1 b2 : Bool), vs = [x] ∧ TyX K H x t ∧ PySem.W.kitOne K t (.type "int") = some b1 ∧ PySem.W.kitOne K t (.type "bool") = some b2 ∧ Q (.bl (b1 && !b2)) H
def spWgt : Sp := fun vs H Q _ => ∃ (i : Int), vs = [.int i] ∧ Q (.bl (decide (0 ≤ i) && decide (i ≤ 1000000000))) H
/-- a row of ints, some number of them asked -/
def spRoww : Sp := fun vs H Q _ => ∃ (a : Addr) (r : List Int) (n : Int), vs = [.ref a, .int n] ∧ Tu H a (r.map V.int) ∧ r.length ≤ 1000 ∧
  ∀ H', Same H H' → Q (.bl (decide ((r.length : Int) = n) && ((r.all fun i => decide (0 ≤ i) && decide (i ≤ 1000000000)) && decide (0 < r.sum)))) H'
def nameB (x : Str) : Bool := decide (1 ≤ x.length) && decide (x.length ≤ 8) && (match x.cps.toList with | [] => false | c :: _ => decide (c ∈ ("abcdefghijklmnopqrstuvwxyz" : Str).cps.toList)) && x.cps.toList.all fun c => decide (c ∈ ("abcdefghijklmnopqrstuvwxyz0123456789" : Str).cps.toList)
def spName : Sp := fun vs H Q _ => ∃ (x : Str), vs = [.str x] ∧ x.length ≤ 1000 ∧ ∀ H', Same H H' → Q (.bl (nameB x)) H'
def rowB (n : Int) (r : List Int) : Bool := decide ((r.length : Int) = n) && ((r.all fun i => decide (0 ≤ i) && decide (i ≤ 1000000000)) && decide (0 < r.sum))
def spWay : Sp := fun vs H Q _ => ∃ (v : V) (ws : List (List Int)) (n : Int), vs = [v, .int n] ∧ Im H v (dWay ws) ∧ ws.length ≤ 1000 ∧ (∀ r ∈ ws, r.length ≤ 1000) ∧
  ∀ H', Same H H' → Q (.bl (decide ((ws.length : Int) = n) && ws.all (rowB n))) H'
/-- minds as a council has them -/
structure MindsOk (ms : List Str) : Prop where
  m1 : 1 ≤ ms.length
  m6 : ms.length ≤ 6
  nd : ms.Nodup
  nm : ∀ x ∈ ms, nameB x = true ∧ x.length ≤ 8
def spCMi : Sp := fun vs H Q _ => ∃ (v : V) (ms : List Str), vs = [v] ∧ Im H v (dMinds ms) ∧ MindsOk ms ∧ ∀ H', Same H H' → Q .non H'
theorem cutN {xs : List V} {i : Nat} (h : i ≤ xs.length) : cutV xs none (some (i : Int)) = xs.take i := by
  have e : HT.sIx xs.length xs.length (some (i : Int)) = i := by rw [HT.sIx_nat]; omega
  unfold cutV
  rw [e]
  show List.take (i - 0) (List.drop 0 xs) = _
  rw [Nat.sub_zero, List.drop_zero]
/-- ways as a council with so many minds has them -/
structure WaysOk (n : Nat) (ws : List (List (List Int))) : Prop where
  w1 : 1 ≤ ws.length
  w6 : ws.length ≤ 6
  n6 : n ≤ 6
  way : ∀ w ∈ ws, WayOk n w
theorem rowB_ok {n : Nat} {r : List Int} (h : RowOk n r) : rowB (n : Int) r = true := by
  obtain ⟨h1, h2, h3⟩ := h
  unfold rowB
  rw [decide_eq_true (by omega), decide_eq_true h3, Bool.true_and, Bool.and_true]
  refine List.all_eq_true.mpr fun x hx => ?_
  have := h2 x hx
  rw [decide_eq_true this.1, decide_eq_true this.2]; rfl
theorem wayB_ok {n : Nat} {w : List (List Int)} (h : WayOk n w) : (decide ((w.length : Int) = n) && w.all (rowB n)) = true := by
  obtain ⟨h1, h2⟩ := h
  rw [decide_eq_true (by omega), Bool.true_and]
  exact List.all_eq_true.mpr fun r hr => rowB_ok (h2 r hr)
def spCWa : Sp := fun vs H Q _ => ∃ (v : V) (n : Nat) (ws : List (List (List Int))), vs = [v, .int n] ∧ Im H v (dWays ws) ∧ WaysOk n ws ∧ ∀ H', Same H H' → Q .non H'
theorem nodup_take : ∀ {l : List Str} {i : Nat} (nd : l.Nodup) (hi : i < l.length), l[i] ∈ l.take i → False
  | [], _, _, h, _ => absurd h (Nat.not_lt_zero _)
  | x :: l, 0, _, _, hm => by simp at hm
  | x :: l, i + 1, nd, h, hm => by
    have hn := List.nodup_cons.mp nd
    have h' : i < l.length := Nat.lt_of_succ_lt_succ h
    have e : (x :: l)[i + 1] = l[i] := rfl
    rw [e, List.take_succ_cons] at hm
    rcases List.mem_cons.mp hm with q | q
    · exact hn.1 (q ▸ List.getElem_mem h')
    · exact nodup_take hn.2 h' q
theorem inV_strs {x : Str} {l : List Str} (h : x ∉ l) : inV (.str x) (l.map V.str) = false := by
  unfold inV
  rw [List.any_map]
  refine List.any_eq_false.mpr fun y hy => ?_
  intro z
  have e : y = x := by
    have z' : (y == x) = true := z
    exact eq_of_beq z'
  exact h (e ▸ hy)
section
variable {P : Program} {w : World} {K : PySem.W.Frag} {mg : Str → Option Value} {base : Heap}
theorem ok_int {f : Addr} {fd : FuncData} (F : Fun K "is_integer" "is_integer" sInt f fd) (T : Bt mg) : FnOk P w K mg base CX0 1 f fd pInt (spInt K) := by
  refine F.ok scInt (fun vs H Q E h => ?_) (fun cdv A outer s H vs Q E hr h => ?_)
  · obtain ⟨x, t, b1, b2, rfl, _⟩ := h
    rfl
  · obtain ⟨x, t, b1, b2, rfl, ty, k1, k2, k⟩ := h
    refine ⟨_, (pss_one (ps_ret (pe_and (pe_callB (isiQ K) (by rfl) T.isinstance (by decide +kernel) (pa_cons (pv 0) (pa_cons (pe_bltn (v := .ty "int") (u := .type "int") (by rfl) T.int (by decide +kernel) rfl) pa_nil))) (pe_one (pe_not (pe_callB (isiQ K) (by rfl) T.isinstance (by decide +kernel) (pa_cons (pv 0) (pa_cons (pe_bltn (v := .ty "bool") (u := .type "bool") (by rfl) T.bool (by decide +kernel) rfl) pa_nil)))))))), ?_⟩
    refine ⟨_, rfl, _, _, _, _, _, rfl, .ty _, ty, k1, _, rfl, ?_⟩
    cases b1 with
    | false => exact iteF k
    | true => exact iteT ⟨_, rfl, _, _, _, _, _, rfl, .ty _, ty, k2, _, rfl, k⟩
abbrev DInt (P : Program) (w : World) (K : PySem.W.Frag) (mg : Str → Option Value) (base : Heap) : Prop := DefX P w K mg base 1 "is_integer" pInt (spInt K)
theorem ok_wgt {f : Addr} {fd : FuncData} (F : Fun K "is_weight" "is_weight" sWgt f fd) (T : Bt mg) (DI : DInt P w K mg base) : FnOk P w K mg base CX0 3 f fd pWgt spWgt := by
  refine F.ok scWgt (fun vs H Q E h => ?_) (fun cdv A outer s H vs Q E hr h => ?_)
  · obtain ⟨i, rfl, _⟩ := h
    rfl
  · obtain ⟨i, rfl, k⟩ := h
    refine ⟨_, (pss_one (ps_ret (pe_and (pe_fn DI hr (by decide) (pa_cons (pv 0) pa_nil)) (pe_one (pe_chain op_le op_le pe_int (pv 0) (pe_globE T.g_MOST_WEIGHT)))))), ?_⟩
    refine ⟨_, rfl, _, _, true, false, rfl, .base (.int i), kit_ty (by decide +kernel), kit_ty (by decide +kernel), _, rfl, iteT ⟨_, rfl, _, _, rfl, rfl, _, rfl, ite2 (fun h => ⟨_, _, rfl, rfl, ?_⟩) (fun h => ?_)⟩⟩
    · rw [h, Bool.true_and] at k; exact k
    · rw [Bool.eq_false_iff.mpr h, Bool.false_and] at k; exact k
theorem ok_roww {f : Addr} {fd : FuncData} (F : Fun K "is_row" "is_row" sRoww f fd) (T : Bt mg) (DW : DefX P w K mg base 3 "is_weight" pWgt spWgt) : FnOk P w K mg base CX0 5 f fd pRoww spRoww := by
  refine F.ok scRoww (fun vs H Q E h => ?_) (fun cdv A outer s H vs Q E hr h => ?_)
  · obtain ⟨a, r, n, rfl, _⟩ := h
    rfl
  · obtain ⟨a, r, n, rfl, ha, hl, k⟩ := h
    refine ⟨_, (pss_cons (ps_if (PW.pt (pw_or (pt_not (pt_val (pe_callB (isiQ K) (by rfl) T.isinstance (by decide +kernel) (pa_cons (pv 0) (pa_cons (pe_bltn (v := .ty "tuple") (u := .type "tuple") (by rfl) T.tuple (by decide +kernel) rfl) pa_nil))))) (pw_or1 (pt_cmpR op_ne (pe_callB (lenQ K) (by rfl) T.len (by decide +kernel) (pa_cons (pv 0) pa_nil)) (pv 1) (nomark _)))))
        (pss_one (ps_ret pe_bl)) pss_nil)
      (pss_one (ps_ret (pe_and (pe_callB (allL K) (by rfl) T.all (by decide +kernel) (pa_cons (pe_lc (own := [("weight", 2)]) (g := gName 2) (tt := tYes) rfl scRoww.nd (piT K (pv 0)) (blkOk_by (own := [("weight", 2)]) (N := nRoww) (sc := defScope sRoww) (by decide +kernel)) (fun _ _ _ _ _ => (pg_name (i := 2) scRoww.nd rfl (Or.inl rfl))) (fun _ _ _ _ _ => pts_nil)
          (fun _ _ _ _ _ => (pe_fn DW hr (by decide) (pa_cons (pv 2) pa_nil)))) pa_nil)) (pe_one (pe_cmpR op_gt (pe_callB (sumT K) (by rfl) T.sum (by decide +kernel) (pa_cons (pv 0) pa_nil)) pe_int (nomark _))))))), ?_⟩
    refine ⟨_, rfl, _, _, _, _, true, rfl, .ty _, ha.tyx, kit_ty (by decide +kernel), _, rfl, iteF ?_⟩
    refine ⟨_, rfl, a, _, rfl, .inr (ha.sq), _, rfl, rfl, _, rfl, ?_⟩
    rw [List.length_map]
    by_cases hn : (r.length : Int) = n
    · rw [decide_eq_true hn, Bool.true_and] at k
      refine ite2 (fun z => ?_) (fun _ => ?_)
      · exfalso
        rw [hn] at z
        simp at z
      refine ⟨_, rfl, a, rfl, ⟨_, ha.sq⟩, fun D hD => ?_⟩
      refine lc_it (walk_tup (K := K) (a := a) (xs := r.map V.int)) (PvS H D ((r.map fun i => decide (0 ≤ i) && decide (i ≤ 1000000000)).map V.bl)) (pvs0 hD) (fun i H1 _ h => (ha.same h.1).sq) ?_ (fun H1 h => ?_)
      · rintro i x H1 _ hi h ⟨rfl, hx⟩
        rw [List.getElem?_map] at hx
        cases hz : r[i]? with
        | none => rw [hz] at hx; cases hx
        | some z =>
          rw [hz] at hx
          cases hx
          refine ⟨rfl, turnY ?_⟩
          exact ⟨_, rfl, z, rfl, pvs1 hD h (Same.refl _) (by rw [List.length_map, List.length_map]; exact hl) (by rw [List.getElem?_map, List.getElem?_map, hz]; rfl)⟩
      obtain ⟨s1, hl1⟩ := pvsE h (by rw [List.length_map, List.length_map, List.length_map])
      refine ⟨D, _, rfl, SqL.of hl1, _, rfl, ?_⟩
      have ea : (r.map fun i => decide (0 ≤ i) && decide (i ≤ 1000000000)).all id = r.all fun i => decide (0 ≤ i) && decide (i ≤ 1000000000) := by
        rw [List.all_map]; rfl
      rw [ea]
      have k' := k H1 s1
      generalize (r.all fun i => decide (0 ≤ i) && decide (i ≤ 1000000000)) = bb at k' ⊢
      cases bb with
      | false => exact iteF k'
      | true => exact iteT ⟨_, rfl, a, r, rfl, (ha.same s1).sq, _, _, rfl, rfl, k'⟩
    · rw [decide_eq_false hn, Bool.false_and] at k
      refine ite2 (fun _ => k H (Same.refl H)) (fun z => ?_)
      exfalso
      refine z ?_
      have e : ¬ (V.int (r.length : Int) = V.int n) := fun q => hn (by injection q)
      rw [decide_eq_false e]; rfl
theorem ok_way {f : Addr} {fd : FuncData} (F : Fun K "is_way" "is_way" sWay f fd) (T : Bt mg) (DR : DefX P w K mg base 5 "is_row" pRoww spRoww) : FnOk P w K mg base CX0 7 f fd pWay spWay := by
  refine F.ok scWay (fun vs H Q E h => ?_) (fun cdv A outer s H vs Q E hr h => ?_)
  · obtain ⟨v, ws, n, rfl, _⟩ := h
    rfl
  · obtain ⟨v, ws, n, rfl, im, hl, hr1, k⟩ := h
    obtain ⟨a, xs, rfl, ha, hall⟩ := im.tuple
    refine ⟨_, (pss_cons (ps_if (PW.pt (pw_or (pt_not (pt_val (pe_callB (isiQ K) (by rfl) T.isinstance (by decide +kernel) (pa_cons (pv 0) (pa_cons (pe_bltn (v := .ty "tuple") (u := .type "tuple") (by rfl) T.tuple (by decide +kernel) rfl) pa_nil))))) (pw_or1 (pt_cmpR op_ne (pe_callB (lenQ K) (by rfl) T.len (by decide +kernel) (pa_cons (pv 0) pa_nil)) (pv 1) (nomark _)))))
        (pss_one (ps_ret pe_bl)) pss_nil)
      (pss_one (ps_ret (pe_callB (allL K) (by rfl) T.all (by decide +kernel) (pa_cons (pe_lc (own := [("row", 2)]) (g := gName 2) (tt := tYes) rfl scWay.nd (piT K (pv 0)) (blkOk_by (own := [("row", 2)]) (N := nWay) (sc := defScope sWay) (by decide +kernel)) (fun _ _ _ _ _ => (pg_name (i := 2) scWay.nd rfl (Or.inl rfl))) (fun _ _ _ _ _ => pts_nil)
          (fun _ _ _ _ _ => (pe_fn DR hr (by decide) (pa_cons (pv 2) (pa_cons (pv 1) pa_nil))))) pa_nil))))), ?_⟩
    refine ⟨_, rfl, _, _, _, _, true, rfl, .ty _, ha.tyx, kit_ty (by decide +kernel), _, rfl, iteF ?_⟩
    refine ⟨_, rfl, a, _, rfl, .inr (ha.sq), _, rfl, rfl, _, rfl, ?_⟩
    have hxl : xs.length = ws.length := by rw [hall.length, List.length_map]
    rw [hxl]
    by_cases hn : (ws.length : Int) = n
    · rw [decide_eq_true hn, Bool.true_and] at k
      refine ite2 (fun z => ?_) (fun _ => ?_)
      · exfalso
        rw [hn] at z
        simp at z
      refine ⟨_, rfl, a, rfl, ⟨_, ha.sq⟩, fun D hD => ?_⟩
      refine lc_it (walk_tup (K := K) (a := a) (xs := xs)) (PvS H D ((ws.map (rowB n)).map V.bl)) (pvs0 hD) (fun i H1 _ h => (ha.same h.1).sq) ?_ (fun H1 h => ?_)
      · rintro i x H1 _ hi h ⟨rfl, hx⟩
        obtain ⟨d, hd, imx⟩ := hall.get hx
        rw [List.getElem?_map] at hd
        cases hz : ws[i]? with
        | none => rw [hz] at hd; cases hd
        | some r =>
          rw [hz] at hd
          cases hd
          obtain ⟨a2, ys, rfl, ha2, hall2⟩ := imx.tuple
          have hys := hall2.ints
          subst hys
          refine ⟨rfl, turnY ?_⟩
          refine ⟨_, rfl, _, rfl, a2, r, n, rfl, ha2.same h.1, hr1 r (List.mem_of_getElem? hz), fun H2 s2 => ?_⟩
          exact pvs1 hD h s2 (by rw [List.length_map, List.length_map]; exact hl) (by rw [List.getElem?_map, List.getElem?_map, hz]; rfl)
      obtain ⟨s1, hl1⟩ := pvsE h (by rw [List.length_map, List.length_map, hxl])
      refine ⟨D, _, rfl, SqL.of hl1, ?_⟩
      have ea : (ws.map (rowB n)).all id = ws.all (rowB n) := by
        rw [List.all_map]; rfl
      rw [ea]
      exact k H1 s1
    · rw [decide_eq_false hn, Bool.false_and] at k
      refine ite2 (fun _ => k H (Same.refl H)) (fun z => ?_)
      exfalso
      refine z ?_
      have e : ¬ (V.int (ws.length : Int) = V.int n) := fun q => hn (by injection q)
      rw [decide_eq_false e]; rfl
theorem ok_name {f : Addr} {fd : FuncData} (F : Fun K "is_name" "is_name" sName f fd) (T : Bt mg) : FnOk P w K mg base CX0 1 f fd pName spName := by
  refine F.ok scName (fun vs H Q E h => ?_) (fun cdv A outer s H vs Q E hr h => ?_)
  · obtain ⟨x, rfl, _⟩ := h
    rfl
  · obtain ⟨x, rfl, hl, k⟩ := h
    refine ⟨_, (pss_cons (ps_if (PW.pt (pw_or (pt_not (pt_val (pe_callB (isiQ K) (by rfl) T.isinstance (by decide +kernel) (pa_cons (pv 0) (pa_cons (pe_bltn (v := .ty "str") (u := .type "str") (by rfl) T.str (by decide +kernel) rfl) pa_nil))))) (pw_or1 (pt_not (pt_chain op_le op_le pe_int (pe_callB call_len_str (by rfl) T.len (by decide +kernel) (pa_cons (pv 0) pa_nil)) (pe_globE T.g_LONGEST_NAME))))))
        (pss_one (ps_ret pe_bl)) pss_nil)
      (pss_one (ps_ret (pe_and (pe_cmpR op_in_sign (pe_ix ix_str (pv 0) pe_int (fun _ _ => rfl)) (pe_globE T.g_LETTERS) (by rfl)) (pe_one (pe_callB (allL K) (by rfl) T.all (by decide +kernel) (pa_cons (pe_lc (own := [("sign", 1)]) (g := gName 1) (tt := tYes) rfl scName.nd (pi_str (pv 0)) (blkOk_by (own := [("sign", 1)]) (N := nName) (sc := defScope sName) (by decide +kernel)) (fun _ _ _ _ _ => (pg_name (i := 1) scName.nd rfl (Or.inl rfl))) (fun _ _ _ _ _ => pts_nil)
          (fun _ _ _ _ _ => (pe_cmpR op_in_sign (pv 1) (pe_globE T.g_LETTERS_AND_DIGITS) (by rfl)))) pa_nil))))))), ?_⟩
    refine ⟨_, rfl, _, _, _, _, true, rfl, .ty _, .base (.str x), kit_ty (by decide +kernel), _, rfl, iteF ?_⟩
    have lz : x.length ≤ sizeLine := Nat.le_trans hl (by decide)
    have k0 := k H (Same.refl H)
    refine ⟨_, rfl, x, rfl, lz, _, _, rfl, rfl, _, rfl, ite2 (fun h1 => ⟨_, _, rfl, rfl, _, rfl, ite2 (fun h2 => ?_) (fun h2 => ?_)⟩) (fun h1 => ⟨_, rfl, iteT ?_⟩)⟩
    · have h2' : ¬ x.length ≤ 8 := fun z => by
        have z' : ((x.length : Nat) : Int) ≤ 8 := by omega
        rw [decide_eq_true z'] at h2
        exact absurd h2 (by decide)
      unfold nameB at k0
      rw [decide_eq_false h2', Bool.and_false, Bool.false_and, Bool.false_and] at k0
      exact k0
    · have h1' : 1 ≤ x.length := by have := of_decide_eq_true h1; omega
      have h2' : x.length ≤ 8 := by
        apply Classical.byContradiction
        intro z
        have z' : ¬ ((x.length : Nat) : Int) ≤ 8 := by omega
        rw [decide_eq_false z'] at h2
        exact h2 rfl
      have hne : 0 < x.cps.toList.length := by
        have : x.length = x.cps.toList.length := by show x.cps.size = _; rw [Array.length_toList]
        omega
      obtain ⟨c, r, hc⟩ : ∃ c r, x.cps.toList = c :: r := by
        cases e : x.cps.toList with
        | nil => rw [e] at hne; exact absurd hne (by decide)
        | cons c r => exact ⟨c, r, rfl⟩
      have nb : nameB x = (decide (c ∈ ("abcdefghijklmnopqrstuvwxyz" : Str).cps.toList) && x.cps.toList.all fun c => decide (c ∈ ("abcdefghijklmnopqrstuvwxyz0123456789" : Str).cps.toList)) := by
        unfold nameB
        rw [decide_eq_true h1', decide_eq_true h2', hc]
        rfl
      rw [nb] at k
      refine ⟨_, rfl, x, 0, c, rfl, rfl, lz, by rw [hc]; exact atI_nat (j := 0) rfl, c, _, rfl, rfl, _, rfl, ite2 (fun hf => ?_) (fun hf => ?_)⟩
      · rw [hf, Bool.true_and] at k
        refine ⟨_, rfl, x, rfl, fun D hD => ?_⟩
        refine lc_it (walk_str (z := x)) (PvS H D ((x.cps.toList.map fun c => decide (c ∈ ("abcdefghijklmnopqrstuvwxyz0123456789" : Str).cps.toList)).map V.bl)) (pvs0 hD) (fun i H1 _ h => trivial) ?_ (fun H1 h => ?_)
        · rintro i y H1 _ hi h ⟨rfl, q, hq, rfl⟩
          refine ⟨rfl, turnY ?_⟩
          exact ⟨_, rfl, q, _, rfl, rfl, pvs1 hD h (Same.refl _) (by rw [List.length_map, List.length_map, Array.length_toList]; exact hl) (by rw [List.getElem?_map, List.getElem?_map, Array.getElem?_toList, hq]; rfl)⟩
        obtain ⟨s1, hl1⟩ := pvsE h (by rw [List.length_map, List.length_map, Array.length_toList])
        refine ⟨D, _, rfl, SqL.of hl1, ?_⟩
        rw [List.all_map]
        exact k H1 s1
      · rw [Bool.eq_false_iff.mpr hf, Bool.false_and] at k
        exact k H (Same.refl H)
    · have h1' : ¬ 1 ≤ x.length := fun z => h1 (decide_eq_true (by omega))
      unfold nameB at k0
      rw [decide_eq_false h1', Bool.false_and, Bool.false_and, Bool.false_and] at k0
      exact k0
theorem ok_cmi {f : Addr} {fd : FuncData} (F : Fun K "check_minds" "check_minds" sCMi f fd) (T : Bt mg) (DN : DefX P w K mg base 1 "is_name" pName spName) : FnOk P w K mg base CX0 3 f fd pCMi spCMi := by
  refine F.ok scCMi (fun vs H Q E h => ?_) (fun cdv A outer s H vs Q E hr h => ?_)
  · obtain ⟨v, ms, rfl, _⟩ := h
    rfl
  · obtain ⟨v, ms, rfl, im, ok, k⟩ := h
    obtain ⟨a, xs, rfl, ha, hall⟩ := im.tuple
    have hys := hall.strs
    subst hys
    refine ⟨_, (pss_cons (ps_if (PW.pt (pw_or (pt_not (pt_val (pe_callB (isiQ K) (by rfl) T.isinstance (by decide +kernel) (pa_cons (pv 0) (pa_cons (pe_bltn (v := .ty "tuple") (u := .type "tuple") (by rfl) T.tuple (by decide +kernel) rfl) pa_nil))))) (pw_or1 (pt_cmpR op_eq (pe_callB (lenQ K) (by rfl) T.len (by decide +kernel) (pa_cons (pv 0) pa_nil)) pe_int (nomark _)))))
        (pss_one ps_never) pss_nil)
      (pss_one (ps_for PassesOwn.never rfl (pi_enumT K (by rfl) T.enumerate (pa_cons (pv 0) pa_nil)) (pg_tup (by rfl) (pgs_cons (pg_name (i := 1) scCMi.nd rfl (Or.inl rfl)) (pgs_cons (pg_name (i := 2) scCMi.nd rfl (Or.inl rfl)) pgs_nil)))
        (pss_one (ps_if (PW.pt (pw_or (pt_not (pt_val (pe_fn DN hr (by decide) (pa_cons (pv 2) pa_nil)))) (pw_or (pt_cmpR (inQ K) (pv 2) (pe_slice (slA K) (pv 0) po_none (po_some (pv 1))) (by rfl)) (pw_or1 (pt_cmpR op_eq (pv 1) (pe_globE T.g_MOST_MINDS) (nomark _))))))
        (pss_one ps_never) pss_nil))))), ?_⟩
    refine ⟨_, rfl, _, _, _, _, true, rfl, .ty _, ha.tyx, kit_ty (by decide +kernel), _, rfl, iteF ?_⟩
    refine ⟨_, rfl, a, _, rfl, .inr (ha.sq), rfl, _, rfl, ite2 (fun z => ?_) (fun _ => ?_)⟩
    · exfalso
      have z' := of_decide_eq_true z
      rw [List.length_map] at z'
      have := ok.m1
      injection z' with z'
      omega
    refine ⟨_, rfl, a, _, rfl, ha.sq, ?_⟩
    refine for_it (walk_enumT (K := K) (a := a) (xs := ms.map V.str)) (fun i σ H1 => ∃ p q : Option V, σ = [some (.ref a), p, q] ∧ Same H H1) ⟨none, none, rfl, Same.refl H⟩ (fun i σ H1 _ ⟨_, _, _, s1⟩ => (ha.same s1).sq) ?_ ?_
    · rintro i v σ H1 _ hi ⟨p, q, rfl, s1⟩ ⟨T', x, rfl, hT, rfl, hx⟩
      rw [List.length_map] at hi
      rw [List.getElem?_map, List.getElem?_eq_getElem hi] at hx
      cases hx
      refine ⟨T', _, rfl, SqT.of upd_same, rfl, _, _, rfl, _, _, rfl, rfl, ?_⟩
      have hm := ok.nm _ (List.getElem_mem hi)
      have s2 := s1.trans (same_upd (o := HO.tup [V.int (i : Nat), V.str ms[i]]) hT)
      refine ⟨_, rfl, _, rfl, Nat.le_trans hm.2 (by decide), fun H2 s3 => ⟨_, rfl, ?_⟩⟩
      rw [hm.1]
      refine iteF ?_
      have s4 := s2.trans s3
      refine ⟨_, rfl, _, rfl, _, rfl, _, rfl, a, _, rfl, (ha.same s4).sq, fun hw => ?_, fun hw p np => ?_⟩
      · exfalso
        have q := hw.2
        rw [HT.sIx_nat, List.length_map] at q
        omega
      rw [cutN (by rw [List.length_map]; omega), ← List.map_take]
      refine ⟨p, _, rfl, .inr (SqT.of upd_same), rfl, by rw [List.all_map]; exact List.all_eq_true.mpr fun _ _ => rfl, _, rfl, ?_⟩
      rw [inV_strs (fun z => ?_)]
      · refine iteF ⟨_, rfl, rfl, _, rfl, ite2 (fun z => ?_) (fun _ => ?_)⟩
        · exfalso
          have z' := of_decide_eq_true z
          have := ok.m6
          injection z' with z'
          omega
        · exact ⟨_, _, rfl, s4.trans (same_upd np)⟩
      · exact nodup_take ok.nd hi z
    · rintro σ H1 ⟨p, q, rfl, s1⟩
      exact k H1 s1
theorem ok_cwa {f : Addr} {fd : FuncData} (F : Fun K "check_ways" "check_ways" sCWa f fd) (T : Bt mg) (DY : DefX P w K mg base 7 "is_way" pWay spWay) : FnOk P w K mg base CX0 9 f fd pCWa spCWa := by
  refine F.ok scCWa (fun vs H Q E h => ?_) (fun cdv A outer s H vs Q E hr h => ?_)
  · obtain ⟨v, n, ws, rfl, _⟩ := h
    rfl
  · obtain ⟨v, n, ws, rfl, im, ok, k⟩ := h
    obtain ⟨a, xs, rfl, ha, hall⟩ := im.tuple
    have hxl : xs.length = ws.length := by rw [hall.length, List.length_map]
    refine ⟨_, (pss_cons (ps_if (PW.pt (pw_or (pt_not (pt_val (pe_callB (isiQ K) (by rfl) T.isinstance (by decide +kernel) (pa_cons (pv 0) (pa_cons (pe_bltn (v := .ty "tuple") (u := .type "tuple") (by rfl) T.tuple (by decide +kernel) rfl) pa_nil))))) (pw_or1 (pt_cmpR op_eq (pe_callB (lenQ K) (by rfl) T.len (by decide +kernel) (pa_cons (pv 0) pa_nil)) pe_int (nomark _)))))
        (pss_one ps_never) pss_nil)
      (pss_one (ps_for PassesOwn.never rfl (pi_enumT K (by rfl) T.enumerate (pa_cons (pv 0) pa_nil)) (pg_tup (by rfl) (pgs_cons (pg_name (i := 2) scCWa.nd rfl (Or.inl rfl)) (pgs_cons (pg_name (i := 3) scCWa.nd rfl (Or.inl rfl)) pgs_nil)))
        (pss_one (ps_if (PW.pt (pw_or (pt_not (pt_val (pe_fn DY hr (by decide) (pa_cons (pv 3) (pa_cons (pv 1) pa_nil))))) (pw_or1 (pt_cmpR op_eq (pv 2) (pe_globE T.g_MOST_WAYS) (nomark _)))))
        (pss_one ps_never) pss_nil))))), ?_⟩
    refine ⟨_, rfl, _, _, _, _, true, rfl, .ty _, ha.tyx, kit_ty (by decide +kernel), _, rfl, iteF ?_⟩
    refine ⟨_, rfl, a, _, rfl, .inr (ha.sq), rfl, _, rfl, ite2 (fun z => ?_) (fun _ => ?_)⟩
    · exfalso
      have z' := of_decide_eq_true z
      rw [hxl] at z'
      have := ok.w1
      injection z' with z'
      omega
    refine ⟨_, rfl, a, _, rfl, ha.sq, ?_⟩
    refine for_it (walk_enumT (K := K) (a := a) (xs := xs)) (fun i σ H1 => ∃ p q : Option V, σ = [some (.ref a), some (.int n), p, q] ∧ Same H H1) ⟨none, none, rfl, Same.refl H⟩ (fun i σ H1 _ ⟨_, _, _, s1⟩ => (ha.same s1).sq) ?_ ?_
    · rintro i v σ H1 _ hi ⟨p, q, rfl, s1⟩ ⟨T', x, rfl, hT, rfl, hx⟩
      obtain ⟨d, hd, imx⟩ := hall.get hx
      rw [hxl] at hi
      rw [List.getElem?_map, List.getElem?_eq_getElem hi] at hd
      cases hd
      have hw := ok.way _ (List.getElem_mem hi)
      have n6 := ok.n6
      refine ⟨T', _, rfl, SqT.of upd_same, rfl, _, _, rfl, _, _, rfl, rfl, ?_⟩
      have s2 := s1.trans (same_upd (o := HO.tup [V.int (i : Nat), x]) hT)
      refine ⟨_, rfl, _, rfl, x, ws[i], n, rfl, Im.mono (Same.tups s2) _ _ imx, by rw [hw.1]; omega, fun r hr => by rw [(hw.2 r hr).1]; omega, fun H2 s3 => ⟨_, rfl, ?_⟩⟩
      rw [wayB_ok hw]
      refine iteF ⟨_, rfl, rfl, _, rfl, ite2 (fun z => ?_) (fun _ => ?_)⟩
      · exfalso
        have z' := of_decide_eq_true z
        have := ok.w6
        injection z' with z'
        omega
      · exact ⟨_, _, rfl, s2.trans s3⟩
    · rintro σ H1 ⟨p, q, rfl, s1⟩
      exact k H1 s1
end
end M

namespace M
open PySem L2 U
abbrev sJug : Stmt := top 36
abbrev sSip : Stmt := top 37
abbrev sRow : Stmt := top 38
abbrev sTalk : Stmt := top 39
abbrev sPair : Stmt := top 40

theorem cut6 (ns : List Int) : cutV (ns.map V.int) none (some 6) = (ns.take 6).map V.int := by
  have e : HT.sIx (ns.map V.int).length (ns.map V.int).length (some (6 : Int)) = min 6 ns.length := by
    rw [List.length_map]; exact HT.sIx_nat _ _ 6
  unfold cutV
  rw [e]
  show List.take (min 6 ns.length - 0) (List.drop 0 (ns.map V.int)) = _
  rw [Nat.sub_zero, List.drop_zero, ← List.map_take]
  congr 1
  rw [List.take_eq_take_iff]; omega
theorem cut6_le (fig : Int) (ns : List Int) : ([V.int fig] : List V).length + (cutV (ns.map V.int) none (some 6)).length ≤ sizeLine := by
  rw [cut6, List.length_map, List.length_take, sizeLine_eq]
  show 1 + min 6 ns.length ≤ 16777216
  omega
theorem cut6_int {fig : Int} {ns : List Int} {n : Nat} {x : V} (h : ([V.int fig] ++ cutV (ns.map V.int) none (some 6))[n]? = some x) : ∃ z, x = V.int z := by
  rw [cut6] at h
  have e : [V.int fig] ++ (ns.take 6).map V.int = (fig :: ns.take 6).map V.int := rfl
  rw [e, List.getElem?_map] at h
  cases q : (fig :: ns.take 6)[n]? with
  | none => rw [q] at h; cases h
  | some z => rw [q] at h; exact ⟨z, (Option.some.inj h).symm⟩
theorem sum_nonneg {r : List Int} (h : ∀ x ∈ r, 0 ≤ x) : 0 ≤ r.sum := by
  induction r with
  | nil => exact Int.le_refl 0
  | cons a r ih =>
    rw [List.sum_cons]
    have := h a List.mem_cons_self
    have := ih fun x hx => h x (List.mem_cons_of_mem _ hx)
    omega
theorem sum_pos {r : List Int} {x : Int} (h : ∀ x ∈ r, 0 ≤ x) (hm : x ∈ r) (hx : 0 < x) : 0 < r.sum := by
  induction r with
  | nil => cases hm
  | cons a r ih =>
    rw [List.sum_cons]
    have h0 := h a List.mem_cons_self
    have h1 : 0 ≤ r.sum := sum_nonneg fun x hx => h x (List.mem_cons_of_mem _ hx)
    rcases List.mem_cons.mp hm with q | q
    · omega
    · have := ih (fun x hx => h x (List.mem_cons_of_mem _ hx)) q
      omega
theorem ixN_nat {n k : Nat} (h : k < n) : ixN n (k : Int) = some k := by
  unfold ixN
  rw [if_pos (by omega), if_pos (by omega)]
  simp
theorem seq_nat {n k : Nat} (h : k < n) : seqIndex? (k : Int) n = some k := (ixN_seq (ixN_nat h)).1
theorem erase_perm : ∀ {L : List Str} {q : Nat} (h : q < L.length), (L[q] :: L.eraseIdx q).Perm L
  | [], _, h => absurd h (Nat.not_lt_zero _)
  | x :: L, 0, _ => List.Perm.refl _
  | x :: L, q + 1, h => by
    have h' : q < L.length := Nat.lt_of_succ_lt_succ h
    have e : (x :: L)[q + 1] = L[q] := rfl
    rw [e]
    show (L[q] :: x :: L.eraseIdx q).Perm (x :: L)
    exact (List.Perm.swap x L[q] _).trans ((erase_perm h').cons x)
theorem erase_map : ∀ (L : List Str) (q : Nat), (L.map V.str).eraseIdx q = (L.eraseIdx q).map V.str
  | [], _ => rfl
  | x :: L, 0 => rfl
  | x :: L, q + 1 => by
    show V.str x :: (L.map V.str).eraseIdx q = V.str x :: (L.eraseIdx q).map V.str
    rw [erase_map L q]
/-! ### the jug -/
def spJug (K : PySem.W.Frag) : Sp := fun vs H Q _ => ∃ (a : Addr) (ns : List Int) (i : Nat), vs = [.ref a, .int i] ∧ SqL K H a (ns.map V.int) ∧ ns.length ≤ 63 ∧
  ∀ (H' : Hp) (j : Addr), Same H H' → H j = none → JugAt H' j → Q (.ref j) H'
def spSip : Sp := fun vs H Q _ => ∃ (j : Addr) (m : Int), vs = [.ref j, .int m] ∧ 0 < m ∧ m < 1073741824 ∧ JugAt H j ∧
  ∀ (H' : Hp) (d : Int), But j H H' → JugAt H' j → 0 ≤ d → d < m → Q (.int d) H'

section
variable {P : Program} {w : World} {K : PySem.W.Frag} {mg : Str → Option Value} {base : Heap}
theorem scJug : FnScope ["_law_script", "_law_at", "_law_figure", "_law_seed", "_law_each"] ["_law_script", "_law_at"] (defScope sJug) := ⟨rfl, rfl, rfl, by decide +kernel, rfl, by decide +kernel, by decide +kernel⟩
theorem ok_jug {f : Addr} {fd : FuncData} (F : Fun K "_law_jug" "_law_jug" sJug f fd) (T : Bt mg) : FnOk P w K mg base CX0 1 f fd ["_law_script", "_law_at"] (spJug K) := by
  refine F.ok scJug (fun vs H Q E h => ?_) (fun cdv A outer s H vs Q E hr h => ?_)
  · obtain ⟨a, ns, i, rfl, _⟩ := h
    rfl
  · obtain ⟨a, ns, i, rfl, hS, hl, k⟩ := h
    refine ⟨_, pss_cons (ps_set (i := 2) scJug.nd rfl (Or.inl rfl) (pe_ifExp (pt_cmpR op_lt (pv 1) (pe_callB (lenQ K) (by rfl) T.len PySem.boot_len (pa_cons (pv 0) pa_nil)) (nomark _)) (pe_ix (ixL K) (pv 0) (pv 1) (fun _ _ => rfl)) (pe_op op_add (pe_op op_mul pe_int (pv 1)) pe_int)))
      (pss_cons (ps_set (i := 3) scJug.nd rfl (Or.inl rfl) (pe_op op_add pe_int (pe_op op_mul pe_int (pv 1))))
      (pss_cons (ps_for PassesOwn.never rfl (piL K (pe_op op_cat (pe_lst (pa_cons (pv 2) pa_nil)) (pe_slice (slL K) (pv 0) po_none (po_some pe_int)))) (pg_name (i := 4) scJug.nd rfl (Or.inl rfl))
        (pss_one (ps_set (i := 3) scJug.nd rfl (Or.inl rfl) (pe_op op_mod (pe_callTy call_int1 (by rfl) T.int (by decide +kernel) (pa_cons (pe_op op_add (pe_op op_mul (pv 3) pe_int) (pv 4)) pa_nil)) pe_int))))
      (pss_one (ps_ret (pe_lst (pa_cons (pe_ifExp (pt_cmpR op_ge (pe_callB call_abs (by rfl) T.abs (by decide +kernel) (pa_cons (pv 2) pa_nil)) (pe_op op_pow pe_int pe_int) (nomark _)) (pe_callB call_abs (by rfl) T.abs (by decide +kernel) (pa_cons (pv 2) pa_nil)) pe_int) (pa_cons (pv 3) (pa_cons pe_int pa_nil)))))))), ?_⟩
    have hcond : ∀ z : Int, ¬ (if z < 0 then -z else z) < 0 := fun z => by split <;> omega
    -- the figure
    refine ⟨_, rfl, _, rfl, a, _, rfl, .inl hS, _, _, rfl, rfl, _, rfl, tif_int (fun _ => True) (fun hc Q' hR => ?_) (fun hc Q' hR => ?_) (fun fig _ => ?_)⟩
    · have hc' : i < ns.length := by have := of_decide_eq_true hc; simp at this; omega
      exact ⟨_, rfl, _, rfl, a, _, _, _, rfl, rfl, hS, atI_nat (j := i) (v := V.int ns[i]) (by rw [List.getElem?_map, List.getElem?_eq_getElem hc']; rfl), hR _ trivial⟩
    · exact ⟨_, rfl, _, _, rfl, rfl, .inl (by decide), _, _, rfl, rfl, hR _ trivial⟩
    -- the seed; the list that is walked
    refine ⟨_, rfl, _, _, rfl, rfl, .inl (by decide), _, _, rfl, rfl, ?_⟩
    refine ⟨_, rfl, by show 1 ≤ sizeLine; decide, fun l1 n1 => ?_⟩
    have s1 : Same H (upd H l1 (.lst [.int fig])) := same_upd n1
    refine ⟨_, rfl, _, rfl, a, _, rfl, s1.seq hS, fun l2 n2 => ?_⟩
    have s2 := s1.trans (same_upd (o := HO.lst (cutV (ns.map V.int) none (some 6))) n2)
    refine ⟨l1, l2, _, _, rfl, rfl, (by rw [upd_ne (ne_of_none upd_same n2)]; exact upd_same), upd_same, cut6_le fig ns, fun l3 n3 => ?_⟩
    have s3 := s2.trans (same_upd (o := HO.lst ([V.int fig] ++ cutV (ns.map V.int) none (some 6))) n3)
    -- the seed through the list
    refine ⟨l3, rfl, ⟨_, SqL.of upd_same⟩, for_list (K := K) (a := l3) (xs := [V.int fig] ++ cutV (ns.map V.int) none (some 6)) (fun _ σ H' => ∃ (sd : Int) (e : Option V), σ = [some (.ref a), some (.int i), some (.int fig), some (.int sd), e] ∧ Same H H' ∧ H' l3 = some (.lst ([V.int fig] ++ cutV (ns.map V.int) none (some 6))))
      ⟨_, none, rfl, s3, upd_same⟩ (fun i σ H' _ ⟨_, _, _, _, h3⟩ => SqL.of h3) ?_ ?_⟩
    · rintro n x σ H' hx ⟨sd, e, rfl, s4, h3⟩
      obtain ⟨z, rfl⟩ := cut6_int hx
      exact ⟨_, rfl, _, _, rfl, rfl, .inr (by decide), _, rfl, _, _, rfl, rfl, .inl ⟨_, rfl, _, _, rfl, rfl, (by decide : (0 : Int) < 2147483269), _, _, rfl, s4, h3⟩⟩
    · rintro σ H' ⟨sd, e, rfl, s4, h3⟩
      refine ⟨_, rfl, _, rfl, _, _, rfl, rfl, ⟨by decide, by decide, by decide⟩, _, _, rfl, rfl, _, rfl, tif_int (fun z => 0 ≤ z) (fun hc Q' hR => ?_) (fun hc Q' hR => ?_) (fun z hz => ?_)⟩
      · exact ⟨_, rfl, _, rfl, hR _ (by split <;> omega)⟩
      · exact hR 0 (by decide)
      · exact ⟨_, rfl, by show 3 ≤ sizeLine; decide, fun p np => k _ p (s4.trans (same_upd np)) (s4.free np) ⟨z, sd, 0, upd_same, hz⟩⟩

theorem scSip : FnScope ["_law_jug_here", "_law_most", "_law_digit"] ["_law_jug_here", "_law_most"] (defScope sSip) := ⟨rfl, rfl, rfl, by decide +kernel, rfl, by decide +kernel, by decide +kernel⟩
theorem ok_sip {f : Addr} {fd : FuncData} (F : Fun K "_law_sip" "_law_sip" sSip f fd) (T : Bt mg) : FnOk P w K mg base CX0 1 f fd ["_law_jug_here", "_law_most"] spSip := by
  refine F.ok scSip (fun vs H Q E h => ?_) (fun cdv A outer s H vs Q E hr h => ?_)
  · obtain ⟨j, m, rfl, _⟩ := h
    rfl
  · obtain ⟨j, m, rfl, hm, hm2, ⟨x, b, c, hj, hx⟩, k⟩ := h
    refine ⟨_, pss_cons (ps_if (pt_cmpR op_gt (pe_ix (ixL K) (pv 0) pe_int (fun _ _ => rfl)) pe_int (nomark _))
        (pss_cons (ps_asg (pe_callB call_divmod (by rfl) T.divmod (by decide +kernel) (pa_cons (pe_ix (ixL K) (pv 0) pe_int (fun _ _ => rfl)) (pa_cons (pv 1) pa_nil))) (pg_tup (by rfl) (pgs_cons (pg_sub (pv 0) pe_int set_list) (pgs_cons (pg_name (i := 2) scSip.nd rfl (Or.inl rfl)) pgs_nil))))
        (pss_one (ps_ret (pv 2)))) pss_nil)
      (pss_cons (ps_asg (pe_op op_add (pe_ix (ixL K) (pv 0) pe_int (fun _ _ => rfl)) pe_int) (pg_sub (pv 0) pe_int set_list))
      (pss_cons (ps_asg (pe_op op_mod (pe_callTy call_int1 (by rfl) T.int (by decide +kernel) (pa_cons (pe_op op_add (pe_op op_mul (pe_ix (ixL K) (pv 0) pe_int (fun _ _ => rfl)) pe_int) (pe_op op_mul pe_int (pe_ix (ixL K) (pv 0) pe_int (fun _ _ => rfl)))) pa_nil)) pe_int) (pg_sub (pv 0) pe_int set_list))
      (pss_one (ps_ret (pe_op op_mod (pe_callTy call_int1 (by rfl) T.int (by decide +kernel) (pa_cons (pe_op op_fdiv (pe_ix (ixL K) (pv 0) pe_int (fun _ _ => rfl)) pe_int) pa_nil)) (pv 1)))))), ?_⟩
    refine ⟨_, rfl, j, _, _, _, rfl, rfl, SqL.of hj, rfl, _, _, rfl, rfl, _, rfl, ite2 (fun h0 => ?_) (fun h0 => ?_)⟩
    · refine ⟨_, rfl, j, _, _, _, rfl, rfl, SqL.of hj, rfl, _, rfl, _, _, rfl, ⟨hm, hm2⟩, fun p np => ?_⟩
      have hjp : j ≠ p := ne_of_none hj np
      have hj1 : (upd H p (HO.tup [.int (x / m), .int (x % m)])) j = some (.lst [.int x, .int b, .int c]) := by rw [upd_ne hjp]; exact hj
      refine ⟨p, _, rfl, SqT.of upd_same, rfl, _, _, rfl, _, rfl, j, _, _, _, rfl, rfl, hj1, rfl, _, _, rfl, rfl, _, rfl, ?_⟩
      refine k _ _ (fun o u hb e => ?_) ⟨x / m, b, c, upd_same, Int.ediv_nonneg hx (Int.le_of_lt hm)⟩ (Int.emod_nonneg _ (by omega)) (Int.emod_lt_of_pos _ hm)
      rw [upd_ne hb, upd_ne (ne_of_none e np)]; exact e
    · refine ⟨_, rfl, j, _, _, _, rfl, rfl, SqL.of hj, rfl, _, _, rfl, rfl, _, rfl, j, _, _, _, rfl, rfl, hj, rfl, ?_⟩
      refine ⟨_, rfl, j, _, _, _, rfl, rfl, SqL.of upd_same, rfl, _, _, rfl, rfl, .inr (by decide), _, rfl, j, _, _, _, rfl, rfl, SqL.of upd_same, rfl, _, _, rfl, rfl, .inl (by decide), _, _, rfl, rfl, .inl ⟨_, rfl, _, _, rfl, rfl, (by decide : (0 : Int) < 2147483269), _, rfl, j, _, _, _, rfl, rfl, upd_same, rfl, ?_⟩⟩
      refine ⟨_, rfl, j, _, _, _, rfl, rfl, SqL.of upd_same, rfl, _, _, rfl, rfl, ⟨by decide, by decide⟩, .inl ⟨_, rfl, _, rfl, _, _, rfl, rfl, hm, ?_⟩⟩
      refine k _ _ (fun o u hb e => ?_) ⟨x, _, _, upd_same, hx⟩ (Int.emod_nonneg _ (by omega)) (Int.emod_lt_of_pos _ hm)
      rw [upd_ne hb, upd_ne hb]; exact e

def RowDr (n : Nat) (r : List Int) : Prop := RowOk n r ∧ ∀ x ∈ r, x ≤ 7 ∨ x = 1000000000
def WayDr (n : Nat) (w : List (List Int)) : Prop := w.length = n ∧ ∀ r ∈ w, RowDr n r
theorem WayDr.ok {n : Nat} {w : List (List Int)} (h : WayDr n w) : WayOk n w := ⟨h.1, fun r hr => (h.2 r hr).1⟩
def spRow : Sp := fun vs H Q _ => ∃ (j : Addr) (n : Nat), vs = [.ref j, .int n] ∧ 1 ≤ n ∧ n ≤ 6 ∧ JugAt H j ∧
  ∀ (H' : Hp) (p : Addr) (r : List Int), But j H H' → JugAt H' j → H p = none → H' p = some (.tup (r.map V.int)) → RowDr n r → Q (.ref p) H'
theorem scRow : FnScope ["_law_jug_here", "_law_size", "_law_row_here", "_law_k"] ["_law_jug_here", "_law_size"] (defScope sRow) := ⟨rfl, rfl, rfl, by decide +kernel, rfl, by decide +kernel, by decide +kernel⟩
abbrev DSip (P : Program) (w : World) (K : PySem.W.Frag) (mg : Str → Option Value) (base : Heap) : Prop := DefX P w K mg base 1 "_law_sip" ["_law_jug_here", "_law_most"] spSip
theorem ok_row {f : Addr} {fd : FuncData} (F : Fun K "_law_row" "_law_row" sRow f fd) (T : Bt mg) (DS : DSip P w K mg base) : FnOk P w K mg base CX0 3 f fd ["_law_jug_here", "_law_size"] spRow := by
  refine F.ok scRow (fun vs H Q E h => ?_) (fun cdv A outer s H vs Q E hr h => ?_)
  · obtain ⟨j, n, rfl, _⟩ := h
    rfl
  · obtain ⟨j, n, rfl, hn1, hn6, J, k⟩ := h
    refine ⟨_, pss_cons (ps_setLc (i := 2) (own := [("_law_k", 3)]) (g := gName 3) (tt := tYes) rfl scRow.nd rfl rfl (sw_true rfl rfl rfl (by decide +kernel)) (pi_range1 rfl T.range (pa_cons (pv 1) pa_nil))
        (blkOk_by (own := [("_law_k", 3)]) (N := ["_law_jug_here", "_law_size", "_law_row_here", "_law_k"]) (sc := defScope sRow) (by decide +kernel)) (fun _ _ _ _ _ => pg_name (i := 3) scRow.nd rfl (Or.inl rfl)) (fun _ _ _ _ _ => pts_nil)
        (fun _ _ _ _ _ => pe_ix (ixL K) (pe_lst (pa_cons pe_int (pa_cons pe_int (pa_cons pe_int (pa_cons pe_int (pa_cons pe_int (pa_cons pe_int (pa_cons pe_int pa_nil)))))))) (pe_fn DS hr (by decide) (pa_cons (pv 0) (pa_cons pe_int pa_nil))) (fun _ _ => rfl)))
      (pss_cons (ps_if (pt_cmpR op_eq (pe_callB (sumL K) (by rfl) T.sum (by decide +kernel) (pa_cons (pv 2) pa_nil)) pe_int (nomark _))
        (pss_one (ps_asg (pe_ix (ixL K) (pe_lst (pa_cons pe_int (pa_cons pe_int (pa_cons (pe_op op_pow pe_int pe_int) pa_nil)))) (pe_fn DS hr (by decide) (pa_cons (pv 0) (pa_cons pe_int pa_nil))) (fun _ _ => rfl))
          (pg_sub (pv 2) (pe_fn DS hr (by decide) (pa_cons (pv 0) (pa_cons (pv 1) pa_nil))) set_list))) pss_nil)
      (pss_one (ps_ret (pe_callTy (tupO K) (by rfl) T.tuple (by decide +kernel) (pa_cons (pv 2) pa_nil))))), ?_⟩
    refine ⟨_, rfl, n, rfl, by omega, by omega, fun D hD => ?_⟩
    refine lc_range (lo := 0) (n := n) (fun i H' => ∃ r : List Int, H' D = some (.lst (r.map V.int)) ∧ r.length = i ∧ (∀ x ∈ r, 0 ≤ x ∧ x ≤ 1000000000 ∧ (x ≤ 7 ∨ x = 1000000000)) ∧ But j H H' ∧ JugAt H' j) ⟨[], upd_same, rfl, (fun _ h => nomatch h), But.new hD, J.upd hD⟩ ?_ ?_
    · rintro i H1 hi ⟨r, hr1, hl, hx, hB, J1⟩
      refine ⟨rfl, turnY ?_⟩
      refine ⟨by decide, fun l hl0 => ⟨_, rfl, j, _, rfl, by decide, by decide, J1.upd hl0, fun H2 d b2 J2 d0 d1 => ?_⟩⟩
      obtain ⟨z, hz, ha⟩ := pick (xs := [0, 0, 1, 1, 2, 3, 7]) d0 d1
      have hjl := J1.ne hl0
      have hDl : D ≠ l := ne_of_none hr1 hl0
      have hD2 : H2 D = some (.lst (r.map V.int)) := b2 D _ (J.ne hD).symm (by rw [upd_ne hDl]; exact hr1)
      refine ⟨l, _, d, _, rfl, rfl, SqL.of (b2 l _ hjl.symm upd_same), ha, _, hD2, small1000 (by rw [List.length_map]; omega), r ++ [z], ?_, by rw [List.length_append, hl]; rfl, fun x hx' => ?_, ((hB.trans (But.new hl0)).trans b2).put hD, J2.put (J.ne hD)⟩
      · rw [upd_same, List.map_append]; rfl
      · rcases List.mem_append.mp hx' with q | q
        · exact hx x q
        · rw [List.mem_singleton.mp q]
          have : ∀ y : Int, y ∈ ([0, 0, 1, 1, 2, 3, 7] : List Int) → 0 ≤ y ∧ y ≤ 1000000000 ∧ (y ≤ 7 ∨ y = 1000000000) := by decide
          exact this z hz
    · rintro H1 ⟨r, hr1, hl, hx, hB, J1⟩
      -- if sum(row) == 0
      refine ⟨_, rfl, D, r, rfl, SqL.of hr1, rfl, _, rfl, tifS_join (fun σ H2 => ∃ r : List Int, σ = [some (.ref j), some (.int n), some (.ref D), none] ∧ H2 D = some (.lst (r.map V.int)) ∧ RowDr n r ∧ But j H H2 ∧ JugAt H2 j) (fun hc N hN => ?_) (fun hc N hN => ?_) ?_⟩
      · refine ⟨_, _, rfl, rfl, ⟨by decide, by decide, by decide⟩, by decide, fun l hl0 => ⟨_, rfl, j, _, rfl, by decide, by decide, J1.upd hl0, fun H2 d b2 J2 d0 d1 => ?_⟩⟩
        obtain ⟨z, hz, ha⟩ := pick (xs := [1, 2, 1000000000]) d0 d1
        have hz' : 0 < z ∧ z ≤ 1000000000 ∧ (z ≤ 7 ∨ z = 1000000000) := by
          have : ∀ y : Int, y ∈ ([1, 2, 1000000000] : List Int) → 0 < y ∧ y ≤ 1000000000 ∧ (y ≤ 7 ∨ y = 1000000000) := by decide
          exact this z hz
        have hjl := J1.ne hl0
        have hDj : D ≠ j := (J.ne hD).symm
        refine ⟨l, _, d, _, rfl, rfl, SqL.of (b2 l _ hjl.symm upd_same), ha, _, rfl, _, rfl, _, rfl, j, _, rfl, by omega, by omega, J2, fun H3 e b3 J3 e0 e1 => ?_⟩
        have hD3 : H3 D = some (.lst (r.map V.int)) := b3 D _ hDj (b2 D _ hDj (by rw [upd_ne (ne_of_none hr1 hl0)]; exact hr1))
        have ek : ∃ k : Nat, e = k := ⟨e.toNat, by omega⟩
        obtain ⟨k, rfl⟩ := ek
        have hk : k < r.length := by omega
        refine ⟨D, _, _, k, rfl, rfl, hD3, ixN_nat (by rw [List.length_map]; exact hk), hN _ _ ⟨r.set k z, rfl, ?_, ⟨⟨by rw [List.length_set, hl], fun x hx' => ?_, ?_⟩, fun x hx' => ?_⟩, (((hB.trans (But.new hl0)).trans b2).trans b3).put hD, J3.put hDj.symm⟩⟩
        · rw [upd_same, List.map_set]
        · rcases List.mem_or_eq_of_mem_set hx' with q | q
          · exact ⟨(hx x q).1, (hx x q).2.1⟩
          · rw [q]; omega
        · refine sum_pos (x := z) (fun x hx' => ?_) (List.mem_set hk z) hz'.1
          rcases List.mem_or_eq_of_mem_set hx' with q | q
          · exact (hx x q).1
          · rw [q]; omega
        · rcases List.mem_or_eq_of_mem_set hx' with q | q
          · exact (hx x q).2.2
          · rw [q]; exact hz'.2.2
      · refine hN _ _ ⟨r, rfl, hr1, ⟨⟨hl, fun x h => ⟨(hx x h).1, (hx x h).2.1⟩, ?_⟩, fun x h => (hx x h).2.2⟩, hB, J1⟩
        have hc' : ¬ r.sum = 0 := fun z => hc (by rw [z]; decide)
        have := sum_nonneg (r := r) fun x h => (hx x h).1
        omega
      · rintro σ H2 ⟨r, rfl, h1, ok, hB2, J2⟩
        exact ⟨_, rfl, D, _, rfl, .inl ⟨SqL.of h1, fun p np => k _ p r (hB2.put (hB2.freeJ J2 np)) (J2.upd np) (hB2.freeJ J2 np) upd_same ok⟩⟩

def spTalk : Sp := fun vs H Q _ => ∃ (j : Addr) (n : Nat), vs = [.ref j, .int n] ∧ 1 ≤ n ∧ n ≤ 6 ∧ JugAt H j ∧
  ∀ (H' : Hp) (p : Addr) (w : List (List Int)), But j H H' → JugAt H' j → H p = none → Im H' (.ref p) (dWay w) → WayDr n w → Q (.ref p) H'
abbrev DRow (P : Program) (w : World) (K : PySem.W.Frag) (mg : Str → Option Value) (base : Heap) : Prop := DefX P w K mg base 3 "_law_row" ["_law_jug_here", "_law_size"] spRow
theorem scTalk : FnScope ["_law_jug_here", "_law_size", "_law_k"] ["_law_jug_here", "_law_size"] (defScope sTalk) := ⟨rfl, rfl, rfl, by decide +kernel, rfl, by decide +kernel, by decide +kernel⟩
theorem ok_talk {f : Addr} {fd : FuncData} (F : Fun K "_law_talk" "_law_talk" sTalk f fd) (T : Bt mg) (DR : DRow P w K mg base) : FnOk P w K mg base CX0 4 f fd ["_law_jug_here", "_law_size"] spTalk := by
  refine F.ok scTalk (fun vs H Q E h => ?_) (fun cdv A outer s H vs Q E hr h => ?_)
  · obtain ⟨j, n, rfl, _⟩ := h
    rfl
  · obtain ⟨j, n, rfl, hn1, hn6, J, k⟩ := h
    refine ⟨_, pss_one (ps_ret (pe_callTy (tupO K) (by rfl) T.tuple (by decide +kernel) (pa_cons (pe_lc (own := [("_law_k", 2)]) (g := gName 2) (tt := tYes) rfl scTalk.nd (pi_range1 rfl T.range (pa_cons (pv 1) pa_nil))
        (blkOk_by (own := [("_law_k", 2)]) (N := ["_law_jug_here", "_law_size", "_law_k"]) (sc := defScope sTalk) (by decide +kernel)) (fun _ _ _ _ _ => pg_name (i := 2) scTalk.nd rfl (Or.inl rfl)) (fun _ _ _ _ _ => pts_nil)
        (fun _ _ _ _ _ => pe_fn DR hr (by decide) (pa_cons (pv 0) (pa_cons (pv 1) pa_nil)))) pa_nil))), ?_⟩
    refine ⟨_, rfl, n, rfl, by omega, by omega, fun D hD => ?_⟩
    refine lc_range (lo := 0) (n := n) (fun i H' => ∃ (w : List (List Int)) (vs : List V), H' D = some (.lst vs) ∧ ImAll H' vs (w.map dRow) ∧ w.length = i ∧ (∀ r ∈ w, RowDr n r) ∧ But j H H' ∧ JugAt H' j) ⟨[], [], upd_same, .nil, rfl, (fun _ h => nomatch h), But.new hD, J.upd hD⟩ ?_ ?_
    · rintro i H1 hi ⟨w, vs, hD1, hA, hl, hw, hB, J1⟩
      refine ⟨rfl, turnY ?_⟩
      refine ⟨_, rfl, _, rfl, j, n, rfl, hn1, hn6, J1, fun H2 p r b2 J2 np hp ok => ?_⟩
      have hDj : D ≠ j := (J.ne hD).symm
      have hD2 : H2 D = some (.lst vs) := b2 D _ hDj hD1
      have hvl : vs.length = i := by rw [hA.length, List.length_map, hl]
      refine ⟨_, hD2, small1000 (by omega), w ++ [r], vs ++ [.ref p], upd_same, ?_, by rw [List.length_append, hl]; rfl, fun x hx => ?_, (hB.trans b2).put hD, J2.put hDj.symm⟩
      · rw [List.map_append]
        refine ImAll.mono (TupS.lst hD2) _ _ (ImAll.snoc (.tup (Tu.of hp) (imInts r)) (ImAll.mono (b2.tups J1) _ _ hA))
      · rcases List.mem_append.mp hx with q | q
        · exact hw x q
        · rw [List.mem_singleton.mp q]; exact ok
    · rintro H1 ⟨w, vs, hD1, hA, hl, hw, hB, J1⟩
      exact ⟨D, vs, rfl, .inl ⟨SqL.of hD1, fun p np => k _ p w (hB.put (hB.freeJ J1 np)) (J1.upd np) (hB.freeJ J1 np) (.tup Tu.up (ImAll.mono (TupS.new np) _ _ hA)) ⟨hl, hw⟩⟩⟩

def spPair : Sp := fun vs H Q _ => ∃ (j : Addr) (m : Int), vs = [.ref j, .int m] ∧ 1 ≤ m ∧ m ≤ 6 ∧ JugAt H j ∧
  ∀ (H' : Hp) (p a b : Addr) (ms : List Str) (ws : List (List (List Int))), But j H H' → JugAt H' j → H p = none → H' p = some (.lst [.ref a, .ref b]) → Im H' (.ref a) (dMinds ms) → Im H' (.ref b) (dWays ws) → Drawn ms ws → (ms.length : Int) ≤ m → Fz H' (.ref a) (ms.map V.str) → Q (.ref p) H'
abbrev DTalk (P : Program) (w : World) (K : PySem.W.Frag) (mg : Str → Option Value) (base : Heap) : Prop := DefX P w K mg base 4 "_law_talk" ["_law_jug_here", "_law_size"] spTalk
abbrev nPair : List Str := ["_law_jug_here", "_law_most_here", "_law_size", "_law_pool", "_law_heads_here", "_law_k"]
theorem scPair : FnScope nPair ["_law_jug_here", "_law_most_here"] (defScope sPair) := ⟨rfl, rfl, rfl, by decide +kernel, rfl, by decide +kernel, by decide +kernel⟩
theorem ok_pair {f : Addr} {fd : FuncData} (F : Fun K "_law_pair" "_law_pair" sPair f fd) (T : Bt mg) (DS : DSip P w K mg base) (DT : DTalk P w K mg base) : FnOk P w K mg base CX0 5 f fd ["_law_jug_here", "_law_most_here"] spPair := by
  refine F.ok scPair (fun vs H Q E h => ?_) (fun cdv A outer s H vs Q E hr h => ?_)
  · obtain ⟨j, m, rfl, _⟩ := h
    rfl
  · obtain ⟨j, m, rfl, hm1, hm6, J, k⟩ := h
    refine ⟨_, pss_cons (ps_set (i := 2) scPair.nd rfl (Or.inr rfl) (pe_op op_add pe_int (pe_fn DS hr (by decide) (pa_cons (pv 0) (pa_cons (pv 1) pa_nil)))))
      (pss_cons (ps_set (i := 3) scPair.nd rfl (Or.inl rfl) (pe_lst (pa_cons pe_str (pa_cons pe_str (pa_cons pe_str (pa_cons pe_str (pa_cons pe_str (pa_cons pe_str (pa_cons pe_str (pa_cons pe_str pa_nil))))))))))
      (pss_cons (ps_set (i := 4) scPair.nd rfl (Or.inl rfl) (pe_lst pa_nil))
      (pss_cons (ps_for PassesOwn.never rfl (pi_range1 rfl T.range (pa_cons (pv 2) pa_nil)) (pg_name (i := 5) scPair.nd rfl (Or.inl rfl))
        (pss_one (ps_expr (pbm K PySem.F.plainAttrs_list PySem.F.slot_list_append PySem.F.type_list_append mt_append (pv 4) (pa_cons (pbm K PySem.F.plainAttrs_list PySem.F.slot_list_pop PySem.F.type_list_pop mt_popAt (pv 3) (pa_cons (pe_fn DS hr (by decide) (pa_cons (pv 0) (pa_cons (pe_callB (lenQ K) (by rfl) T.len (by decide +kernel) (pa_cons (pv 3) pa_nil)) pa_nil))) pa_nil)) pa_nil)))))
      (pss_one (ps_ret (pe_lst (pa_cons (pe_callTy (tupF K) (by rfl) T.tuple (by decide +kernel) (pa_cons (pv 4) pa_nil)) (pa_cons (pe_callTy (tupO K) (by rfl) T.tuple (by decide +kernel) (pa_cons (pe_lc (own := [("_law_k", 5)]) (g := gName 5) (tt := tYes) rfl scPair.nd (pi_range1 rfl T.range (pa_cons (pe_op op_add pe_int (pe_fn DS hr (by decide) (pa_cons (pv 0) (pa_cons pe_int pa_nil)))) pa_nil)) (blkOk_by (own := [("_law_k", 5)]) (N := nPair) (sc := defScope sPair) (by decide +kernel)) (fun _ _ _ _ _ => (pg_name (i := 5) scPair.nd rfl (Or.inl rfl))) (fun _ _ _ _ _ => pts_nil)
          (fun _ _ _ _ _ => (pe_fn DT hr (by decide) (pa_cons (pv 0) (pa_cons (pv 2) pa_nil))))) pa_nil)) pa_nil)))))))), ?_⟩
    refine ⟨_, rfl, _, rfl, j, m, rfl, by omega, by omega, J, fun H1 d b1 J1 d0 d1 => ?_⟩
    refine ⟨_, _, rfl, rfl, by decide, fun l1 n1 => ⟨by decide, fun l2 n2 => ?_⟩⟩
    obtain ⟨n, hn⟩ : ∃ n : Nat, 1 + d = n := ⟨(1 + d).toNat, by omega⟩
    have hl1j : l1 ≠ j := (J1.ne n1).symm
    have hl2j : l2 ≠ j := ((J1.upd n1).ne n2).symm
    have hl12 : l1 ≠ l2 := ne_of_none upd_same n2
    have n1' : H l1 = none := b1.freeJ J1 n1
    have n2' : H l2 = none := (b1.trans (But.new n1)).freeJ (J1.upd n1) n2
    refine ⟨_, rfl, n, by rw [← hn], by omega, by omega, ?_⟩
    refine for_range (lo := 0) (n := n) (fun i σ H' => ∃ (v : Option V) (M L : List Str), σ = [some (.ref j), some (.int m), some (.int n), some (.ref l1), some (.ref l2), v] ∧ H' l1 = some (.lst (L.map V.str)) ∧ H' l2 = some (.lst (M.map V.str)) ∧
      (M ++ L).Nodup ∧ (∀ x ∈ M ++ L, x ∈ pool8) ∧ M.length = i ∧ L.length + i = 8 ∧ But j H H' ∧ JugAt H' j)
      ⟨none, [], pool8, by show [some (V.ref j), some (V.int m), some (V.int (1 + d)), some (V.ref l1), some (V.ref l2), none] = _; rw [hn], by rw [upd_ne hl12]; exact upd_same, upd_same, by decide, (fun x hx => hx), rfl, rfl, (b1.put n1').put n2', (J1.upd n1).upd n2⟩ ?_ ?_
    · rintro i σ H2 hi ⟨v, M, L, rfl, h1, h2, hnd, hp, hM, hL, hB, J2⟩
      refine ⟨_, rfl, .inl ⟨rfl, _, SqL.of h2⟩, _, rfl, .inl ⟨rfl, _, SqL.of h1⟩, _, rfl, _, rfl, l1, _, rfl, .inl (SqL.of h1), j, _, rfl, ?_, ?_, J2, fun H3 e b3 J3 e0 e1 => ?_⟩
      · rw [List.length_map]; omega
      · rw [List.length_map]; omega
      rw [List.length_map] at e1
      obtain ⟨q, rfl⟩ : ∃ q : Nat, e = q := ⟨e.toNat, by omega⟩
      have hq : q < L.length := by omega
      have h13 := b3 l1 _ hl1j h1
      have h23 := b3 l2 _ hl2j h2
      refine ⟨l1, _, q, q, _, rfl, rfl, h13, by omega, by omega, seq_nat (by rw [List.length_map]; exact hq), by rw [List.getElem?_map, List.getElem?_eq_getElem hq]; rfl, ?_⟩
      refine ⟨l2, M.map V.str, V.str L[q], rfl, rfl, by rw [upd_ne hl12.symm]; exact h23, small1000 (by rw [List.length_map]; omega), ?_⟩
      have perm : (M ++ [L[q]] ++ L.eraseIdx q).Perm (M ++ L) := by
        rw [List.append_assoc]
        exact List.Perm.append_left M (erase_perm hq)
      refine ⟨_, M ++ [L[q]], L.eraseIdx q, rfl, ?_, ?_, perm.nodup_iff.mpr hnd, fun x hx => hp x (perm.mem_iff.mp hx), by rw [List.length_append, hM]; rfl, ?_, (((hB.trans b3).put n1').put n2'), (J3.put hl1j.symm).put hl2j.symm⟩
      · rw [upd_ne hl12, upd_same, erase_map]
      · rw [upd_same, List.map_append]; rfl
      · rw [List.length_eraseIdx_of_lt hq]; omega
    · rintro σ H2 ⟨v, M, L, rfl, h1, h2, hnd, hp, hM, hL, hB, J2⟩
      refine ⟨_, rfl, l2, _, rfl, SqL.of h2, fun p1 ro np1 hro => ?_⟩
      refine ⟨_, rfl, j, _, rfl, by decide, by decide, J2.upd np1, fun H3 e b3 J3 e0 e1 => ?_⟩
      obtain ⟨c, hc⟩ : ∃ c : Nat, 1 + e = c := ⟨(1 + e).toNat, by omega⟩
      have np1' : H p1 = none := hB.freeJ J2 np1
      have hp1j : p1 ≠ j := (J2.ne np1).symm
      refine ⟨_, _, rfl, rfl, c, by rw [← hc], by omega, by omega, fun D hD => ?_⟩
      have B3 : But j H H3 := (hB.put np1').trans b3
      have hD' : H D = none := B3.freeJ J3 hD
      have hDj : D ≠ j := (J3.ne hD).symm
      have hA : H3 p1 = some (.frz ro (.tup (M.map V.str))) := b3 p1 _ hp1j upd_same
      refine lc_range (lo := 0) (n := c) (fun i H' => ∃ (w : List (List (List Int))) (vs : List V), H' D = some (.lst vs) ∧ ImAll H' vs (w.map dWay) ∧ w.length = i ∧ (∀ r ∈ w, WayDr n r) ∧ But j H H' ∧ JugAt H' j ∧ H' p1 = some (.frz ro (.tup (M.map V.str))))
        ⟨[], [], upd_same, .nil, rfl, (fun _ h => nomatch h), B3.put hD', J3.upd hD, by rw [upd_ne (ne_of_none hA hD)]; exact hA⟩ ?_ ?_
      · rintro i H4 hi ⟨w, vs, hD4, hAl, hl, hw, hB4, J4, hA4⟩
        refine ⟨rfl, turnY ?_⟩
        refine ⟨_, rfl, _, rfl, j, n, rfl, by omega, by omega, J4, fun H5 p r b5 J5 np hp ok => ?_⟩
        have hD5 : H5 D = some (.lst vs) := b5 D _ hDj hD4
        have hvl : vs.length = i := by rw [hAl.length, List.length_map, hl]
        refine ⟨_, hD5, small1000 (by omega), w ++ [r], vs ++ [.ref p], upd_same, ?_, by rw [List.length_append, hl]; rfl, fun x hx => ?_, (hB4.trans b5).put hD', J5.put hDj.symm, ?_⟩
        · rw [List.map_append]
          exact ImAll.mono (TupS.lst hD5) _ _ (ImAll.snoc hp (ImAll.mono (b5.tups J4) _ _ hAl))
        · rcases List.mem_append.mp hx with q | q
          · exact hw x q
          · rw [List.mem_singleton.mp q]; exact ok
        · have z := b5 p1 _ hp1j hA4
          rw [upd_ne (ne_of z hD5 (by intro z; cases z))]; exact z
      · rintro H4 ⟨w, vs, hD4, hAl, hl, hw, hB4, J4, hA4⟩
        refine ⟨D, vs, rfl, .inl ⟨SqL.of hD4, fun p2 np2 => ⟨by show 2 ≤ sizeLine; decide, fun p3 np3 => ?_⟩⟩⟩
        have np2' : H p2 = none := hB4.freeJ J4 np2
        have J5 := J4.upd (o := HO.tup vs) np2
        have hB5 : But j H (upd H4 p2 (.tup vs)) := hB4.put np2'
        have np3' : H p3 = none := hB5.freeJ J5 np3
        have t5 : TupS H4 (upd (upd H4 p2 (.tup vs)) p3 (.lst [.ref p1, .ref p2])) := (TupS.new np2).trans (TupS.new np3)
        have hms : M.length = n := hM
        refine k _ p3 p1 p2 M w (hB5.put np3') (J5.upd np3) np3' upd_same (.tup (t5 _ _ ⟨_, hA4, .inr ⟨ro, hro, rfl⟩⟩) (imStrs M)) (.tup ((TupS.new np3) _ _ Tu.up) (ImAll.mono t5 _ _ hAl)) ⟨by omega, by omega, (List.nodup_append.mp hnd).1, fun x hx => hp x (List.mem_append_left _ hx), by omega, by omega, (by rw [hms]; exact fun w h => (hw w h).ok), fun w h r hr => ((hw w h).2 r hr).2⟩ (by omega) ⟨p1, ro, rfl, hro, by rw [upd_ne (ne_of_none (by rw [upd_ne (ne_of_none hA4 np2)]; exact hA4) np3), upd_ne (ne_of_none hA4 np2)]; exact hA4⟩
end
end M

namespace M
open PySem L2 U
abbrev sWT : Stmt := top 31
abbrev nWT : List Str := ["way", "weight", "row"]
abbrev pWT : List Str := ["way"]
theorem scWT : FnScope nWT pWT (defScope sWT) := ⟨rfl, rfl, rfl, by decide +kernel, rfl, by decide +kernel, by decide +kernel⟩
abbrev sRWy : Stmt := top 32
abbrev nRWy : List Str := ["line", "word", "row"]
abbrev pRWy : List Str := ["line"]
theorem scRWy : FnScope nRWy pRWy (defScope sRWy) := ⟨rfl, rfl, rfl, by decide +kernel, rfl, by decide +kernel, by decide +kernel⟩
abbrev sRWt : Stmt := top 33
abbrev nRWt : List Str := ["word", "weight"]
abbrev pRWt : List Str := ["word"]
theorem scRWt : FnScope nRWt pRWt (defScope sRWt) := ⟨rfl, rfl, rfl, by decide +kernel, rfl, by decide +kernel, by decide +kernel⟩
/-! ### texts of numbers, rows, ways -/
def numT (i : Int) : Str := Str.ofString (toString i)
def rowT (r : List Int) : Str := Txt.join "," (r.map numT)
def wayT (w : List (List Int)) : Str := Txt.join " " (w.map rowT)
theorem num_len {i : Int} (h0 : 0 ≤ i) (h1 : i ≤ 1000000000) : (numT i).length ≤ 10 := PySem.W.KT.len_num h0 (by omega)
theorem num_signs {i : Int} (h0 : 0 ≤ i) : ∀ c ∈ (numT i).cps.toList, 48 ≤ c ∧ c ≤ 57 := by
  obtain ⟨m, rfl⟩ := Int.eq_ofNat_of_zero_le h0
  intro c hc
  unfold numT at hc
  rw [PySem.W.KIN.signs_num] at hc
  obtain ⟨ch, hch, e⟩ := List.mem_map.mp hc
  have r := PyProof.Rows.digit_range (Nat.isDigit_of_mem_toDigits (by decide) (by decide) hch)
  rw [← e]
  exact r
theorem num_ne {i : Int} (h0 : 0 ≤ i) : 1 ≤ (numT i).length := PySem.W.KLn.one_le h0
theorem num_ascii {i : Int} (h0 : 0 ≤ i) : Txt.isascii (numT i) = true := by
  show (numT i).cps.all (· < 128) = true
  rw [← Array.all_toList]
  exact List.all_eq_true.mpr fun c hc => decide_eq_true (by have := num_signs h0 c hc; omega)
theorem dig10 : ∀ d : Nat, d < 10 → Unicode.isDigit (48 + d) = true := by decide +kernel
theorem num_isdigit {i : Int} (h0 : 0 ≤ i) : Txt.isdigit (numT i) = true := by
  have h1 := num_ne h0
  show (decide ((numT i).length > 0) && (numT i).cps.all Unicode.isDigit) = true
  rw [decide_eq_true (by omega), Bool.true_and, ← Array.all_toList]
  refine List.all_eq_true.mpr fun c hc => ?_
  have h2 := num_signs h0 c hc
  have := dig10 (c - 48) (by omega)
  rwa [show 48 + (c - 48) = c by omega] at this
theorem num_reads {i : Int} (h0 : 0 ≤ i) (h1 : i ≤ 1000000000) : PySem.intText? (numT i) = some i := PySem.W.KIN.num_reads h0 (by omega)
theorem num_log {i : Int} (h0 : 0 ≤ i) (h1 : i ≤ 1000000000) : i.natAbs.log2 < 1920 := by
  by_cases z : i.natAbs = 0
  · rw [z]; decide
  · refine (Nat.log2_lt z).mpr ?_
    have : i.natAbs < 2 ^ 31 := by
      have e : (2 : Nat) ^ 31 = 2147483648 := by decide
      omega
    exact Nat.lt_of_lt_of_le this (Nat.pow_le_pow_right (by decide) (by decide))
theorem sum_le {α : Type} {f : α → Nat} {c : Nat} : ∀ {l : List α}, (∀ x ∈ l, f x ≤ c) → (l.map f).sum ≤ l.length * c
  | [], _ => Nat.zero_le _
  | x :: l, h => by
    have h1 := h x List.mem_cons_self
    have h2 := sum_le fun y hy => h y (List.mem_cons_of_mem _ hy)
    rw [List.map_cons, List.sum_cons, List.length_cons, Nat.succ_mul]
    omega
theorem join_len {sep : Str} {ys : List Str} {c : Nat} (h : ∀ y ∈ ys, y.length ≤ c) : (Txt.join sep ys).length ≤ ys.length * (c + sep.length) := by
  rw [TL.join_eq]
  refine Nat.le_trans (StrLaws.join_length_le sep ys) ?_
  have := sum_le (f := fun y : Str => y.length) h
  rw [Nat.mul_add]
  omega
theorem row_len {n : Nat} {r : List Int} (h : RowOk n r) (hn : n ≤ 6) : (rowT r).length ≤ 66 := by
  have := join_len (sep := ",") (ys := r.map numT) (c := 10) fun y hy => by
    obtain ⟨i, hi, rfl⟩ := List.mem_map.mp hy
    exact num_len (h.2.1 i hi).1 (h.2.1 i hi).2
  rw [List.length_map, h.1] at this
  have e : (("," : Str)).length = 1 := rfl
  rw [e] at this
  exact Nat.le_trans this (Nat.mul_le_mul_right 11 hn)
theorem way_len {n : Nat} {w : List (List Int)} (h : WayOk n w) (hn : n ≤ 6) : (wayT w).length ≤ 402 := by
  have := join_len (sep := " ") (ys := w.map rowT) (c := 66) fun y hy => by
    obtain ⟨r, hr, rfl⟩ := List.mem_map.mp hy
    exact row_len (h.2 r hr) hn
  rw [List.length_map, h.1] at this
  have e : ((" " : Str)).length = 1 := rfl
  rw [e] at this
  exact Nat.le_trans this (Nat.mul_le_mul_right 67 hn)
def spWT : Sp := fun vs H Q _ => ∃ (v : V) (n : Nat) (ws : List (List Int)), vs = [v] ∧ Im H v (dWay ws) ∧ WayOk n ws ∧ n ≤ 6 ∧ ∀ H', Same H H' → Q (.str (wayT ws)) H'
def spRWt : Sp := fun vs H Q _ => ∃ (i : Int), vs = [.str (numT i)] ∧ 0 ≤ i ∧ i ≤ 1000000000 ∧ Q (.int i) H
section
variable {P : Program} {w : World} {K : PySem.W.Frag} {mg : Str → Option Value} {base : Heap}
theorem ok_rwt {f : Addr} {fd : FuncData} (F : Fun K "read_weight" "read_weight" sRWt f fd) (T : Bt mg) : FnOk P w K mg base CX0 1 f fd pRWt spRWt := by
  refine F.ok scRWt (fun vs H Q E h => ?_) (fun cdv A outer s H vs Q E hr h => ?_)
  · obtain ⟨i, rfl, _⟩ := h
    rfl
  · obtain ⟨i, rfl, h0, h1, k⟩ := h
    refine ⟨_, (pss_cons (ps_if (PW.pt (pw_or (pt_not (PW.pt (pw_and (pt_val (pbm0 K PySem.F.plainAttrs_str PySem.F.slot_str_isascii PySem.F.type_str_isascii mt_isascii (pv 0))) (pw_and1 (pt_val (pbm0 K PySem.F.plainAttrs_str PySem.F.slot_str_isdigit PySem.F.type_str_isdigit mt_isdigit (pv 0))))))) (pw_or1 (pt_cmpR op_gt (pe_callB call_len_str (by rfl) T.len (by decide +kernel) (pa_cons (pv 0) pa_nil)) (pe_callB call_len_str (by rfl) T.len (by decide +kernel) (pa_cons (pe_callTy call_str_int (by rfl) T.str (by decide +kernel) (pa_cons (pe_globE T.g_MOST_WEIGHT) pa_nil)) pa_nil)) (nomark _)))))
        (pss_one (ps_ret pe_non)) pss_nil)
      (pss_cons (ps_set (i := 1) scRWt.nd rfl (Or.inl rfl) (pe_callTy call_int_str (by rfl) T.int (by decide +kernel) (pa_cons (pv 0) pa_nil)))
      (pss_one (ps_ret (pe_ifExp (pt_cmpR op_eq (pe_callTy call_str_int (by rfl) T.str (by decide +kernel) (pa_cons (pv 1) pa_nil)) (pv 0) (nomark _)) (pv 1) pe_non))))), ?_⟩
    have hl := num_len h0 h1
    have lz : (numT i).length ≤ sizeLine := Nat.le_trans hl (by decide)
    refine ⟨_, rfl, rfl, _, rfl, rfl, trivial, _, rfl, ?_⟩
    rw [num_ascii h0]
    refine iteT ⟨_, rfl, rfl, _, rfl, rfl, trivial, _, rfl, ?_⟩
    rw [num_isdigit h0]
    refine iteF ?_
    refine ⟨_, rfl, _, rfl, lz, _, rfl, by decide, _, rfl, by decide +kernel, _, _, rfl, rfl, _, rfl, ite2 (fun z => ?_) (fun _ => ?_)⟩
    · exfalso
      have z' := of_decide_eq_true z
      have e : (Str.ofString (toString (1000000000 : Int))).length = 10 := by decide +kernel
      rw [e] at z'
      omega
    refine ⟨_, rfl, _, _, rfl, num_reads h0 h1, Nat.le_trans hl (by decide), ?_⟩
    refine ⟨_, rfl, _, rfl, ?_, _, rfl, rfl, _, rfl, ite2 (fun _ => ⟨_, rfl, k⟩) (fun z => ?_)⟩
    · exact num_log h0 h1
    · exact absurd (decide_eq_true rfl) z
theorem ok_wt {f : Addr} {fd : FuncData} (F : Fun K "way_text" "way_text" sWT f fd) (T : Bt mg) : FnOk P w K mg base CX0 1 f fd pWT spWT := by
  refine F.ok scWT (fun vs H Q E h => ?_) (fun cdv A outer s H vs Q E hr h => ?_)
  · obtain ⟨v, n, ws, rfl, _⟩ := h
    rfl
  · obtain ⟨v, n, ws, rfl, im, ok, hn, k⟩ := h
    obtain ⟨a, xs, rfl, ha, hall⟩ := im.tuple
    have hxl : xs.length = ws.length := by rw [hall.length, List.length_map]
    have hwl : ws.length = n := ok.1
    refine ⟨_, (pss_one (ps_ret (pjoin K pe_str (pa_cons (pe_lc (own := [("row", 2)]) (g := gName 2) (tt := tYes) rfl scWT.nd (piT K (pv 0)) (blkOk_by (own := [("row", 2)]) (N := nWT) (sc := defScope sWT) (by decide +kernel)) (fun _ _ _ _ _ => (pg_name (i := 2) scWT.nd rfl (Or.inl rfl))) (fun _ _ _ _ _ => pts_nil)
          (fun _ _ _ _ _ => (pjoin K pe_str (pa_cons (pe_lc (own := [("weight", 1)]) (g := gName 1) (tt := tYes) rfl scWT.nd (piT K (pv 2)) (blkOk_by (own := [("weight", 1)]) (N := nWT) (sc := _) (by kernel_rfl)) (fun _ _ _ _ _ => (pg_name (i := 1) scWT.nd rfl (Or.inl rfl))) (fun _ _ _ _ _ => pts_nil)
          (fun _ _ _ _ _ => (pe_callTy call_str_int (by rfl) T.str (by decide +kernel) (pa_cons (pv 1) pa_nil)))) pa_nil)))) pa_nil)))), ?_⟩
    refine ⟨rfl, _, rfl, a, rfl, ⟨_, ha.sq⟩, fun D hD => ?_⟩
    refine lc_it (walk_tup (K := K) (a := a) (xs := xs)) (PvS H D ((ws.map rowT).map V.str)) (pvs0 hD) (fun i H1 _ h => (ha.same h.1).sq) ?_ (fun H1 h => ?_)
    · rintro i x _ H1 hi h ⟨rfl, hx⟩
      obtain ⟨d, hd, imx⟩ := hall.get hx
      rw [List.getElem?_map] at hd
      cases hz : ws[i]? with
      | none => rw [hz] at hd; cases hd
      | some r =>
        rw [hz] at hd
        cases hd
        have hrow := ok.2 r (List.mem_of_getElem? hz)
        obtain ⟨a2, ys, rfl, ha2, hall2⟩ := imx.tuple
        have hys := hall2.ints
        subst hys
        have ha3 := ha2.same h.1
        refine ⟨rfl, turnY ?_⟩
        refine ⟨rfl, _, rfl, a2, rfl, ⟨_, ha3.sq⟩, fun D2 hD2 => ?_⟩
        refine lc_it (walk_tup (K := K) (a := a2) (xs := r.map V.int)) (PvS H1 D2 ((r.map numT).map V.str)) (pvs0 hD2) (fun i H1 _ h => (ha3.same h.1).sq) ?_ (fun H2 h2 => ?_)
        · rintro i2 x _ H2 hi2 h2 ⟨rfl, hx⟩
          rw [List.getElem?_map] at hx
          cases hz2 : r[i2]? with
          | none => rw [hz2] at hx; cases hx
          | some z =>
            rw [hz2] at hx
            cases hx
            have hm := hrow.2.1 z (List.mem_of_getElem? hz2)
            refine ⟨rfl, turnY ?_⟩
            exact ⟨_, rfl, z, rfl, num_log hm.1 hm.2, pvs1 hD2 h2 (Same.refl _) (by rw [List.length_map, List.length_map, hrow.1]; omega) (by rw [List.getElem?_map, List.getElem?_map, hz2]; rfl)⟩
        obtain ⟨s2, hl2⟩ := pvsE h2 (by rw [List.length_map, List.length_map, List.length_map])
        refine ⟨",", D2, r.map numT, rfl, rfl, .inl (SqL.of hl2), ?_, ?_⟩
        · have q := sum_le (f := fun y : Str => y.length) (l := r.map numT) (c := 10) fun y hy => by
            obtain ⟨i, hi, rfl⟩ := List.mem_map.mp hy
            exact num_len (hrow.2.1 i hi).1 (hrow.2.1 i hi).2
          rw [List.length_map, hrow.1] at q ⊢
          have e : (("," : Str)).length = 1 := rfl
          rw [e]
          omega
        · exact pvs1 hD h s2 (by rw [List.length_map, List.length_map]; omega) (by rw [List.getElem?_map, List.getElem?_map, hz]; rfl)
    obtain ⟨s1, hl1⟩ := pvsE h (by rw [List.length_map, List.length_map, hxl])
    refine ⟨" ", D, ws.map rowT, rfl, rfl, .inl (SqL.of hl1), ?_, k H1 s1⟩
    have q := sum_le (f := fun y : Str => y.length) (l := ws.map rowT) (c := 66) fun y hy => by
      obtain ⟨r, hr, rfl⟩ := List.mem_map.mp hy
      exact row_len (ok.2 r hr) hn
    rw [List.length_map, hwl] at q ⊢
    have e : ((" " : Str)).length = 1 := rfl
    rw [e]
    omega
def spRWy : Sp := fun vs H Q _ => ∃ (n : Nat) (ws : List (List Int)), vs = [.str (wayT ws)] ∧ WayOk n ws ∧ 1 ≤ n ∧ n ≤ 6 ∧ ∀ (H' : Hp) (p : Addr), Same H H' → H p = none → Im H' (.ref p) (dWay ws) → Q (.ref p) H'
theorem row_split {n : Nat} {r : List Int} (h : RowOk n r) (hn : 1 ≤ n) : Txt.split (rowT r) "," = r.map numT := by
  refine TL.split_join (s := 44) (S := []) rfl (by decide +kernel) (fun e => ?_) fun p hp => ?_
  · have := congrArg List.length e
    rw [List.length_map, h.1] at this
    exact absurd this (by simp; omega)
  · obtain ⟨i, hi, rfl⟩ := List.mem_map.mp hp
    intro z
    have := num_signs (h.2.1 i hi).1 44 z
    omega
theorem row_signs {n : Nat} {r : List Int} (h : RowOk n r) : ∀ c ∈ (rowT r).cps.toList, c = 44 ∨ (48 ≤ c ∧ c ≤ 57) := by
  intro c hc
  unfold rowT at hc
  rw [TL.join_eq] at hc
  have hc' : c ∈ TL.tl (Str.join "," (r.map numT)) := hc
  rw [TL.tl_join] at hc'
  have key : ∀ ps : List (List Nat), (∀ p ∈ ps, ∀ c ∈ p, 48 ≤ c ∧ c ≤ 57) → ∀ c ∈ TL.joinL [44] ps, c = 44 ∨ (48 ≤ c ∧ c ≤ 57) := by
    intro ps
    induction ps with
    | nil => intro _ c h; cases h
    | cons p ps ih =>
      intro h c hc
      cases ps with
      | nil => exact Or.inr (h p List.mem_cons_self c hc)
      | cons q r =>
        have hc : c ∈ p ++ ([44] ++ TL.joinL [44] (q :: r)) := hc
        rcases List.mem_append.mp hc with z | z
        · exact Or.inr (h p List.mem_cons_self c z)
        · rcases List.mem_append.mp z with z | z
          · exact Or.inl (List.mem_singleton.mp z)
          · exact ih (fun p' hp' => h p' (List.mem_cons_of_mem _ hp')) c z
  refine key _ (fun p hp => ?_) c hc'
  rw [List.map_map] at hp
  obtain ⟨i, hi, rfl⟩ := List.mem_map.mp hp
  exact num_signs (h.2.1 i hi).1
theorem way_split {n : Nat} {w : List (List Int)} (h : WayOk n w) (hn : 1 ≤ n) : Txt.split (wayT w) " " = w.map rowT := by
  refine TL.split_join (s := 32) (S := []) rfl (by decide +kernel) (fun e => ?_) fun p hp => ?_
  · have := congrArg List.length e
    rw [List.length_map, h.1] at this
    exact absurd this (by simp; omega)
  · obtain ⟨r, hr, rfl⟩ := List.mem_map.mp hp
    intro z
    have := row_signs (h.2 r hr) 32 z
    omega
theorem ok_rwy {f : Addr} {fd : FuncData} (F : Fun K "read_way" "read_way" sRWy f fd) (T : Bt mg) (DW : DefX P w K mg base 1 "read_weight" pRWt spRWt) : FnOk P w K mg base CX0 3 f fd pRWy spRWy := by
  refine F.ok scRWy (fun vs H Q E h => ?_) (fun cdv A outer s H vs Q E hr h => ?_)
  · obtain ⟨n, ws, rfl, _⟩ := h
    rfl
  · obtain ⟨n, ws, rfl, ok, hn1, hn, k⟩ := h
    have hwl : ws.length = n := ok.1
    refine ⟨_, (pss_one (ps_ret (pe_callTy (tupO K) (by rfl) T.tuple (by decide +kernel) (pa_cons (pe_lc (own := [("row", 2)]) (g := gName 2) (tt := tYes) rfl scRWy.nd (piL K (pbm K PySem.F.plainAttrs_str PySem.F.slot_str_split PySem.F.type_str_split mt_split (pv 0) (pa_cons pe_str pa_nil))) (blkOk_by (own := [("row", 2)]) (N := nRWy) (sc := defScope sRWy) (by decide +kernel)) (fun _ _ _ _ _ => (pg_name (i := 2) scRWy.nd rfl (Or.inl rfl))) (fun _ _ _ _ _ => pts_nil)
          (fun _ _ _ _ _ => (pe_callTy (tupO K) (by rfl) T.tuple (by decide +kernel) (pa_cons (pe_lc (own := [("word", 1)]) (g := gName 1) (tt := tYes) rfl scRWy.nd (piL K (pbm K PySem.F.plainAttrs_str PySem.F.slot_str_split PySem.F.type_str_split mt_split (pv 2) (pa_cons pe_str pa_nil))) (blkOk_by (own := [("word", 1)]) (N := nRWy) (sc := _) (by kernel_rfl)) (fun _ _ _ _ _ => (pg_name (i := 1) scRWy.nd rfl (Or.inl rfl))) (fun _ _ _ _ _ => pts_nil)
          (fun _ _ _ _ _ => (pe_fn DW hr (by decide) (pa_cons (pv 1) pa_nil)))) pa_nil)))) pa_nil)))), ?_⟩
    have wl := way_len ok hn
    refine ⟨_, rfl, rfl, _, _, rfl, rfl, rfl, Nat.le_trans (Nat.add_le_add_right wl 2) (by decide), fun L hL => ?_⟩
    rw [way_split ok hn1]
    refine ⟨L, rfl, ⟨_, SqL.of upd_same⟩, fun D hD => ?_⟩
    have hLD : L ≠ D := ne_of_none upd_same hD
    have hD' : H D = none := (same_upd hL).free hD
    refine lc_it (walk_list (K := K) (a := L) (xs := (ws.map rowT).map V.str)) (fun i H1 => ∃ vs : List V, H1 D = some (.lst vs) ∧ ImAll H1 vs ((ws.take i).map dRow) ∧ Same H H1 ∧ H1 L = some (.lst ((ws.map rowT).map V.str)))
      ⟨[], upd_same, .nil, (same_upd hL).trans (same_upd hD), by rw [upd_ne hLD]; exact upd_same⟩ (fun i H1 _ h => by obtain ⟨_, _, _, _, h4⟩ := h; exact SqL.of h4) ?_ (fun H1 h => ?_)
    · rintro i x _ H1 hi ⟨vs, hv, hA, s1, h4⟩ ⟨rfl, hx⟩
      rw [List.getElem?_map, List.getElem?_map] at hx
      cases hz : ws[i]? with
      | none => rw [hz] at hx; cases hx
      | some r =>
        rw [hz] at hx
        cases hx
        have hrow := ok.2 r (List.mem_of_getElem? hz)
        have rl := row_len hrow hn
        refine ⟨rfl, turnY ?_⟩
        refine ⟨_, rfl, rfl, _, _, rfl, rfl, rfl, Nat.le_trans (Nat.add_le_add_right rl 2) (by decide), fun L2 hL2 => ?_⟩
        rw [row_split hrow hn1]
        refine ⟨L2, rfl, ⟨_, SqL.of upd_same⟩, fun D2 hD2 => ?_⟩
        have t1 : Same H1 (upd H1 L2 (.lst ((r.map numT).map V.str))) := same_upd hL2
        refine lc_it (walk_list (K := K) (a := L2) (xs := (r.map numT).map V.str)) (PvS (upd H1 L2 (.lst ((r.map numT).map V.str))) D2 (r.map V.int)) (pvs0 hD2) (fun i H1 _ h => SqL.of (h.1 _ _ upd_same)) ?_ (fun H2 h2 => ?_)
        · rintro i2 x _ H2 hi2 h2 ⟨rfl, hx⟩
          rw [List.getElem?_map, List.getElem?_map] at hx
          cases hz2 : r[i2]? with
          | none => rw [hz2] at hx; cases hx
          | some z =>
            rw [hz2] at hx
            cases hx
            have hm := hrow.2.1 z (List.mem_of_getElem? hz2)
            refine ⟨rfl, turnY ?_⟩
            exact ⟨_, rfl, z, rfl, hm.1, hm.2, pvs1 hD2 h2 (Same.refl _) (by rw [List.length_map, hrow.1]; omega) (by rw [List.getElem?_map, hz2]; rfl)⟩
        obtain ⟨s2, hl2⟩ := pvsE h2 (by rw [List.length_map, List.length_map, List.length_map])
        refine ⟨D2, _, rfl, .inl ⟨SqL.of hl2, fun p np => ?_⟩⟩
        have s3 : Same H1 (upd H2 p (.tup (r.map V.int))) := (t1.trans s2).trans (same_upd np)
        refine ⟨vs, s3 D _ hv, small1000 (by rw [hA.length, List.length_map, List.length_take]; omega), vs ++ [.ref p], upd_same, ?_, fun b o e => ?_, ?_⟩
        · rw [List.take_succ, hz, List.map_append]
          exact ImAll.mono (TupS.lst (s3 D _ hv)) _ _ (ImAll.snoc (.tup Tu.up (imInts r)) (ImAll.mono (Same.tups s3) _ _ hA))
        · rw [upd_ne (ne_of_none e hD')]
          exact s3 b o (s1 b o e)
        · rw [upd_ne hLD]
          exact s3 L _ h4
    · obtain ⟨vs, hv, hA, s1, h4⟩ := h
      rw [List.length_map, List.length_map, List.take_length] at hA
      exact ⟨D, vs, rfl, .inl ⟨SqL.of hv, fun p np => k _ p (s1.trans (same_upd np)) (s1.free np) (.tup Tu.up (ImAll.mono (TupS.new np) _ _ hA))⟩⟩
end
end M

namespace M
open PySem L2 U
/-! ### plain data: shape, equality -/
theorem beq_dec {α : Type} [BEq α] [LawfulBEq α] [DecidableEq α] (x y : α) : (x == y) = decide (x = y) := by
  by_cases h : x = y
  · subst h; simp
  · simp [h]
theorem lay_map {α : Type} {f : α → PyData} : ∀ {l : List α}, (∀ x ∈ l, (f x).canLay0 = true) → PyData.canLayAll0 (l.map f) = true
  | [], _ => by simp only [List.map_nil, PyData.canLayAll0]
  | x :: l, h => by
    rw [List.map_cons]
    simp only [PyData.canLayAll0]
    rw [h x List.mem_cons_self, lay_map fun y hy => h y (List.mem_cons_of_mem _ hy)]; rfl
theorem depth_map {α : Type} {f : α → PyData} {c : Nat} : ∀ {l : List α}, (∀ x ∈ l, (f x).depth ≤ c) → PyData.depthAll (l.map f) ≤ c
  | [], _ => by simp only [List.map_nil, PyData.depthAll]; exact Nat.zero_le _
  | x :: l, h => by
    rw [List.map_cons]
    simp only [PyData.depthAll]
    exact Nat.max_le.mpr ⟨h x List.mem_cons_self, depth_map fun y hy => h y (List.mem_cons_of_mem _ hy)⟩
theorem eqv_map {α : Type} [DecidableEq α] {f : α → PyData} (h : ∀ x y, PyData.eqv (f x) (f y) = decide (x = y)) : ∀ l l' : List α, PyData.eqvAll (l.map f) (l'.map f) = decide (l = l')
  | [], [] => by simp [PyData.eqvAll]
  | [], _ :: _ => by simp [PyData.eqvAll]
  | _ :: _, [] => by simp [PyData.eqvAll]
  | x :: l, y :: l' => by
    rw [List.map_cons, List.map_cons]
    simp only [PyData.eqvAll]
    rw [h, eqv_map h l l']
    simp [List.cons.injEq, Bool.decide_and]
theorem eqv_minds (a b : List Str) : PyData.eqv (dMinds a) (dMinds b) = decide (a = b) := by
  unfold dMinds
  simp only [PyData.eqv]
  exact eqv_map (fun x y => by simp only [PyData.eqv]; exact beq_dec x y) a b
theorem eqv_row (a b : List Int) : PyData.eqv (dRow a) (dRow b) = decide (a = b) := by
  unfold dRow
  simp only [PyData.eqv]
  exact eqv_map (fun x y => by simp only [PyData.eqv]; exact beq_dec x y) a b
theorem eqv_way (a b : List (List Int)) : PyData.eqv (dWay a) (dWay b) = decide (a = b) := by
  unfold dWay
  simp only [PyData.eqv]
  exact eqv_map eqv_row a b
theorem eqv_ways (a b : List (List (List Int))) : PyData.eqv (dWays a) (dWays b) = decide (a = b) := by
  unfold dWays
  simp only [PyData.eqv]
  exact eqv_map eqv_way a b
theorem dRow_lay (r : List Int) : (dRow r).canLay0 = true ∧ (dRow r).depth ≤ 1 := by
  unfold dRow
  simp only [PyData.canLay0, PyData.depth]
  refine ⟨lay_map fun x _ => by simp only [PyData.canLay0], ?_⟩
  have := depth_map (f := PyData.int) (c := 0) (l := r) fun x _ => by simp only [PyData.depth]; exact Nat.le_refl 0
  omega
theorem dWay_lay (w : List (List Int)) : (dWay w).canLay0 = true ∧ (dWay w).depth ≤ 2 := by
  unfold dWay
  simp only [PyData.canLay0, PyData.depth]
  refine ⟨lay_map fun x _ => (dRow_lay x).1, ?_⟩
  have := depth_map (f := dRow) (c := 1) (l := w) fun x _ => (dRow_lay x).2
  omega
theorem dWays_lay (ws : List (List (List Int))) : (dWays ws).canLay0 = true ∧ (dWays ws).depth ≤ 3 := by
  unfold dWays
  simp only [PyData.canLay0, PyData.depth]
  refine ⟨lay_map fun x _ => (dWay_lay x).1, ?_⟩
  have := depth_map (f := dWay) (c := 2) (l := ws) fun x _ => (dWay_lay x).2
  omega
theorem alnum_ascii : ∀ c ∈ ("abcdefghijklmnopqrstuvwxyz0123456789" : Str).cps.toList, 48 ≤ c ∧ c < 128 := by decide +kernel
theorem name_signs {x : Str} (h : nameB x = true) : ∀ c ∈ x.cps.toList, 48 ≤ c ∧ c < 128 := by
  unfold nameB at h
  intro c hc
  have h2 := (Bool.and_eq_true_iff.mp h).2
  exact alnum_ascii c (of_decide_eq_true (List.all_eq_true.mp h2 c hc))
theorem dMinds_lay {ms : List Str} (h : ∀ x ∈ ms, nameB x = true) : (dMinds ms).canLay0 = true ∧ (dMinds ms).depth ≤ 1 := by
  unfold dMinds
  simp only [PyData.canLay0, PyData.depth]
  refine ⟨lay_map fun x hx => ?_, ?_⟩
  · simp only [PyData.canLay0]
    show x.cps.all (· < 0x110000) = true
    rw [← Array.all_toList]
    exact List.all_eq_true.mpr fun c hc => decide_eq_true (by have := name_signs (h x hx) c hc; omega)
  have := depth_map (f := PyData.str) (c := 0) (l := ms) fun x _ => by simp only [PyData.depth]; exact Nat.le_refl 0
  omega
theorem shaped_of {d : PyData} (h : d.canLay0 = true ∧ d.depth ≤ 60) : SeqAt.shaped d = true := by
  show (d.canLay0 && decide (d.depth ≤ 64)) = true
  rw [h.1, decide_eq_true (by omega)]; rfl
abbrev sCIn : Stmt := inClass (top 34) 0
abbrev nCIn : List Str := ["self", "minds", "ways"]
abbrev pCIn : List Str := ["self", "minds", "ways"]
theorem scCIn : FnScope nCIn pCIn (defScope sCIn) := ⟨rfl, rfl, rfl, by decide +kernel, rfl, by decide +kernel, by decide +kernel⟩
abbrev sCLe : Stmt := inClass (top 34) 5
abbrev nCLe : List Str := ["self"]
abbrev pCLe : List Str := ["self"]
theorem scCLe : FnScope nCLe pCLe (defScope sCLe) := ⟨rfl, rfl, rfl, by decide +kernel, rfl, by decide +kernel, by decide +kernel⟩
abbrev sCSt : Stmt := inClass (top 34) 6
abbrev nCSt : List Str := ["self", "way"]
abbrev pCSt : List Str := ["self"]
theorem scCSt : FnScope nCSt pCSt (defScope sCSt) := ⟨rfl, rfl, rfl, by decide +kernel, rfl, by decide +kernel, by decide +kernel⟩
abbrev sCEq : Stmt := inClass (top 34) 7
abbrev nCEq : List Str := ["self", "other"]
abbrev pCEq : List Str := ["self", "other"]
theorem scCEq : FnScope nCEq pCEq (defScope sCEq) := ⟨rfl, rfl, rfl, by decide +kernel, rfl, by decide +kernel, by decide +kernel⟩
theorem kmw : ¬ (("_minds" : Str) = "_ways") := by decide +kernel
/-- a council's attributes, in the order in which they are stored -/
def cf (m w : V) : List (Str × V) := putF "_ways" w (putF "_minds" m [])
theorem cf_m (m w : V) : (cf m w).lookup ("_minds" : Str) = some m := by
  unfold cf
  rw [lookup_putF, if_neg kmw, lookup_putF, if_pos rfl]
theorem cf_w (m w : V) : (cf m w).lookup ("_ways" : Str) = some w := by
  unfold cf
  rw [lookup_putF, if_pos rfl]
theorem cf_no (m w : V) {n : Str} (h1 : ¬ n = "_ways") (h2 : ¬ n = "_minds") : (cf m w).lookup n = none := by
  unfold cf
  rw [lookup_putF, if_neg h1, lookup_putF, if_neg h2]
  all_goals rfl
/-- what the walk asks of the class -/
structure Cn (K : PySem.W.Frag) (mg : Str → Option Value) (C : Addr) : Prop where
  cl : Cls K C
  nM : NoAttr K C "_minds"
  nW : NoAttr K C "_ways"
  gC : mg "Council" = some (.ref C)
  c1 : PySem.W.findIn K (.ref C) "__class__" = some (some (.builtin "object.__class__"))
  c2 : PySem.W.specialIn K (.builtin "object.__class__") "__get__" = some (some (.builtin "getset_descriptor.__get__"))
  c3 : PySem.W.takesIn K (.builtin "object.__class__") = some true
  c5 : PySem.W.mroIn K C (.type "object") = some true
  c4 : PySem.W.kitOne K (.ref C) (.ref C) = some true
theorem Cn.g {K : PySem.W.Frag} {mg : Str → Option Value} {C : Addr} (c : Cn K mg C) : ∃ u, mg "Council" = some u ∧ RelV (.ref C) u := ⟨_, c.gC, rfl⟩
/-- a council stands at a -/
structure CouncilAt (C : Addr) (H : Hp) (a : Addr) (m wv : V) (ms : List Str) (ws : List (List (List Int))) : Prop where
  ob : ∃ dx, H a = some (.ins C dx (cf m wv))
  im : Im H m (dMinds ms)
  iw : Im H wv (dWays ws)
  mo : MindsOk ms
  wo : WaysOk ms.length ws
theorem CouncilAt.mono {C : Addr} {H H' : Hp} {a : Addr} {m wv : V} {ms : List Str} {ws : List (List (List Int))} (c : CouncilAt C H a m wv ms ws) (h : ∀ o, H a = some o → H' a = some o) (t : TupS H H') : CouncilAt C H' a m wv ms ws := by
  obtain ⟨⟨dx, h1⟩, h2, h3, h4, h5⟩ := c
  exact ⟨⟨dx, h _ h1⟩, Im.mono t _ _ h2, Im.mono t _ _ h3, h4, h5⟩
theorem CouncilAt.same {C : Addr} {H H' : Hp} {a : Addr} {m wv : V} {ms : List Str} {ws : List (List (List Int))} (c : CouncilAt C H a m wv ms ws) (s : Same H H') : CouncilAt C H' a m wv ms ws :=
  c.mono (fun o e => s a o e) (Same.tups s)
def spCIn (C : Addr) : Sp := fun vs H Q _ => ∃ (x dx : Addr) (m wv : V) (ms : List Str) (ws : List (List (List Int))), vs = [.ref x, m, wv] ∧ H x = some (.ins C dx []) ∧ Im H m (dMinds ms) ∧ Im H wv (dWays ws) ∧ MindsOk ms ∧ WaysOk ms.length ws ∧
  ∀ H', (∀ b o, b ≠ x → H b = some o → H' b = some o) → CouncilAt C H' x m wv ms ws → Q .non H'
def spCLe (C : Addr) : Sp := fun vs H Q _ => ∃ (a : Addr) (m wv : V) (ms : List Str) (ws : List (List (List Int))), vs = [.ref a] ∧ CouncilAt C H a m wv ms ws ∧ Q (.int ms.length) H
def spCEq (C : Addr) : Sp := fun vs H Q _ => ∃ (a : Addr) (m wv : V) (ms : List Str) (ws : List (List (List Int))) (b : Addr) (m' wv' : V) (ms' : List Str) (ws' : List (List (List Int))), vs = [.ref a, .ref b] ∧ CouncilAt C H a m wv ms ws ∧ CouncilAt C H b m' wv' ms' ws' ∧
  Q (.bl (decide (ms = ms') && decide (ws = ws'))) H
section
variable {P : Program} {w : World} {K : PySem.W.Frag} {mg : Str → Option Value} {base : Heap}
theorem ok_cin {f C : Addr} {fd : FuncData} (F : Fun K "__init__" "Council.__init__" sCIn f fd) (T : Bt mg) (U : Cn K mg C) (DM : DefX P w K mg base 3 "check_minds" pCMi spCMi) (DW : DefX P w K mg base 9 "check_ways" pCWa spCWa) : FnOk P w K mg base CX0 11 f fd pCIn (spCIn C) := by
  refine F.ok scCIn (fun vs H Q E h => ?_) (fun cdv A outer s H vs Q E hr h => ?_)
  · obtain ⟨x, dx, m, wv, ms, ws, rfl, _⟩ := h
    rfl
  · obtain ⟨x, dx, m, wv, ms, ws, rfl, hx, im, iw, mo, wo, k⟩ := h
    obtain ⟨a, xs, rfl, ha, hall⟩ := im.tuple
    have hys := hall.strs
    subst hys
    refine ⟨_, (pss_cons (ps_expr (pe_fn DM hr (by decide) (pa_cons (pv 1) pa_nil)))
      (pss_cons (ps_expr (pe_fn DW hr (by decide) (pa_cons (pv 2) (pa_cons (pe_callB (lenQ K) (by rfl) T.len (by decide +kernel) (pa_cons (pv 1) pa_nil)) pa_nil))))
      (pss_cons (ps_fld (pv 0) (pv 1) rfl)
      (pss_one (ps_fld (pv 0) (pv 2) rfl))))), ?_⟩
    refine ⟨_, rfl, _, ms, rfl, im, mo, fun H1 s1 => ?_⟩
    refine ⟨_, rfl, _, rfl, a, _, rfl, .inr ((ha.same s1).sq), wv, ms.length, ws, by rw [List.length_map]; rfl, Im.mono (Same.tups s1) _ _ iw, wo, fun H2 s2 => ?_⟩
    have s3 := s1.trans s2
    have h3 := s3 _ _ hx
    refine ⟨_, rfl, _, rfl, x, C, dx, [], rfl, h3, U.cl, U.nM, (by show 0 < 1000; decide), _, rfl, _, rfl, x, C, dx, _, rfl, upd_same, U.cl, U.nW, (by show 1 < 1000; decide), ?_⟩
    have nt : TupS H2 (upd (upd H2 x (.ins C dx (putF "_minds" (.ref a) []))) x (.ins C dx (cf (.ref a) wv))) := fun b ys e => e.keep fun o eo => by
      have nb : b ≠ x := e.neI h3
      rw [upd_ne nb, upd_ne nb]; exact eo
    refine k _ (fun b o nb e => by rw [upd_ne nb, upd_ne nb]; exact s3 b o e) ⟨⟨dx, upd_same⟩, ?_, ?_, mo, wo⟩
    · exact Im.mono nt _ _ (Im.mono (Same.tups s3) _ _ im)
    · exact Im.mono nt _ _ (Im.mono (Same.tups s3) _ _ iw)
theorem ok_cle {f C : Addr} {fd : FuncData} (F : Fun K "__len__" "Council.__len__" sCLe f fd) (T : Bt mg) (U : Cn K mg C) : FnOk P w K mg base CX0 1 f fd pCLe (spCLe C) := by
  refine F.ok scCLe (fun vs H Q E h => ?_) (fun cdv A outer s H vs Q E hr h => ?_)
  · obtain ⟨a, m, wv, ms, ws, rfl, _⟩ := h
    rfl
  · obtain ⟨a, m, wv, ms, ws, rfl, c, k⟩ := h
    obtain ⟨⟨dx, h1⟩, h2, h3, h4, h5⟩ := c
    obtain ⟨b, xs, rfl, hb, hall⟩ := h2.tuple
    have hys := hall.strs
    subst hys
    refine ⟨_, (pss_one (ps_ret (pe_callB (lenQ K) (by rfl) T.len (by decide +kernel) (pa_cons (pe_fld (pv 0) rfl) pa_nil)))), ?_⟩
    refine ⟨_, rfl, a, C, dx, _, _, rfl, h1, U.cl, U.nM, cf_m _ _, b, _, rfl, .inr (hb.sq), ?_⟩
    rw [List.length_map]
    exact k
theorem ok_ceq {f C : Addr} {fd : FuncData} (F : Fun K "__eq__" "Council.__eq__" sCEq f fd) (T : Bt mg) (U : Cn K mg C) : FnOk P w K mg base CX0 1 f fd pCEq (spCEq C) := by
  refine F.ok scCEq (fun vs H Q E h => ?_) (fun cdv A outer s H vs Q E hr h => ?_)
  · obtain ⟨a, m, wv, ms, ws, b, m', wv', ms', ws', rfl, _⟩ := h
    rfl
  · obtain ⟨a, m, wv, ms, ws, b, m', wv', ms', ws', rfl, c, c', k⟩ := h
    obtain ⟨⟨dx, h1⟩, h2, h3, h4, h5⟩ := c
    obtain ⟨⟨dx', h1'⟩, h2', h3', h4', h5'⟩ := c'
    refine ⟨_, (pss_one (ps_ret (pe_and (pe_callB (isiQ K) (by rfl) T.isinstance (by decide +kernel) (pa_cons (pv 1) (pa_cons (pe_globE U.g) pa_nil))) (pe_and (pe_cmpR (eqD K hr.units) (pe_fld (pv 0) rfl) (pe_fld (pv 1) rfl) (nomark _)) (pe_one (pe_cmpR (eqD K hr.units) (pe_fld (pv 0) rfl) (pe_fld (pv 1) rfl) (nomark _))))))), ?_⟩
    refine ⟨_, rfl, _, _, _, _, true, rfl, .own C, .base (.ins h1' U.cl U.c1 U.c2 U.c3 U.c5), U.c4, _, rfl, iteT ?_⟩
    refine ⟨_, rfl, a, C, dx, _, _, rfl, h1, U.cl, U.nM, cf_m _ _, _, rfl, b, C, dx', _, _, rfl, h1', U.cl, U.nM, cf_m _ _, dMinds ms, dMinds ms', Im.dp _ _ h2, Im.dp _ _ h2', ?_, ?_, _, rfl, ?_⟩
    · exact shaped_of ⟨(dMinds_lay fun x hx => (h4.nm x hx).1).1, Nat.le_trans (dMinds_lay fun x hx => (h4.nm x hx).1).2 (by decide)⟩
    · exact shaped_of ⟨(dMinds_lay fun x hx => (h4'.nm x hx).1).1, Nat.le_trans (dMinds_lay fun x hx => (h4'.nm x hx).1).2 (by decide)⟩
    rw [eqv_minds]
    refine ite2 (fun he => ?_) (fun he => ?_)
    · rw [he, Bool.true_and] at k
      refine ⟨_, rfl, a, C, dx, _, _, rfl, h1, U.cl, U.nW, cf_w _ _, _, rfl, b, C, dx', _, _, rfl, h1', U.cl, U.nW, cf_w _ _, dWays ws, dWays ws', Im.dp _ _ h3, Im.dp _ _ h3', ?_, ?_, ?_⟩
      · exact shaped_of ⟨(dWays_lay ws).1, Nat.le_trans (dWays_lay ws).2 (by decide)⟩
      · exact shaped_of ⟨(dWays_lay ws').1, Nat.le_trans (dWays_lay ws').2 (by decide)⟩
      rw [eqv_ways]
      exact k
    · rw [Bool.eq_false_iff.mpr he, Bool.false_and] at k
      exact k
def mindsT (ms : List Str) : Str := Txt.join " " ms
def councilT (ms : List Str) (ws : List (List (List Int))) : Str := Txt.join "\n" (mindsT ms :: ws.map wayT)
theorem minds_len {ms : List Str} (h : MindsOk ms) : (mindsT ms).length ≤ 54 := by
  have := join_len (sep := " ") (ys := ms) (c := 8) fun y hy => (h.nm y hy).2
  have e : ((" " : Str)).length = 1 := rfl
  rw [e] at this
  exact Nat.le_trans this (Nat.mul_le_mul_right 9 h.m6)
theorem lines_le {ms : List Str} {ws : List (List (List Int))} (h : MindsOk ms) (g : WaysOk ms.length ws) : ∀ y ∈ mindsT ms :: ws.map wayT, y.length ≤ 402 := by
  intro y hy
  rcases List.mem_cons.mp hy with q | q
  · rw [q]
    exact Nat.le_trans (minds_len h) (by decide)
  · obtain ⟨w, hw, rfl⟩ := List.mem_map.mp q
    exact way_len (g.way w hw) g.n6
def spCSt (C : Addr) : Sp := fun vs H Q _ => ∃ (a : Addr) (m wv : V) (ms : List Str) (ws : List (List (List Int))), vs = [.ref a] ∧ CouncilAt C H a m wv ms ws ∧ ∀ H', Same H H' → Q (.str (councilT ms ws)) H'
theorem ok_cst {f C : Addr} {fd : FuncData} (F : Fun K "__str__" "Council.__str__" sCSt f fd) (T : Bt mg) (U : Cn K mg C) (DT : DefX P w K mg base 1 "way_text" pWT spWT) : FnOk P w K mg base CX0 3 f fd pCSt (spCSt C) := by
  refine F.ok scCSt (fun vs H Q E h => ?_) (fun cdv A outer s H vs Q E hr h => ?_)
  · obtain ⟨a, m, wv, ms, ws, rfl, _⟩ := h
    rfl
  · obtain ⟨a, m, wv, ms, ws, rfl, c, k⟩ := h
    obtain ⟨⟨dx, h1⟩, h2, h3, h4, h5⟩ := c
    obtain ⟨b, xs, rfl, hb, hall⟩ := h2.tuple
    have hys := hall.strs
    subst hys
    obtain ⟨b2, xs2, rfl, hb2, hall2⟩ := h3.tuple
    have hxl : xs2.length = ws.length := by rw [hall2.length, List.length_map]
    have w6 := h5.w6
    refine ⟨_, (pss_one (ps_ret (pjoin K pe_str (pa_cons (pe_op op_cat (pe_lst (pa_cons (pjoin K pe_str (pa_cons (pe_fld (pv 0) rfl) pa_nil)) pa_nil)) (pe_lc (own := [("way", 1)]) (g := gName 1) (tt := tYes) rfl scCSt.nd (piT K (pe_fld (pv 0) rfl)) (blkOk_by (own := [("way", 1)]) (N := nCSt) (sc := defScope sCSt) (by decide +kernel)) (fun _ _ _ _ _ => (pg_name (i := 1) scCSt.nd rfl (Or.inl rfl))) (fun _ _ _ _ _ => pts_nil)
          (fun _ _ _ _ _ => (pe_fn DT hr (by decide) (pa_cons (pv 1) pa_nil))))) pa_nil)))), ?_⟩
    refine ⟨rfl, rfl, _, rfl, a, C, dx, _, _, rfl, h1, U.cl, U.nM, cf_m _ _, " ", b, ms, rfl, rfl, .inr (hb.sq), ?_, ?_⟩
    · have q := sum_le (f := fun y : Str => y.length) (l := ms) (c := 8) fun y hy => (h4.nm y hy).2
      have e : ((" " : Str)).length = 1 := rfl
      have := h4.m6
      rw [e]
      omega
    refine ⟨by show 1 ≤ sizeLine; decide, fun l1 n1 => ?_⟩
    have s1 : Same H (upd H l1 (.lst [.str (Txt.join " " ms)])) := same_upd n1
    refine ⟨_, rfl, a, C, dx, _, _, rfl, s1 _ _ h1, U.cl, U.nW, cf_w _ _, b2, rfl, ⟨_, (hb2.same s1).sq⟩, fun D hD => ?_⟩
    refine lc_it (walk_tup (K := K) (a := b2) (xs := xs2)) (PvS (upd H l1 (.lst [.str (Txt.join " " ms)])) D ((ws.map wayT).map V.str)) (pvs0 hD) (fun i H1 _ h => ((hb2.same s1).same h.1).sq) ?_ (fun H1 h => ?_)
    · rintro i x _ H1 hi h ⟨rfl, hx⟩
      obtain ⟨d, hd, imx⟩ := hall2.get hx
      rw [List.getElem?_map] at hd
      cases hz : ws[i]? with
      | none => rw [hz] at hd; cases hd
      | some r =>
        rw [hz] at hd
        cases hd
        refine ⟨rfl, turnY ?_⟩
        refine ⟨_, rfl, x, ms.length, r, rfl, Im.mono (Same.tups (s1.trans h.1)) _ _ imx, h5.way r (List.mem_of_getElem? hz), h5.n6, fun H2 s2 => ?_⟩
        exact pvs1 hD h s2 (by rw [List.length_map, List.length_map]; omega) (by rw [List.getElem?_map, List.getElem?_map, hz]; rfl)
    obtain ⟨s2, hl2⟩ := pvsE h (by rw [List.length_map, List.length_map, hxl])
    refine ⟨l1, D, _, _, rfl, rfl, s2 _ _ upd_same, hl2, ?_, fun l3 n3 => ?_⟩
    · rw [List.length_map, List.length_map]
      exact Nat.le_trans (by show 1 + ws.length ≤ 7; omega) (by decide : 7 ≤ sizeLine)
    have e : [V.str (Txt.join " " ms)] ++ (ws.map wayT).map V.str = (mindsT ms :: ws.map wayT).map V.str := rfl
    rw [e]
    refine ⟨"\n", l3, mindsT ms :: ws.map wayT, rfl, rfl, .inl (SqL.of upd_same), ?_, k _ ((s1.trans s2).trans (same_upd n3))⟩
    have q := sum_le (f := fun y : Str => y.length) (lines_le h4 h5)
    have e2 : (("\n" : Str)).length = 1 := rfl
    rw [List.length_cons, List.length_map] at q ⊢
    rw [e2]
    omega
end
end M

namespace M
open PySem L2 U
abbrev sEnd : Stmt := top 41
abbrev nEnd : List Str := ["_law_act", "_law_came", "e", "_law_names", "_law_word_here", "_law_pair_here", "_law_bases", "_law_base", "_law_k"]
abbrev pEnd : List Str := ["_law_act"]
theorem scEnd : FnScope nEnd pEnd (defScope sEnd) := ⟨rfl, rfl, rfl, by decide +kernel, rfl, by decide +kernel, by decide +kernel⟩
abbrev sIsE : Stmt := top 42
abbrev nIsE : List Str := ["_law_acts", "_law_due_here", "_law_act"]
abbrev pIsE : List Str := ["_law_acts", "_law_due_here"]
theorem scIsE : FnScope nIsE pIsE (defScope sIsE) := ⟨rfl, rfl, rfl, by decide +kernel, rfl, by decide +kernel, by decide +kernel⟩
/-- the errors of the package, as this law's text has them; S: those that may come -/
def ixs : List Nat := [0, 1, 4, 5, 6, 7, 8, 9, 12, 13, 15]
structure En (K : PySem.W.Frag) (mg : Str → Option Value) (c W : Nat → Addr) (S : Nat → Prop) : Prop where
  g0 : mg "InvalidText" = some (.ref (c 0))
  g1 : mg "InvalidNumber" = some (.ref (c 1))
  g4 : mg "InvalidIndex" = some (.ref (c 4))
  g5 : mg "NotACouncil" = some (.ref (c 5))
  g6 : mg "InvalidMinds" = some (.ref (c 6))
  g7 : mg "InvalidWays" = some (.ref (c 7))
  g8 : mg "InvalidWord" = some (.ref (c 8))
  g9 : mg "InvalidThoughts" = some (.ref (c 9))
  g12 : mg "UnknownName" = some (.ref (c 12))
  g13 : mg "NoDays" = some (.ref (c 13))
  g15 : mg "TooMany" = some (.ref (c 15))
  w0 : mg "WrongValue" = some (.ref (W 0))
  w1 : mg "WrongName" = some (.ref (W 1))
  w2 : mg "NoAnswer" = some (.ref (W 2))
  q : XQ K
  b : ∀ i, S i → XB K (c i)
  i : ∀ i, S i → i ∈ [0, 4, 5, 6, 7, 8, 9, 12, 15]
  kit : ∀ i k, S i → k ∈ ixs → PySem.W.kitOne K (.ref (c i)) (.ref (c k)) = some (decide (k = i))
  kitW : ∀ i b, S i → b < 3 → PySem.W.kitOne K (.ref (c i)) (.ref (W b)) = some (decide (b = bkX i))
  ex : ∀ i, S i → PySem.W.exmAny K (.ref (c i)) [.ref (W 0), .ref (W 1), .ref (W 2)] = some true
  no : ∀ i, S i → PySem.W.findIn K (.ref (c i)) (fX i) = some none
def wdX (i : Nat) : Str := if i = 0 then "text" else if i = 1 then "number" else if i = 4 then "index" else if i = 5 then "council" else if i = 6 then "minds" else if i = 7 then "ways" else if i = 8 then "word" else if i = 9 then "thoughts" else if i = 12 then "unknown" else if i = 13 then "no days" else "many"
def prsX (i : Nat) : List (Bool × Str) := [(decide (0 = i), "text"), (decide (1 = i), "number"), (decide (4 = i), "index"), (decide (5 = i), "council"), (decide (6 = i), "minds"), (decide (7 = i), "ways"), (decide (8 = i), "word"), (decide (9 = i), "thoughts"), (decide (12 = i), "unknown"), (decide (13 = i), "no days"), (decide (15 = i), "many")]
def ocW : Oc → Str
  | .told _ => "told"
  | .bad i _ => wdX i
def ocZ : Oc → Str
  | .told z => z
  | .bad _ z => z
def ocS (S : Nat → Prop) : Oc → Prop
  | .told _ => True
  | .bad i _ => S i
theorem fx_eq : ∀ i, i ∈ [0, 4, 5, 6, 7, 8, 9, 12, 15] → (inV (.str (wdX i)) [.str "minds", .str "ways", .str "word", .str "thoughts"] = true → fX i = "index") ∧ (inV (.str (wdX i)) [.str "minds", .str "ways", .str "word", .str "thoughts"] = false → fX i = "given") := by decide +kernel
theorem said_eq : ∀ i, i ∈ [0, 4, 5, 6, 7, 8, 9, 12, 15] → said (prsX i) = [wdX i] := by decide +kernel
theorem wd_nd : ∀ i, i ∈ [0, 4, 5, 6, 7, 8, 9, 12, 15] → decide (wdX i = "no days") = false := by decide +kernel
theorem wd_len : ∀ i, (wdX i).length ≤ 8 := by
  intro i
  unfold wdX
  repeat (first | decide | (split <;> try decide))
def spEnd (P : Program) (w : World) (K : PySem.W.Frag) (mg : Str → Option Value) (base : Heap) (c : Nat → Addr) (S : Nat → Prop) : SpS := fun outer s vs H Q _ => ∃ (f : Addr) (oc : Oc) (B : List (Addr × Obj)), vs = [.ref f] ∧ Act P w K mg base c 20 B H f oc ∧ Kept B outer s H ∧ ocS S oc ∧ (ocZ oc).length ≤ sizeLine ∧
  ∀ H' p, Same H H' → H p = none → H' p = some (.lst [.str (ocW oc), .str (ocZ oc)]) → Q (.ref p) H'
section
variable {P : Program} {w : World} {K : PySem.W.Frag} {mg : Str → Option Value} {base : Heap} {c W : Nat → Addr} {S : Nat → Prop}
/-- one pair of the suite's lists -/
theorem pairI {σ : L2.St} {H : Hp} {Q : VK} {a d C D : Addr} {cls : Value} {dd : Option Addr} {fs : List (Str × V)} {j : Nat} {b : Bool} {n : Str} (h0 : σ[j]? = some (some (.ref a))) (h1 : cls = .ref D) (h2 : dd = some d) (h3 : H d = some (.xd fs)) (T : XB K D) (Z : XQ K) (hk : PySem.W.kitOne K (.ref D) (.ref C) = some b)
    (h : ∀ r H', Same H H' → H' r = some (.lst [.bl b, .str n]) → Q (.ref r) H') : tLst (tCons (tCB (rIsS K a cls dd) (tCons (tVar j) (tCons (tC (.ref C)) tNil))) (tCons (tC (.str n)) tNil)) σ H Q :=
  ⟨_, h0, _, _, _, _, _, _, rfl, h1, h2, h3, T, Z, fun _ e => e, hk, by show 2 ≤ sizeLine; decide, fun r nr => h r _ (same_upd nr) upd_same⟩
abbrev tPair (K : PySem.W.Frag) (a : Addr) (cls : Value) (dd : Option Addr) (j : Nat) (C : Addr) (n : Str) : TE := tLst (tCons (tCB (rIsS K a cls dd) (tCons (tVar j) (tCons (tC (.ref C)) tNil))) (tCons (tC (.str n)) tNil))
theorem disp2 {σ : L2.St} {H : Hp} {Q : VK} {a d C C' D : Addr} {cls : Value} {dd : Option Addr} {fs : List (Str × V)} {j : Nat} {b b' : Bool} {n n' : Str} (h0 : σ[j]? = some (some (.ref a))) (h1 : cls = .ref D) (h2 : dd = some d) (h3 : H d = some (.xd fs)) (T : XB K D) (Z : XQ K) (hk : PySem.W.kitOne K (.ref D) (.ref C) = some b)
    (hk' : PySem.W.kitOne K (.ref D) (.ref C') = some b') (h : ∀ l H', Same H H' → Prs H' l [(b, n), (b', n')] → Q (.ref l) H') : tLst (tCons (tPair K a cls dd j C n) (tCons (tPair K a cls dd j C' n') tNil)) σ H Q := by
  show tPair K a cls dd j C n σ H fun x H1 => tPair K a cls dd j C' n' σ H1 fun y H2 => [x, y].length ≤ sizeLine ∧ ∀ p, H2 p = none → Q (.ref p) (upd H2 p (.lst [x, y]))
  refine pairI h0 h1 h2 h3 T Z hk fun r G s1 p1 => ?_
  refine pairI h0 h1 h2 (s1 _ _ h3) T Z hk' fun r' G' s2 p2 => ?_
  exact ⟨by show 2 ≤ sizeLine; decide, fun l nl => h l _ ((s1.trans s2).trans (same_upd nl)) (prs2 upd_same ((s2.trans (same_upd nl)) _ _ p1) (same_upd nl _ _ p2))⟩
theorem disp1 {σ : L2.St} {H : Hp} {Q : VK} {a d C D : Addr} {cls : Value} {dd : Option Addr} {fs : List (Str × V)} {j : Nat} {b : Bool} {n : Str} (h0 : σ[j]? = some (some (.ref a))) (h1 : cls = .ref D) (h2 : dd = some d) (h3 : H d = some (.xd fs)) (T : XB K D) (Z : XQ K) (hk : PySem.W.kitOne K (.ref D) (.ref C) = some b)
    (h : ∀ l H', Same H H' → Prs H' l [(b, n)] → Q (.ref l) H') : tLst (tCons (tPair K a cls dd j C n) tNil) σ H Q := by
  show tPair K a cls dd j C n σ H fun x H1 => [x].length ≤ sizeLine ∧ ∀ p, H1 p = none → Q (.ref p) (upd H1 p (.lst [x]))
  refine pairI h0 h1 h2 h3 T Z hk fun r G s1 p1 => ?_
  exact ⟨by show 1 ≤ sizeLine; decide, fun l nl => h l _ (s1.trans (same_upd nl)) (prs1 upd_same (same_upd nl _ _ p1))⟩
theorem catI {σ : L2.St} {H : Hp} {Q : VK} {l : Addr} {ps qs : List (Bool × Str)} {td : TE} {m : Nat} (hm : σ[m]? = some (some (.ref l))) (hp : Prs H l ps) (hl : ps.length + qs.length ≤ 1000) (hd : ∀ Q' : VK, (∀ l' H', Same H H' → Prs H' l' qs → Q' (.ref l') H') → td σ H Q')
    (h : ∀ k H', Same H H' → Prs H' k (ps ++ qs) → Q (.ref k) H') : tOp rCat (tVar m) td σ H Q := by
  refine ⟨_, hm, hd _ fun l' G s1 p1 => ?_⟩
  obtain ⟨rs, e1, e2, e3⟩ := hp.same s1
  obtain ⟨ts, f1, f2, f3⟩ := p1
  refine ⟨l, l', _, _, rfl, rfl, e1, f1, ?_, fun p np => h p _ (s1.trans (same_upd np)) (Prs.cat ⟨rs, e1, e2, e3⟩ ⟨ts, f1, f2, f3⟩ (same_upd np) fun xs ys g1 g2 => ?_)⟩
  · rw [List.length_map, List.length_map, e2, f2, sizeLine_eq]
    omega
  · rw [e1] at g1
    rw [f1] at g2
    cases g1
    cases g2
    exact upd_same
def bsZ (z : Str) : Int := if z = "unknown" then 1 else if inV (.str z) [.str "no days", .str "many"] = true then 2 else 0
theorem baseI {σ : L2.St} {H : Hp} {Q : VK} {z : Str} (h4 : σ[4]? = some (some (.str z))) (h : ∀ H', Same H H' → Q (.int (bsZ z)) H') :
    tIf (tTest (tOp rEq (tVar 4) (tC (.str "unknown")))) (tC (.int 1)) (tIf (tTest (tOp (rIn K false) (tVar 4) (tLst (tCons (tC (.str "no days")) (tCons (tC (.str "many")) tNil))))) (tC (.int 2)) (tC (.int 0))) σ H Q := by
  unfold bsZ at h
  refine ⟨_, h4, rfl, _, rfl, ite2 (fun e => ?_) (fun e => ?_)⟩
  · have e : z = "unknown" := V.str.inj (of_decide_eq_true e)
    rw [if_pos e] at h
    exact h H (fun _ _ q => q)
  · have e : ¬ z = "unknown" := fun q => e (decide_eq_true (by rw [q]))
    rw [if_neg e] at h
    refine ⟨_, h4, by show 2 ≤ sizeLine; decide, fun l nl => ⟨l, _, rfl, .inl (SqL.of upd_same), rfl, rfl, _, rfl, ite2 (fun q => ?_) (fun q => ?_)⟩⟩
    · have q : inV (.str z) [.str "no days", .str "many"] = true := q
      rw [if_pos q] at h
      exact h _ (same_upd nl)
    · have q : ¬ inV (.str z) [.str "no days", .str "many"] = true := q
      rw [if_neg q] at h
      exact h _ (same_upd nl)
theorem bs_eq : ∀ i, i ∈ [0, 4, 5, 6, 7, 8, 9, 12, 15] → bsZ (wdX i) = (bkX i : Nat) := by decide +kernel
theorem decNat {k i : Nat} : decide (V.int (0 + (k : Int)) = V.int (i : Int)) = decide (k = i) := by
  rw [Bool.eq_iff_iff, decide_eq_true_eq, decide_eq_true_eq]
  constructor
  · intro h
    injection h with h
    omega
  · intro h
    rw [h, Int.zero_add]
def bs3 (i : Nat) : List Bool := [0, 1, 2].map fun b => decide (b = bkX i)
theorem bs3_get (i : Nat) : ∀ j, j < 3 → (bs3 i)[j]? = some (decide (j = bkX i)) := fun j hj => by
  have h : j = 0 ∨ j = 1 ∨ j = 2 := by omega
  rcases h with rfl | rfl | rfl <;> rfl
theorem shapedBs (bs : List Bool) : SeqAt.shaped (dBools bs) = true := by
  unfold SeqAt.shaped
  have h := dBools_lay bs
  rw [h.1, decide_eq_true (Nat.le_trans h.2 (by decide))]; rfl
theorem ok_end {f : Addr} {fd : FuncData} (F : Fun K "_law_ended" "_law_ended" sEnd f fd) (T : Bt mg) (U : En K mg c W S) : FnS P w K mg base CX0 21 f fd pEnd (spEnd P w K mg base c S) := by
  refine fnS_of F scEnd (fun o s vs H Q E h => ?_) (fun cdv A outer s H vs Q E hg hr h => ?_)
  · obtain ⟨f, oc, B, rfl, _⟩ := h
    rfl
  · obtain ⟨fa, oc, B, rfl, hA, kp, hS, hz0, k⟩ := h
    refine ⟨_, (pss_cons (ps_try_as3N (i := 2) rfl rfl scEnd.nd rfl rfl ⟨rfl, by decide, .inl U.w0⟩ ⟨rfl, by decide, .inl U.w1⟩ ⟨rfl, by decide, .inl U.w2⟩
      (fun W pn xe tk po => (pss_one (ps_set (i := 1) scEnd.nd rfl (Or.inl rfl) (pe_actK P w K mg base c B (i := 0) (k := 20) (E := WE W) (kept_def kp rfl rfl) hg hr (by decide) (fun σ => L2N.passAt tk σ) rfl (Or.inl rfl)))))
      (fun a oe cls dd pn hz hf => (pss_cons (ps_set (i := 3) scEnd.nd rfl (Or.inl rfl) (pe_lst (pa_cons (pe_lst (pa_cons (pe_callB (isS K hz hf) (by rfl) T.isinstance (by decide +kernel) (pa_cons (pv 2) (pa_cons (pe_globE (v := .ref (c 0)) ⟨_, U.g0, rfl⟩) pa_nil))) (pa_cons pe_str pa_nil))) (pa_cons (pe_lst (pa_cons (pe_callB (isS K hz hf) (by rfl) T.isinstance (by decide +kernel) (pa_cons (pv 2) (pa_cons (pe_globE (v := .ref (c 1)) ⟨_, U.g1, rfl⟩) pa_nil))) (pa_cons pe_str pa_nil))) pa_nil))))
      (pss_cons (ps_set (i := 3) scEnd.nd rfl (Or.inl rfl) (pe_op op_cat (pv 3) (pe_lst (pa_cons (pe_lst (pa_cons (pe_callB (isS K hz hf) (by rfl) T.isinstance (by decide +kernel) (pa_cons (pv 2) (pa_cons (pe_globE (v := .ref (c 4)) ⟨_, U.g4, rfl⟩) pa_nil))) (pa_cons pe_str pa_nil))) (pa_cons (pe_lst (pa_cons (pe_callB (isS K hz hf) (by rfl) T.isinstance (by decide +kernel) (pa_cons (pv 2) (pa_cons (pe_globE (v := .ref (c 5)) ⟨_, U.g5, rfl⟩) pa_nil))) (pa_cons pe_str pa_nil))) pa_nil)))))
      (pss_cons (ps_set (i := 3) scEnd.nd rfl (Or.inl rfl) (pe_op op_cat (pv 3) (pe_lst (pa_cons (pe_lst (pa_cons (pe_callB (isS K hz hf) (by rfl) T.isinstance (by decide +kernel) (pa_cons (pv 2) (pa_cons (pe_globE (v := .ref (c 6)) ⟨_, U.g6, rfl⟩) pa_nil))) (pa_cons pe_str pa_nil))) (pa_cons (pe_lst (pa_cons (pe_callB (isS K hz hf) (by rfl) T.isinstance (by decide +kernel) (pa_cons (pv 2) (pa_cons (pe_globE (v := .ref (c 7)) ⟨_, U.g7, rfl⟩) pa_nil))) (pa_cons pe_str pa_nil))) pa_nil)))))
      (pss_cons (ps_set (i := 3) scEnd.nd rfl (Or.inl rfl) (pe_op op_cat (pv 3) (pe_lst (pa_cons (pe_lst (pa_cons (pe_callB (isS K hz hf) (by rfl) T.isinstance (by decide +kernel) (pa_cons (pv 2) (pa_cons (pe_globE (v := .ref (c 8)) ⟨_, U.g8, rfl⟩) pa_nil))) (pa_cons pe_str pa_nil))) (pa_cons (pe_lst (pa_cons (pe_callB (isS K hz hf) (by rfl) T.isinstance (by decide +kernel) (pa_cons (pv 2) (pa_cons (pe_globE (v := .ref (c 9)) ⟨_, U.g9, rfl⟩) pa_nil))) (pa_cons pe_str pa_nil))) pa_nil)))))
      (pss_cons (ps_set (i := 3) scEnd.nd rfl (Or.inl rfl) (pe_op op_cat (pv 3) (pe_lst (pa_cons (pe_lst (pa_cons (pe_callB (isS K hz hf) (by rfl) T.isinstance (by decide +kernel) (pa_cons (pv 2) (pa_cons (pe_globE (v := .ref (c 12)) ⟨_, U.g12, rfl⟩) pa_nil))) (pa_cons pe_str pa_nil))) (pa_cons (pe_lst (pa_cons (pe_callB (isS K hz hf) (by rfl) T.isinstance (by decide +kernel) (pa_cons (pv 2) (pa_cons (pe_globE (v := .ref (c 13)) ⟨_, U.g13, rfl⟩) pa_nil))) (pa_cons pe_str pa_nil))) pa_nil)))))
      (pss_cons (ps_set (i := 4) scEnd.nd rfl (Or.inl rfl) (pjoin K pe_str (pa_cons (pe_lcS (own := [("_law_pair_here", 5)]) (g := gName 5) (fun _ _ _ _ b => sd_blk (hotS hz hf) b) scEnd.nd (pisL K (pe_op op_cat (pv 3) (pe_lst (pa_cons (pe_lst (pa_cons (pe_callB (isS K hz hf) (by rfl) T.isinstance (by decide +kernel) (pa_cons (pv 2) (pa_cons (pe_globE (v := .ref (c 15)) ⟨_, U.g15, rfl⟩) pa_nil))) (pa_cons pe_str pa_nil))) pa_nil)))) (blkOk_by (own := [("_law_pair_here", 5)]) (N := nEnd) (sc := defScope sEnd) (by decide +kernel)) (fun _ _ _ _ _ => (pg_name (i := 5) scEnd.nd rfl (Or.inl rfl))) (fun _ _ _ _ _ => (pts_one (pt_val (pe_ix (ixL K) (pv 5) pe_int (fun _ _ => rfl)))))
          (fun s₁ H₁ C₁ cl₁ fp₁ bk₁ => (pe_ix (ixL K) (pv 5) pe_int (fun _ _ => rfl)))) pa_nil)))
      (pss_cons (ps_set (i := 6) scEnd.nd rfl (Or.inl rfl) (pe_lst (pa_cons (pe_callB (isS K hz hf) (by rfl) T.isinstance (by decide +kernel) (pa_cons (pv 2) (pa_cons (pe_globE (v := .ref (W 0)) ⟨_, U.w0, rfl⟩) pa_nil))) (pa_cons (pe_callB (isS K hz hf) (by rfl) T.isinstance (by decide +kernel) (pa_cons (pv 2) (pa_cons (pe_globE (v := .ref (W 1)) ⟨_, U.w1, rfl⟩) pa_nil))) (pa_cons (pe_callB (isS K hz hf) (by rfl) T.isinstance (by decide +kernel) (pa_cons (pv 2) (pa_cons (pe_globE (v := .ref (W 2)) ⟨_, U.w2, rfl⟩) pa_nil))) pa_nil)))))
      (pss_cons (ps_set (i := 7) scEnd.nd rfl (Or.inr rfl) (pe_ifExp (pt_cmpR op_eq (pv 4) pe_str (nomark _)) pe_int (pe_ifExp (pt_cmpR (inQ K) (pv 4) (pe_lst (pa_cons pe_str (pa_cons pe_str pa_nil))) (by rfl)) pe_int pe_int)))
      (pss_cons (ps_if (pt_cmpR (neD K hr.units) (pv 6) (pe_lcS (own := [("_law_k", 8)]) (g := gName 8) (tt := tYes) (fun _ _ _ _ b => sd_blk (hotS hz hf) b) scEnd.nd (pisR rfl T.range (pa_cons pe_int pa_nil)) (blkOk_by (own := [("_law_k", 8)]) (N := nEnd) (sc := defScope sEnd) (by decide +kernel)) (fun _ _ _ _ _ => (pg_name (i := 8) scEnd.nd rfl (Or.inl rfl))) (fun _ _ _ _ _ => pts_nil)
          (fun s₁ H₁ C₁ cl₁ fp₁ bk₁ => (pe_cmpR op_eq (pv 8) (pv 7) (nomark _)))) (nomark _))
        (pss_one (ps_ret (pe_lst (pa_cons pe_str (pa_cons pe_str pa_nil))))) pss_nil)
      (pss_cons (ps_if (pt_cmpR op_eq (pv 4) pe_str (nomark _))
        (pss_one (ps_ret (pe_lst (pa_cons (pv 4) (pa_cons pe_str pa_nil))))) pss_nil)
      (pss_one (ps_ret (pe_lst (pa_cons (pv 4) (pa_cons (pe_ifExp (pt_cmpR (inQ K) (pv 4) (pe_lst (pa_cons pe_str (pa_cons pe_str (pa_cons pe_str (pa_cons pe_str pa_nil))))) (by rfl)) (pe_callB (reprV K hg hr.units) (by rfl) T.repr (by decide +kernel) (pa_cons (pe_fs K hz hf (pv 2)) pa_nil)) (pe_callB (reprV K hg hr.units) (by rfl) T.repr (by decide +kernel) (pa_cons (pe_fs K hz hf (pv 2)) pa_nil))) pa_nil)))))))))))))))))
      (pss_one (ps_ret (pe_lst (pa_cons pe_str (pa_cons (pe_callB (reprV K hg hr.units) (by rfl) T.repr (by decide +kernel) (pa_cons (pv 1) pa_nil)) pa_nil)))))), ?_⟩
    refine ⟨fa, oc, rfl, hA, ?_⟩
    cases oc with
    | told z =>
      intro v H1 s1 vw
      refine ⟨_, rfl, v, z, rfl, vw, by show 2 ≤ sizeLine; decide, fun p np => k _ p (s1.trans (same_upd np)) (s1.free np) upd_same⟩
    | bad i z =>
      intro d y H1 s1 hd vw
      have hi := U.i i hS
      refine ⟨U.ex i hS, fun a na => ?_⟩
      dsimp only [tSeq, tAsg, gName]
      show (tLst (tCons (tPair K a (.ref (c i)) (some d) 2 (c 0) "text") (tCons (tPair K a (.ref (c i)) (some d) 2 (c 1) "number") tNil))) _ _ _
      refine disp2 rfl rfl rfl hd (U.b i hS) U.q (U.kit i 0 hS (by decide)) (U.kit i 1 hS (by decide)) fun l1 G1 t1 p1 => ?_
      show tOp rCat (tVar 3) (tLst (tCons (tPair K a (.ref (c i)) (some d) 2 (c 4) "index") (tCons (tPair K a (.ref (c i)) (some d) 2 (c 5) "council") tNil))) _ _ _
      refine catI rfl p1 (by simp) (fun Q' h => disp2 rfl rfl rfl (t1 _ _ hd) (U.b i hS) U.q (U.kit i 4 hS (by decide)) (U.kit i 5 hS (by decide)) h) fun l2 G2 t2 p2 => ?_
      replace t2 := t1.trans t2
      show tOp rCat (tVar 3) (tLst (tCons (tPair K a (.ref (c i)) (some d) 2 (c 6) "minds") (tCons (tPair K a (.ref (c i)) (some d) 2 (c 7) "ways") tNil))) _ _ _
      refine catI rfl p2 (by simp) (fun Q' h => disp2 rfl rfl rfl (t2 _ _ hd) (U.b i hS) U.q (U.kit i 6 hS (by decide)) (U.kit i 7 hS (by decide)) h) fun l3 G3 t3 p3 => ?_
      replace t3 := t2.trans t3
      show tOp rCat (tVar 3) (tLst (tCons (tPair K a (.ref (c i)) (some d) 2 (c 8) "word") (tCons (tPair K a (.ref (c i)) (some d) 2 (c 9) "thoughts") tNil))) _ _ _
      refine catI rfl p3 (by simp) (fun Q' h => disp2 rfl rfl rfl (t3 _ _ hd) (U.b i hS) U.q (U.kit i 8 hS (by decide)) (U.kit i 9 hS (by decide)) h) fun l4 G4 t4 p4 => ?_
      replace t4 := t3.trans t4
      show tOp rCat (tVar 3) (tLst (tCons (tPair K a (.ref (c i)) (some d) 2 (c 12) "unknown") (tCons (tPair K a (.ref (c i)) (some d) 2 (c 13) "no days") tNil))) _ _ _
      refine catI rfl p4 (by simp) (fun Q' h => disp2 rfl rfl rfl (t4 _ _ hd) (U.b i hS) U.q (U.kit i 12 hS (by decide)) (U.kit i 13 hS (by decide)) h) fun l5 G5 t5 p5 => ?_
      replace t5 := t4.trans t5
      refine ⟨rfl, ?_⟩
      show tOp rCat (tVar 3) (tLst (tCons (tPair K a (.ref (c i)) (some d) 2 (c 15) "many") tNil)) _ _ _
      refine catI rfl p5 (by simp) (fun Q' h => disp1 rfl rfl rfl (t5 _ _ hd) (U.b i hS) U.q (U.kit i 15 hS (by decide)) h) fun l6 G6 t6 p6 => ?_
      replace t6 := t5.trans t6
      have p6 : Prs G6 l6 (prsX i) := p6
      obtain ⟨rs, e1, e2, e3⟩ := p6
      have hw := wd_len i
      refine ⟨l6, rfl, ⟨_, SqL.of e1⟩, fun D nD => lc_list (K := K) (a := l6) (xs := rs.map V.ref) (fun j G => Same G6 G ∧ G D = some (.lst ((said ((prsX i).take j)).map V.str))) ⟨same_upd nD, upd_same⟩ (fun j G _ h => SqL.of (h.1 _ _ e1)) ?_ (fun G h => ?_)⟩
      · rintro j x G hx ⟨sG, hG⟩
        rw [List.getElem?_map] at hx
        cases hr : rs[j]? with
        | none => rw [hr] at hx; cases hx
        | some r =>
          rw [hr] at hx
          cases hx
          have hj := (List.getElem?_eq_some_iff.mp hr).1
          have hp : (prsX i)[j]? = some ((prsX i)[j]'(by omega)) := List.getElem?_eq_getElem (by omega)
          have h1 := sG _ _ (e3 j r _ hr hp)
          have hs := said_succ hp
          refine ⟨rfl, _, rfl, r, _, 0, _, rfl, rfl, SqL.of h1, rfl, _, rfl, ite2 (fun hb => ?_) (fun hb => ?_)⟩
          · rw [if_pos hb] at hs
            have hl := said_len ((prsX i).take j)
            rw [List.length_take] at hl
            refine ⟨_, rfl, r, _, 1, _, rfl, rfl, SqL.of h1, rfl, _, hG, ?_, fun b o e => ?_, ?_⟩
            · rw [List.length_map, sizeLine_eq]
              have : (prsX i).length = 11 := rfl
              omega
            · rw [upd_ne (ne_of_none e nD)]
              exact sG b o e
            · rw [upd_same, hs, List.map_append]
              rfl
          · rw [if_neg hb, List.append_nil] at hs
            exact ⟨sG, by rw [hs]; exact hG⟩
      obtain ⟨sG, hG⟩ := h
      rw [List.length_map, e2, List.take_length, said_eq i hi] at hG
      have t7 := t6.trans sG
      refine ⟨"", D, [wdX i], rfl, rfl, .inl (SqL.of hG), by show (wdX i).length + 0 + 1 * 0 ≤ 16777216; omega, ?_⟩
      rw [show Txt.join "" [wdX i] = wdX i from by rfl]
      refine ⟨_, rfl, _, _, _, _, _, _, rfl, rfl, rfl, t7 _ _ hd, U.b i hS, U.q, fun _ e => e, U.kitW i 0 hS (by decide), _, rfl, _, _, _, _, _, _, rfl, rfl, rfl, t7 _ _ hd, U.b i hS, U.q, fun _ e => e, U.kitW i 1 hS (by decide), _, rfl, _, _, _, _, _, _, rfl, rfl, rfl, t7 _ _ hd, U.b i hS, U.q, fun _ e => e, U.kitW i 2 hS (by decide), by show 3 ≤ sizeLine; decide, fun lb nb => ?_⟩
      have t8 : Same H1 (upd G lb (.lst ((bs3 i).map V.bl))) := t7.trans (same_upd nb)
      refine baseI (z := wdX i) rfl fun G9 s9 => ?_
      rw [bs_eq i hi]
      have t9 := t8.trans s9
      have hb9 : G9 lb = some (.lst ((bs3 i).map V.bl)) := s9 _ _ upd_same
      refine ⟨_, rfl, 3, rfl, by decide, by decide, fun D2 nD2 => lc_range (lo := 0) (n := 3) (fun j G => Same G9 G ∧ G D2 = some (.lst (((bs3 i).take j).map V.bl))) ⟨same_upd nD2, upd_same⟩ ?_ (fun G' h' => ?_)⟩
      · rintro j G' hj ⟨sG', hG'⟩
        refine ⟨rfl, _, rfl, _, rfl, rfl, _, hG', ?_, fun b o e => ?_, ?_⟩
        · rw [List.length_map, List.length_take, sizeLine_eq]
          omega
        · rw [upd_ne (ne_of_none e nD2)]
          exact sG' b o e
        · rw [upd_same, decNat, List.take_succ, bs3_get i j hj, List.map_append]
          rfl
      obtain ⟨sG', hG'⟩ := h'
      have t10 := t9.trans sG'
      refine ⟨dBools (bs3 i), dBools (bs3 i), dpBools (sG' _ _ hb9), dpBools hG', shapedBs _, shapedBs _, _, rfl, ?_⟩
      rw [eqv_bools, decide_eq_true rfl]
      refine iteF ⟨_, rfl, rfl, _, rfl, ?_⟩
      have en : decide (V.str (wdX i) = V.str "no days") = false := by
        have h := wd_nd i hi
        refine decide_eq_false fun q => ?_
        rw [V.str.inj q, decide_eq_true rfl] at h
        cases h
      rw [en]
      refine iteF ⟨_, rfl, _, rfl, by show 4 ≤ sizeLine; decide, fun lq nq => ⟨lq, _, rfl, .inl (SqL.of upd_same), rfl, rfl, _, rfl, ?_⟩⟩
      have t11 : Same H1 (upd G' lq (.lst [.str "minds", .str "ways", .str "word", .str "thoughts"])) := t10.trans (same_upd nq)
      have fx := fx_eq i hi
      refine ite2 (fun h => ?_) (fun h => ?_)
      · refine ⟨_, rfl, c i, d, _, y, rfl, rfl, rfl, t11 _ _ hd, U.b i hS, by rw [← fx.1 h]; exact U.no i hS, by rw [fx.1 h]; rfl, y, z, rfl, vw_same vw t11, by show 2 ≤ sizeLine; decide, fun p np => k _ p ((s1.trans t11).trans (same_upd np)) ((s1.trans t11).free np) upd_same⟩
      · have h := Bool.eq_false_iff.mpr h
        refine ⟨_, rfl, c i, d, _, y, rfl, rfl, rfl, t11 _ _ hd, U.b i hS, by rw [← fx.2 h]; exact U.no i hS, by rw [fx.2 h]; rfl, y, z, rfl, vw_same vw t11, by show 2 ≤ sizeLine; decide, fun p np => k _ p ((s1.trans t11).trans (same_upd np)) ((s1.trans t11).free np) upd_same⟩
/-- the call of _law_ended where B stands -/
def rEnd (P : Program) (w : World) (K : PySem.W.Frag) (mg : Str → Option Value) (base : Heap) (c : Nat → Addr) (S : Nat → Prop) (B : List (Addr × Obj)) : List V → Hp → VK → Prop := fun vs H Q => ∃ (f : Addr) (oc : Oc), vs = [.ref f] ∧ Act P w K mg base c 20 B H f oc ∧ ocS S oc ∧ (ocZ oc).length ≤ sizeLine ∧
  ∀ H' p, Same H H' → H p = none → H' p = some (.lst [.str (ocW oc), .str (ocZ oc)]) → Q (.ref p) H'
def tEndC (P : Program) (w : World) (K : PySem.W.Frag) (mg : Str → Option Value) (base : Heap) (c : Nat → Addr) (S : Nat → Prop) (B : List (Addr × Obj)) (t : TA) : TE := fun σ H Q => t σ H fun vs H1 => rEnd P w K mg base c S B vs H1 Q
theorem pe_end {X : Cx} {B : List (Addr × Obj)} {j : Nat} {e : Expr} {t : TA} {p pos : Pos} (D : DefS P w K mg base 21 "_law_ended" pEnd (spEnd P w K mg base c S)) (kx : KeptX B X) (hgd : X.A.guards = some []) (hr : Room j X.A) (hk : 21 ≤ j) (ha : PA X [e] t) (hg : Gl X "_law_ended" := by rfl)
    (h1 : X.prog = P := by rfl) (h2 : X.w = w := by rfl) (h3 : X.K = K := by rfl) (h4 : X.mg = mg := by rfl) (h5 : X.base = base := by rfl) (he : starEach [e] X.env = (false, eval e X.env) :: starEach [] X.env := by rfl) (hpl : (backTo pos (starEach [] X.env)).any (·.1) = false := by rfl) :
    PE X (.Call (.Name "_law_ended" p) [e] [] pos) (tEndC P w K mg base c S B t) := by
  subst h1 h2 h3 h4 h5
  refine pe_fnS (R := fun _ vs H Q => rEnd X.prog X.w X.K X.mg X.base c S B vs H Q) D hgd hr hk (fun pins σ H s vs Q I h => ?_) ha hg (by decide) he hpl
  obtain ⟨f, oc, rfl, hA, hS, hl, k⟩ := h
  exact ⟨f, oc, B, rfl, hA, kx pins σ H s I, hS, hl, k⟩
/-- the acts of the list at l end so, all of them -/
def Acts (P : Program) (w : World) (K : PySem.W.Frag) (mg : Str → Option Value) (base : Heap) (c : Nat → Addr) (S : Nat → Prop) (B : List (Addr × Obj)) (H : Hp) (fs : List Addr) (x z : Str) : Prop := ∀ f ∈ fs, ∃ oc, Act P w K mg base c 20 B H f oc ∧ ocS S oc ∧ ocW oc = x ∧ ocZ oc = z
def spIsE (P : Program) (w : World) (K : PySem.W.Frag) (mg : Str → Option Value) (base : Heap) (c : Nat → Addr) (S : Nat → Prop) : SpS := fun outer s vs H Q _ => ∃ (l pd : Addr) (fs : List Addr) (x z : Str) (B : List (Addr × Obj)), vs = [.ref l, .ref pd] ∧ H l = some (.lst (fs.map V.ref)) ∧ fs.length ≤ 10 ∧ H pd = some (.lst [.str x, .str z]) ∧
  Acts P w K mg base c S B H fs x z ∧ Kept B outer s H ∧ z.length ≤ sizeLine ∧ ∀ H', Same H H' → Q (.bl true) H'
theorem paired_end {H : Hp} {x z : Str} {pd : Addr} (hp : H pd = some (.lst [.str x, .str z])) : ∀ {ps : List Addr}, (∀ p ∈ ps, H p = some (.lst [.str x, .str z])) → Paired (EqV K H 2) (ps.map V.ref) (List.replicate ps.length (V.ref pd))
  | [], _ => .nil
  | p :: ps, h => .cons (.inr (.inr (.inl ⟨p, pd, _, _, rfl, rfl, SqL.of (h p List.mem_cons_self), SqL.of hp, .cons (.inl ⟨rfl, rfl⟩) (.cons (.inl ⟨rfl, rfl⟩) .nil)⟩))) (paired_end hp fun q hq => h q (List.mem_cons_of_mem _ hq))
theorem ok_isE {f : Addr} {fd : FuncData} (F : Fun K "_law_is_ended" "_law_is_ended" sIsE f fd) (T : Bt mg) (D : DefS P w K mg base 21 "_law_ended" pEnd (spEnd P w K mg base c S)) : FnS P w K mg base CX0 22 f fd pIsE (spIsE P w K mg base c S) := by
  refine fnS_of F scIsE (fun o s vs H Q E h => ?_) (fun cdv A outer s H vs Q E hg hr h => ?_)
  · obtain ⟨l, pd, fs, x, z, B, rfl, _⟩ := h
    rfl
  · obtain ⟨l, pd, fs, x, z, B, rfl, hl, hn, hp, hA, kp, hz, k⟩ := h
    refine ⟨_, (pss_one (ps_ret (pe_cmpR (eqVQ K hr.units) (pe_lcS (own := [("_law_act", 2)]) (g := gName 2) (tt := tYes) (fun _ _ _ _ _ => sd_calm rfl) scIsE.nd (pisL K (pv 0)) (blkOk_by (own := [("_law_act", 2)]) (N := nIsE) (sc := defScope sIsE) (by decide +kernel)) (fun _ _ _ _ _ => (pg_name (i := 2) scIsE.nd rfl (Or.inl rfl))) (fun _ _ _ _ _ => pts_nil)
          (fun s₁ H₁ C₁ cl₁ fp₁ bk₁ => (pe_end (B := B) D (kept_blk (kept_def kp rfl rfl) kp rfl bk₁) hg hr (by decide) (pa_cons (pv 2) pa_nil)))) (pe_op op_rep (pe_lst (pa_cons (pv 1) pa_nil)) (pe_callB (lenQ K) (by rfl) T.len (by decide +kernel) (pa_cons (pv 0) pa_nil))) (nomark _)))), ?_⟩
    refine ⟨_, rfl, l, rfl, ⟨_, SqL.of hl⟩, fun D' nD => lc_list (K := K) (a := l) (xs := fs.map V.ref) (fun j G => Same H G ∧ ∃ ps : List Addr, ps.length = j ∧ G D' = some (.lst (ps.map V.ref)) ∧ ∀ p ∈ ps, p ≠ D' ∧ G p = some (.lst [.str x, .str z])) ⟨same_upd nD, [], rfl, upd_same, by simp⟩ (fun j G _ h => SqL.of (h.1 _ _ hl)) ?_ (fun G h => ?_)⟩
    · rintro j v G hv ⟨sG, ps, pl, hG, hps⟩
      rw [List.getElem?_map] at hv
      cases hr : fs[j]? with
      | none => rw [hr] at hv; cases hv
      | some g =>
        rw [hr] at hv
        cases hv
        obtain ⟨oc, a1, a2, a3, a4⟩ := hA g (List.mem_of_getElem? hr)
        have hj := (List.getElem?_eq_some_iff.mp hr).1
        refine ⟨rfl, _, rfl, g, oc, rfl, a1.same sG, a2, by rw [a4]; exact hz, fun G' p s' np hp' => ⟨_, s' _ _ hG, ?_, fun b o e => ?_, ps ++ [p], ?_, ?_, ?_⟩⟩
        · rw [List.length_map, sizeLine_eq]
          omega
        · rw [upd_ne (ne_of_none e nD)]
          exact s' _ _ (sG b o e)
        · rw [List.length_append, pl]
          rfl
        · rw [upd_same, List.map_append]
          rfl
        · intro q hq
          rw [a3, a4] at hp'
          rcases List.mem_append.mp hq with hq | hq
          · refine ⟨(hps q hq).1, ?_⟩
            rw [upd_ne (hps q hq).1]
            exact s' _ _ (hps q hq).2
          · have hq : q = p := by simpa using hq
            subst hq
            have ne : q ≠ D' := fun z => by
              rw [z, hG] at np
              cases np
            exact ⟨ne, by rw [upd_ne ne]; exact hp'⟩
    · obtain ⟨sG, ps, pl, hG, hps⟩ := h
      rw [List.length_map] at pl
      refine ⟨_, rfl, by show 1 ≤ sizeLine; decide, fun l1 n1 => ⟨_, rfl, l, _, rfl, .inl (SqL.of (same_upd n1 _ _ (sG _ _ hl))), l1, _, _, rfl, rfl, upd_same, by omega, ?_, ?_, fun l2 n2 => ?_⟩⟩
      · rw [List.length_map]
        omega
      · rw [List.length_map]
        show 1 * ((fs.length : Int)).toNat ≤ sizeLine
        rw [sizeLine_eq]
        omega
      have s2 : Same G (upd (upd G l1 (.lst [.ref pd])) l2 (.lst (List.replicate (((fs.map V.ref).length : Nat) : Int).toNat [V.ref pd]).flatten)) := (same_upd n1).trans (same_upd n2)
      have e : (List.replicate (((fs.map V.ref).length : Nat) : Int).toNat [V.ref pd]).flatten = List.replicate ps.length (V.ref pd) := by
        rw [List.length_map, pl, Int.toNat_natCast]
        simp
      rw [e] at s2 ⊢
      exact ⟨2, by decide, .inl ⟨D', l2, _, _, rfl, rfl, SqL.of (s2 _ _ hG), SqL.of upd_same, paired_end (s2 _ _ (sG _ _ hp)) fun p hp' => s2 _ _ (hps p hp').2⟩, k _ (sG.trans s2)⟩
end
end M

namespace U
open PySem L2
theorem FnOk.or {P : Program} {w : World} {K : PySem.W.Frag} {mg : Str → Option Value} {base : Heap} {CX : CXT} {k : Nat} {f : Addr} {fd : FuncData} {ps : List Str} {sp sq : Sp} (F : FnOk P w K mg base CX k f fd ps sp) (G : FnOk P w K mg base CX k f fd ps sq) :
    FnOk P w K mg base CX k f fd ps (fun vs H Q E => sp vs H Q E ∨ sq vs H Q E) :=
  ⟨fun vs H Q E h => h.elim (F.len vs H Q E) (G.len vs H Q E), fun A outer s H args us vs Q E hr e0 hb r h => h.elim (F.run A outer s H args us vs Q E hr e0 hb r) (G.run A outer s H args us vs Q E hr e0 hb r)⟩
structure DefE (P : Program) (w : World) (K : PySem.W.Frag) (mg : Str → Option Value) (base : Heap) (k : Nat) (x : Str) (ps : List Str) (sp : Sp) : Prop where
  ex : ∃ (f : Addr) (fd : FuncData), FnOk P w K mg base (L2N.CX P w) k f fd ps sp ∧ mg x = some (.ref f) ∧ PySem.W.keepIn K (.ref f) = true ∧ Binds K fd ps []
theorem pe_fnE {X : Cx} {E : XK} {k j : Nat} {x : Str} {ps : List Str} {sp : Sp} {e : Expr} {es : List Expr} {t : TA} {p pos : Pos} (tk : L2N.Takes X (fun cls d _ H => E cls d H)) (D : DefE X.prog X.w X.K X.mg X.base k x ps sp) (hr : Room j X.A) (hk : k ≤ j)
    (ha : PA X (e :: es) t) (hg : Gl X x := by rfl) (hdb : (x == ("__debug__" : Str)) = false := by decide) (he : starEach (e :: es) X.env = (false, eval e X.env) :: starEach es X.env := by rfl) (hpl : (backTo pos (starEach es X.env)).any (·.1) = false := by rfl) :
    PE X (.Call (.Name x p) (e :: es) [] pos) (tCall sp [] E t) := by
  obtain ⟨f, fd, F, hm, hkp, hb⟩ := D.ex
  exact pe_call F (hr.mono hk) hg hm hkp hb .nil (passN tk) ha hdb he hpl
end U
namespace M
open PySem L2 U
/-- a thing that may stand among minds: a text, or no text -/
def ItemV (K : PySem.W.Frag) (H : Hp) (v : V) : Option Str → Prop
  | some x => v = .str x ∧ x.length ≤ 1000 ∧ PyData.strOk x = true
  | none => ∃ t, TyX K H v t ∧ PySem.W.kitOne K t (.type "str") = some false
def itB : Option Str → Bool
  | some x => nameB x
  | none => false
theorem name_ok {x : Str} (h : nameB x = true) : PyData.strOk x = true := by
  show x.cps.all (· < 0x110000) = true
  rw [← Array.all_toList]
  exact List.all_eq_true.mpr fun c hc => decide_eq_true (by have := name_signs h c hc; omega)
def spNmN (K : PySem.W.Frag) : Sp := fun vs H Q _ => ∃ (v : V) (t : Value), vs = [v] ∧ TyX K H v t ∧ PySem.W.kitOne K t (.type "str") = some false ∧ Q (.bl false) H
def spNmI (K : PySem.W.Frag) : Sp := fun vs H Q E => spName vs H Q E ∨ spNmN K vs H Q E
theorem spNmI_of {K : PySem.W.Frag} {v : V} {x : Option Str} {H : Hp} {Q : VK} {E : XK} (h : ItemV K H v x) (k : ∀ H', Same H H' → Q (.bl (itB x)) H') : spNmI K [v] H Q E := by
  cases x with
  | some x =>
    obtain ⟨rfl, hl, _⟩ := h
    exact .inl ⟨x, rfl, hl, k⟩
  | none =>
    obtain ⟨t, h1, h2⟩ := h
    exact .inr ⟨v, t, rfl, h1, h2, k H (Same.refl H)⟩
/-- what stands ahead of the first that is wrong -/
structure PreOk (pre : List Str) : Prop where
  m6 : pre.length ≤ 6
  nd : pre.Nodup
  nm : ∀ x ∈ pre, nameB x = true ∧ x.length ≤ 8
def BadI (pre : List Str) (x : Option Str) : Prop := pre.length = 6 ∨ itB x = false ∨ ∃ s, x = some s ∧ s ∈ pre
def raiseI (c6 : Addr) (y : V) (H : Hp) (E : XK) : Prop := ∀ d H', Same H H' → H' d = some (.xd [("index", y)]) → E (.ref c6) (some d) H'
def spCMb (K : PySem.W.Frag) (c6 : Addr) : Sp := fun vs H _ E => (∃ (v : V) (t : Value), vs = [v] ∧ TyX K H v t ∧ PySem.W.kitOne K t (.type "tuple") = some false ∧ raiseI c6 .non H E) ∨
  (∃ (a : Addr), vs = [.ref a] ∧ Tu H a [] ∧ raiseI c6 .non H E) ∨
  ∃ (a : Addr) (pre : List Str) (v : V) (x : Option Str) (rest : List V), vs = [.ref a] ∧ Tu H a (pre.map V.str ++ v :: rest) ∧ PreOk pre ∧ (∀ H', Same H H' → ItemV K H' v x) ∧ BadI pre x ∧ raiseI c6 (.int (pre.length : Nat)) H E
def spCMe (K : PySem.W.Frag) (c6 : Addr) : Sp := fun vs H Q E => spCMi vs H Q E ∨ spCMb K c6 vs H Q E
theorem inV_mem {x : Str} {l : List Str} (h : x ∈ l) : inV (.str x) (l.map V.str) = true := by
  unfold inV
  rw [List.any_map]
  exact List.any_eq_true.mpr ⟨x, h, by show (x == x) = true; exact beq_self_eq_true x⟩
section
variable {P : Program} {w : World} {K : PySem.W.Frag} {mg : Str → Option Value} {base : Heap}
theorem ok_nmN {f : Addr} {fd : FuncData} (F : Fun K "is_name" "is_name" sName f fd) (T : Bt mg) : FnOk P w K mg base CX0 1 f fd pName (spNmN K) := by
  refine F.ok scName (fun vs H Q E h => ?_) (fun cdv A outer s H vs Q E hr h => ?_)
  · obtain ⟨v, t, rfl, _⟩ := h
    rfl
  · obtain ⟨v, t, rfl, h1, h2, k⟩ := h
    refine ⟨_, (pss_cons (ps_if (PW.pt (pw_or (pt_not (pt_val (pe_callB (isiQ K) (by rfl) T.isinstance (by decide +kernel) (pa_cons (pv 0) (pa_cons (pe_bltn (v := .ty "str") (u := .type "str") (by rfl) T.str (by decide +kernel) rfl) pa_nil))))) (pw_or1 (pt_not (pt_chain op_le op_le pe_int (pe_callB call_len_str (by rfl) T.len (by decide +kernel) (pa_cons (pv 0) pa_nil)) (pe_globE T.g_LONGEST_NAME))))))
        (pss_one (ps_ret pe_bl)) pss_nil)
      (pss_one (ps_ret (pe_and (pe_cmpR op_in_sign (pe_ix ix_str (pv 0) pe_int (fun _ _ => rfl)) (pe_globE T.g_LETTERS) (by rfl)) (pe_one (pe_callB (allL K) (by rfl) T.all (by decide +kernel) (pa_cons (pe_lc (own := [("sign", 1)]) (g := gName 1) (tt := tYes) rfl scName.nd (pi_str (pv 0)) (blkOk_by (own := [("sign", 1)]) (N := nName) (sc := defScope sName) (by decide +kernel)) (fun _ _ _ _ _ => (pg_name (i := 1) scName.nd rfl (Or.inl rfl))) (fun _ _ _ _ _ => pts_nil)
          (fun _ _ _ _ _ => (pe_cmpR op_in_sign (pv 1) (pe_globE T.g_LETTERS_AND_DIGITS) (by rfl)))) pa_nil))))))), ?_⟩
    exact ⟨_, rfl, _, _, _, _, false, rfl, .ty _, h1, h2, _, rfl, iteT k⟩
theorem ok_nmI {f : Addr} {fd : FuncData} (F : Fun K "is_name" "is_name" sName f fd) (T : Bt mg) : FnOk P w K mg base CX0 1 f fd pName (spNmI K) := FnOk.or (ok_name F T) (ok_nmN F T)
theorem ok_cmb {f c6 : Addr} {fd : FuncData} (F : Fun K "check_minds" "check_minds" sCMi f fd) (T : Bt mg) (DN : DefX P w K mg base 1 "is_name" pName (spNmI K)) (X6 : XN P w K mg base "InvalidMinds" c6 "index") : FnOk P w K mg base (L2N.CX P w) 3 f fd pCMi (spCMb K c6) := by
  refine Fun.okN F scCMi (fun vs H Q E h => ?_) (fun cdv A outer s H vs Q E hr h => ?_)
  · rcases h with ⟨v, t, rfl, _⟩ | ⟨a, rfl, _⟩ | ⟨a, pre, v, x, rest, rfl, _⟩ <;> rfl
  · refine ⟨_, (pss_cons (ps_if (PW.pt (pw_or (pt_not (pt_val (pe_callB (isiQ K) (by rfl) T.isinstance (by decide +kernel) (pa_cons (pv 0) (pa_cons (pe_bltn (v := .ty "tuple") (u := .type "tuple") (by rfl) T.tuple (by decide +kernel) rfl) pa_nil))))) (pw_or1 (pt_cmpR op_eq (pe_callB (lenQ K) (by rfl) T.len (by decide +kernel) (pa_cons (pv 0) pa_nil)) pe_int (nomark _)))))
        (pss_one (ps_raiseN takesN X6 hr (by decide) pe_non)) pss_nil)
      (pss_one (ps_for PassesOwn.leaving rfl (pi_enumT K (by rfl) T.enumerate (pa_cons (pv 0) pa_nil)) (pg_tup (by rfl) (pgs_cons (pg_name (i := 1) scCMi.nd rfl (Or.inl rfl)) (pgs_cons (pg_name (i := 2) scCMi.nd rfl (Or.inl rfl)) pgs_nil)))
        (pss_one (ps_if (PW.pt (pw_or (pt_not (pt_val (pe_fn DN hr (by decide) (pa_cons (pv 2) pa_nil)))) (pw_or (pt_cmpR (inQ K) (pv 2) (pe_slice (slA K) (pv 0) po_none (po_some (pv 1))) (by rfl)) (pw_or1 (pt_cmpR op_eq (pv 1) (pe_globE T.g_MOST_MINDS) (nomark _))))))
        (pss_one (ps_raiseN takesN X6 hr (by decide) (pv 1))) pss_nil))))), ?_⟩
    rcases h with ⟨v, t, rfl, h1, h2, k⟩ | ⟨a, rfl, ha, k⟩ | ⟨a, pre, v, x, rest, rfl, ha, ok, it, bad, k⟩
    · exact ⟨_, rfl, _, _, _, _, false, rfl, .ty _, h1, h2, _, rfl, iteT k⟩
    · exact ⟨_, rfl, _, _, _, _, true, rfl, .ty _, ha.tyx, kit_ty (by decide +kernel), _, rfl, iteF ⟨_, rfl, a, _, rfl, .inr (ha.sq), rfl, _, rfl, iteT k⟩⟩
    · refine ⟨_, rfl, _, _, _, _, true, rfl, .ty _, ha.tyx, kit_ty (by decide +kernel), _, rfl, iteF ?_⟩
      refine ⟨_, rfl, a, _, rfl, .inr (ha.sq), rfl, _, rfl, ite2 (fun z => ?_) (fun _ => ?_)⟩
      · exfalso
        have z' := of_decide_eq_true z
        injection z' with z'
        rw [List.length_append, List.length_cons] at z'
        omega
      refine ⟨_, rfl, a, _, rfl, ha.sq, ?_⟩
      refine for_it (walk_enumT (K := K) (a := a) (xs := pre.map V.str ++ v :: rest)) (fun i σ H1 => ∃ p q : Option V, σ = [some (.ref a), p, q] ∧ Same H H1 ∧ i ≤ pre.length) ⟨none, none, rfl, Same.refl H, Nat.zero_le _⟩ (fun i σ H1 _ ⟨_, _, _, s1, _⟩ => (ha.same s1).sq) ?_ ?_
      · rintro i y σ H1 _ hi ⟨p, q, rfl, s1, hle⟩ ⟨T', x', rfl, hT, rfl, hx⟩
        refine ⟨T', _, rfl, SqT.of upd_same, rfl, _, _, rfl, _, _, rfl, rfl, ?_⟩
        have s2 := s1.trans (same_upd (o := HO.tup [V.int (i : Nat), x']) hT)
        have m6 := ok.m6
        have hcut : cutV (pre.map V.str ++ v :: rest) none (some (i : Int)) = (pre.take i).map V.str := by
          rw [cutN (by rw [List.length_append, List.length_map]; omega), List.take_append_of_le_length (by rw [List.length_map]; exact hle), List.map_take]
        by_cases hlt : i < pre.length
        · rw [List.getElem?_append_left (by rw [List.length_map]; exact hlt), List.getElem?_map, List.getElem?_eq_getElem hlt] at hx
          cases hx
          have hm := ok.nm _ (List.getElem_mem hlt)
          refine ⟨_, rfl, spNmI_of (x := some pre[i]) ⟨rfl, Nat.le_trans hm.2 (by decide), name_ok hm.1⟩ fun H2 s3 => ⟨_, rfl, ?_⟩⟩
          rw [show itB (some pre[i]) = true from hm.1]
          refine iteF ?_
          have s4 := s2.trans s3
          refine ⟨_, rfl, _, rfl, _, rfl, _, rfl, a, _, rfl, (ha.same s4).sq, fun hw => ?_, fun hw p np => ?_⟩
          · exfalso
            have q := hw.2
            rw [HT.sIx_nat, List.length_append, List.length_map, List.length_cons] at q
            omega
          rw [hcut]
          refine ⟨p, _, rfl, .inr (SqT.of upd_same), rfl, by rw [List.all_map]; exact List.all_eq_true.mpr fun _ _ => rfl, _, rfl, ?_⟩
          rw [inV_strs (fun z => ?_)]
          · refine iteF ⟨_, rfl, rfl, _, rfl, ite2 (fun z => ?_) (fun _ => ?_)⟩
            · exfalso
              have z' := of_decide_eq_true z
              injection z' with z'
              omega
            · exact ⟨_, _, rfl, s4.trans (same_upd np), hlt⟩
          · exact nodup_take ok.nd hlt z
        · have e : i = pre.length := by omega
          subst e
          rw [List.getElem?_append_right (by rw [List.length_map]; omega), List.length_map, Nat.sub_self] at hx
          cases hx
          refine ⟨_, rfl, spNmI_of (it _ s2) fun H2 s3 => ⟨_, rfl, ?_⟩⟩
          have s4 := s2.trans s3
          cases hb : itB x with
          | false => exact iteT ⟨_, rfl, fun d H' s' hd => k d H' (s4.trans s') hd⟩
          | true =>
            refine iteF ?_
            cases x with
            | none => cases hb
            | some z =>
              obtain ⟨rfl, hz, _⟩ := it _ s4
              refine ⟨_, rfl, _, rfl, _, rfl, _, rfl, a, _, rfl, (ha.same s4).sq, fun hw => ?_, fun hw p np => ?_⟩
              · exfalso
                have q := hw.2
                rw [HT.sIx_nat, List.length_append, List.length_map, List.length_cons] at q
                omega
              rw [hcut, List.take_length]
              refine ⟨p, _, rfl, .inr (SqT.of upd_same), rfl, by rw [List.all_map]; exact List.all_eq_true.mpr fun _ _ => rfl, _, rfl, ?_⟩
              have s5 := s4.trans (same_upd (o := HO.tup (pre.map V.str)) np)
              by_cases hin : z ∈ pre
              · rw [inV_mem hin]
                exact iteT ⟨_, rfl, fun d H' s' hd => k d H' (s5.trans s') hd⟩
              · rw [inV_strs hin]
                refine iteF ⟨_, rfl, rfl, _, rfl, ite2 (fun q => ⟨_, rfl, fun d H' s' hd => k d H' (s5.trans s') hd⟩) (fun q => ?_)⟩
                exfalso
                rcases bad with h | h | ⟨s', h1, h2⟩
                · refine q (decide_eq_true ?_)
                  rw [h]
                  rfl
                · rw [hb] at h
                  cases h
                · cases h1
                  exact hin h2
      · rintro σ H1 ⟨p, q, rfl, s1, hle⟩
        exfalso
        rw [List.length_append, List.length_cons, List.length_map] at hle
        omega
/-- Council's __init__ where the minds are wrong -/
def spCIb (K : PySem.W.Frag) (C c6 : Addr) : Sp := fun vs H Q E => ∃ (x dx : Addr) (m wv : V), vs = [.ref x, m, wv] ∧ spCMb K c6 [m] H Q E
def spCIe (K : PySem.W.Frag) (C c6 : Addr) : Sp := fun vs H Q E => spCIn C vs H Q E ∨ spCIb K C c6 vs H Q E
theorem ok_cib {f C c6 : Addr} {fd : FuncData} (F : Fun K "__init__" "Council.__init__" sCIn f fd) (T : Bt mg) (DE : DefE P w K mg base 3 "check_minds" pCMi (spCMb K c6)) (DW : DefX P w K mg base 9 "check_ways" pCWa spCWa) : FnOk P w K mg base (L2N.CX P w) 11 f fd pCIn (spCIb K C c6) := by
  refine Fun.okN F scCIn (fun vs H Q E h => ?_) (fun cdv A outer s H vs Q E hr h => ?_)
  · obtain ⟨x, dx, m, wv, rfl, _⟩ := h
    rfl
  · obtain ⟨x, dx, m, wv, rfl, h⟩ := h
    refine ⟨_, (pss_cons (ps_expr (pe_fnE takesN DE hr (by decide) (pa_cons (pv 1) pa_nil)))
      (pss_cons (ps_expr (pe_fn DW hr (by decide) (pa_cons (pv 2) (pa_cons (pe_callB (lenQ K) (by rfl) T.len (by decide +kernel) (pa_cons (pv 1) pa_nil)) pa_nil))))
      (pss_cons (ps_fld (pv 0) (pv 1) rfl)
      (pss_one (ps_fld (pv 0) (pv 2) rfl))))), ?_⟩
    refine ⟨_, rfl, ?_⟩
    rcases h with ⟨v, t, e, h⟩ | ⟨a, e, h⟩ | ⟨a, pre, v, x', rest, e, h⟩
    · exact .inl ⟨v, t, e, h⟩
    · exact .inr (.inl ⟨a, e, h⟩)
    · exact .inr (.inr ⟨a, pre, v, x', rest, e, h⟩)
end
end M
namespace U
open PySem L2
structure MkE (P : Program) (w : World) (K : PySem.W.Frag) (mg : Str → Option Value) (base : Heap) (x : Str) (C : Addr) (k : Nat) (ps : List Str) (sp : Sp) (ks : List Str) (gL : List Value → List Value → List Value) (gV : List V → List V → List V) : Prop where
  ex : ∃ (f : Addr) (fd : FuncData), Mk K C f ∧ FnOk P w K mg base (L2N.CX P w) k f fd ps sp ∧ Binds K fd ps [] ∧ KBn K fd ps 1 ks gL gV
  gC : mg x = some (.ref C)
section
variable {X : Cx} {C : Addr} {k j : Nat} {sp : Sp} {m x : Str} {ps ks : List Str} {gL : List Value → List Value → List Value} {gV : List V → List V → List V} {e o : Expr} {es : List Expr} {kws : List Keyword} {p pos apos : Pos} {t : TA} {ta : TE} {tk : TA} {E : XK}
theorem pe_mkE (tk : L2N.Takes X (fun cls d _ H => E cls d H)) (M : MkE X.prog X.w X.K X.mg X.base x C k ps sp ks gL gV) (hr : Room j X.A) (hk : k + 1 ≤ j) (ha : PA X (e :: es) t) (hg : Gl X x := by rfl) (hdb : (x == ("__debug__" : Str)) = false := by decide)
    (he : starEach (e :: es) X.env = (false, eval e X.env) :: starEach es X.env := by rfl) (hpl : (backTo pos (starEach es X.env)).any (·.1) = false := by rfl) : PE X (.Call (.Name x p) (e :: es) [] pos) (tMake C sp [] E t) := by
  obtain ⟨⟨f, fd, m, F, hb, _⟩, gC⟩ := M
  exact pe_make m F (hr.mono hk) hg gC hb .nil (passN tk) ha hdb he hpl
theorem pe_mkKE (tE : L2N.Takes X (fun cls d _ H => E cls d H)) (M : MkE X.prog X.w X.K X.mg X.base x C k ps sp ks gL gV) (hr : Room j X.A) (hk : k + 1 ≤ j) (hkw : PK X kws tk) (hg : Gl X x := by rfl)
    (hall : (backToKw pos (keywordEach kws X.env)).all (·.1.isSome) = true := by rfl) (hks : (backToKw pos (keywordEach kws X.env)).filterMap (·.1) = ks := by rfl) (hdb : (x == ("__debug__" : Str)) = false := by decide)
    (hpl : ((backTo pos (starEach [] X.env)).any (·.1) || (backToKw pos (keywordEach kws X.env)).any (·.1.isNone)) = false := by rfl) : PE X (.Call (.Name x p) [] kws pos) (tMakeK C 0 ks.length sp gV E tNil tk) := by
  obtain ⟨⟨f, fd, m, F, _, hb⟩, gC⟩ := M
  exact pe_makeK0 m F (hr.mono hk) hg gC hb (passN tE) hkw hall hks hdb hpl
end
/-- what a lambda's context lets out -/
theorem takesL {X : Cx} {A : Around} {outer : List Env} {s : Shared} {H : Hp} {E : XK} {L : LamD} {f c' : Addr} : L2N.Takes (lamCxN X A outer s H E L f c') (fun cls d _ H => E cls d H) := L2N.takes_of rfl rfl rfl rfl
end U

namespace M
open PySem L2 U
/-! ### weights, rows, ways of any kind -/
def spWgtI : Sp := fun vs H Q _ => ∃ (v : V) (t : Tr), vs = [v] ∧ Rep H v t ∧ ∀ H', Same H H' → Q (.bl (wgTr t)) H'
def spRowI : Sp := fun vs H Q _ => ∃ (v : V) (t : Tr) (n : Nat), vs = [v, .int n] ∧ Rep H v t ∧ (∀ ts, t = .tup ts → ts.length ≤ 100) ∧ ∀ H', Same H H' → Q (.bl (rowTr n t)) H'
section
variable {P : Program} {w : World} {K : PySem.W.Frag} {mg : Str → Option Value} {base : Heap}
theorem ok_wgtI {f : Addr} {fd : FuncData} (F : Fun K "is_weight" "is_weight" sWgt f fd) (T : Bt mg) (DI : DInt P w K mg base) : FnOk P w K mg base CX0 3 f fd pWgt spWgtI := by
  refine F.ok scWgt (fun vs H Q E h => ?_) (fun cdv A outer s H vs Q E hr h => ?_)
  · obtain ⟨v, t, rfl, _⟩ := h
    rfl
  · obtain ⟨v, t, rfl, r, k⟩ := h
    refine ⟨_, (pss_one (ps_ret (pe_and (pe_fn DI hr (by decide) (pa_cons (pv 0) pa_nil)) (pe_one (pe_chain op_le op_le pe_int (pv 0) (pe_globE T.g_MOST_WEIGHT)))))), ?_⟩
    obtain ⟨b1, b2, k1, k2, e⟩ := kitInt K t
    have k0 := k H (Same.refl H)
    refine ⟨_, rfl, v, _, b1, b2, rfl, r.tyx, k1, k2, _, rfl, ?_⟩
    rw [e]
    cases t with
    | int i =>
      cases r
      refine iteT ⟨_, rfl, _, _, rfl, rfl, _, rfl, ite2 (fun h => ⟨_, _, rfl, rfl, ?_⟩) (fun h => ?_)⟩
      · have q : Q (.bl (decide (0 ≤ i) && decide (i ≤ 1000000000))) H := k0
        rw [h, Bool.true_and] at q
        exact q
      · have q : Q (.bl (decide (0 ≤ i) && decide (i ≤ 1000000000))) H := k0
        rw [Bool.eq_false_iff.mpr h, Bool.false_and] at q
        exact q
    | bl b => exact iteF k0
    | non => exact iteF k0
    | str x => exact iteF k0
    | tup l => exact iteF k0
    | lst l => exact iteF k0
    | dic => exact iteF k0
theorem ok_rowI {f : Addr} {fd : FuncData} (F : Fun K "is_row" "is_row" sRoww f fd) (T : Bt mg) (DW : DefX P w K mg base 3 "is_weight" pWgt spWgtI) : FnOk P w K mg base CX0 5 f fd pRoww spRowI := by
  refine F.ok scRoww (fun vs H Q E h => ?_) (fun cdv A outer s H vs Q E hr h => ?_)
  · obtain ⟨v, t, n, rfl, _⟩ := h
    rfl
  · obtain ⟨v, t, n, rfl, r, hl, k⟩ := h
    refine ⟨_, (pss_cons (ps_if (PW.pt (pw_or (pt_not (pt_val (pe_callB (isiQ K) (by rfl) T.isinstance (by decide +kernel) (pa_cons (pv 0) (pa_cons (pe_bltn (v := .ty "tuple") (u := .type "tuple") (by rfl) T.tuple (by decide +kernel) rfl) pa_nil))))) (pw_or1 (pt_cmpR op_ne (pe_callB (lenQ K) (by rfl) T.len (by decide +kernel) (pa_cons (pv 0) pa_nil)) (pv 1) (nomark _)))))
        (pss_one (ps_ret pe_bl)) pss_nil)
      (pss_one (ps_ret (pe_and (pe_callB (allL K) (by rfl) T.all (by decide +kernel) (pa_cons (pe_lc (own := [("weight", 2)]) (g := gName 2) (tt := tYes) rfl scRoww.nd (piT K (pv 0)) (blkOk_by (own := [("weight", 2)]) (N := nRoww) (sc := defScope sRoww) (by decide +kernel)) (fun _ _ _ _ _ => (pg_name (i := 2) scRoww.nd rfl (Or.inl rfl))) (fun _ _ _ _ _ => pts_nil)
          (fun _ _ _ _ _ => (pe_fn DW hr (by decide) (pa_cons (pv 2) pa_nil)))) pa_nil)) (pe_one (pe_cmpR op_gt (pe_callB (sumT K) (by rfl) T.sum (by decide +kernel) (pa_cons (pv 0) pa_nil)) pe_int (nomark _))))))), ?_⟩
    have k0 := k H (Same.refl H)
    have hk := kitTup K t
    refine ⟨_, rfl, _, _, _, _, isTup t, rfl, .ty _, r.tyx, hk, _, rfl, ?_⟩
    cases t with
    | tup ts =>
      have hl := hl ts rfl
      refine iteF ?_
      cases r with
      | @tup a vs _ ha rs =>
        have ln := rs.length
        refine ⟨_, rfl, a, _, rfl, .inr ha.sq, _, rfl, rfl, _, rfl, ?_⟩
        by_cases hn : ts.length = n
        · have e : rowTr n (.tup ts) = (ts.all wgTr && decide (0 < (ts.map inTr).sum)) := by
            show (decide ((ts.length : Int) = (n : Int)) && (ts.all wgTr && decide (0 < (ts.map inTr).sum))) = _
            rw [decide_eq_true (by omega), Bool.true_and]
          rw [e] at k
          refine ite2 (fun z => ?_) (fun _ => ?_)
          · exfalso
            rw [ln, hn] at z
            simp at z
          refine ⟨_, rfl, a, rfl, ⟨_, ha.sq⟩, fun D hD => ?_⟩
          refine lc_it (walk_tup (K := K) (a := a) (xs := vs)) (PvS H D ((ts.map wgTr).map V.bl)) (pvs0 hD) (fun i H1 _ h => (ha.same h.1).sq) ?_ (fun H1 h => ?_)
          · rintro i x _ H1 hi h ⟨rfl, hx⟩
            obtain ⟨t, ht, rx⟩ := rs.get hx
            refine ⟨rfl, turnY ?_⟩
            refine ⟨_, rfl, x, t, rfl, rx.same h.1, fun H2 s2 => ?_⟩
            exact pvs1 hD h s2 (by rw [List.length_map, List.length_map]; omega) (by rw [List.getElem?_map, List.getElem?_map, ht]; rfl)
          obtain ⟨s1, hl1⟩ := pvsE h (by rw [List.length_map, List.length_map, ln])
          refine ⟨D, _, rfl, SqL.of hl1, _, rfl, ?_⟩
          have ea : (ts.map wgTr).all id = ts.all wgTr := by rw [List.all_map]; rfl
          rw [ea]
          have k' := k H1 s1
          cases hb : ts.all wgTr with
          | false =>
            rw [hb, Bool.false_and] at k'
            exact iteF k'
          | true =>
            rw [hb, Bool.true_and] at k'
            have ev := rep_ints rs hb
            exact iteT ⟨_, rfl, a, ts.map inTr, rfl, by rw [← ev]; exact (ha.same s1).sq, _, _, rfl, rfl, k'⟩
        · have e : rowTr n (.tup ts) = false := by
            show (decide ((ts.length : Int) = (n : Int)) && (ts.all wgTr && decide (0 < (ts.map inTr).sum))) = _
            rw [decide_eq_false (by omega), Bool.false_and]
          rw [e] at k0
          refine ite2 (fun _ => k0) (fun z => ?_)
          exfalso
          refine z ?_
          have e : ¬ (V.int (vs.length : Int) = V.int n) := fun q => hn (by injection q; omega)
          rw [decide_eq_false e]; rfl
    | int i => exact iteT k0
    | bl b => exact iteT k0
    | non => exact iteT k0
    | str x => exact iteT k0
    | lst l => exact iteT k0
    | dic => exact iteT k0
def spWayI : Sp := fun vs H Q _ => ∃ (v : V) (t : Tr) (n : Nat), vs = [v, .int n] ∧ Rep H v t ∧ n ≤ 100 ∧ (∀ ts, t = .tup ts → ts.length ≤ 100 ∧ ∀ u ∈ ts, ∀ us, u = .tup us → us.length ≤ 100) ∧ ∀ H', Same H H' → Q (.bl (wayTr n t)) H'
theorem ok_wayI {f : Addr} {fd : FuncData} (F : Fun K "is_way" "is_way" sWay f fd) (T : Bt mg) (DR : DefX P w K mg base 5 "is_row" pRoww spRowI) : FnOk P w K mg base CX0 7 f fd pWay spWayI := by
  refine F.ok scWay (fun vs H Q E h => ?_) (fun cdv A outer s H vs Q E hr h => ?_)
  · obtain ⟨v, t, n, rfl, _⟩ := h
    rfl
  · obtain ⟨v, t, n, rfl, r, hn100, hl, k⟩ := h
    refine ⟨_, (pss_cons (ps_if (PW.pt (pw_or (pt_not (pt_val (pe_callB (isiQ K) (by rfl) T.isinstance (by decide +kernel) (pa_cons (pv 0) (pa_cons (pe_bltn (v := .ty "tuple") (u := .type "tuple") (by rfl) T.tuple (by decide +kernel) rfl) pa_nil))))) (pw_or1 (pt_cmpR op_ne (pe_callB (lenQ K) (by rfl) T.len (by decide +kernel) (pa_cons (pv 0) pa_nil)) (pv 1) (nomark _)))))
        (pss_one (ps_ret pe_bl)) pss_nil)
      (pss_one (ps_ret (pe_callB (allL K) (by rfl) T.all (by decide +kernel) (pa_cons (pe_lc (own := [("row", 2)]) (g := gName 2) (tt := tYes) rfl scWay.nd (piT K (pv 0)) (blkOk_by (own := [("row", 2)]) (N := nWay) (sc := defScope sWay) (by decide +kernel)) (fun _ _ _ _ _ => (pg_name (i := 2) scWay.nd rfl (Or.inl rfl))) (fun _ _ _ _ _ => pts_nil)
          (fun _ _ _ _ _ => (pe_fn DR hr (by decide) (pa_cons (pv 2) (pa_cons (pv 1) pa_nil))))) pa_nil))))), ?_⟩
    have k0 := k H (Same.refl H)
    have hk := kitTup K t
    refine ⟨_, rfl, _, _, _, _, isTup t, rfl, .ty _, r.tyx, hk, _, rfl, ?_⟩
    cases t with
    | tup ts =>
      have hl := hl ts rfl
      refine iteF ?_
      cases r with
      | @tup a vs _ ha rs =>
        have ln := rs.length
        refine ⟨_, rfl, a, _, rfl, .inr ha.sq, _, rfl, rfl, _, rfl, ?_⟩
        by_cases hn : ts.length = n
        · have e : wayTr n (.tup ts) = ts.all (rowTr n) := by
            show (decide ((ts.length : Int) = (n : Int)) && ts.all (rowTr n)) = _
            rw [decide_eq_true (by omega), Bool.true_and]
          rw [e] at k
          refine ite2 (fun z => ?_) (fun _ => ?_)
          · exfalso
            rw [ln, hn] at z
            simp at z
          refine ⟨_, rfl, a, rfl, ⟨_, ha.sq⟩, fun D hD => ?_⟩
          refine lc_it (walk_tup (K := K) (a := a) (xs := vs)) (PvS H D ((ts.map (rowTr n)).map V.bl)) (pvs0 hD) (fun i H1 _ h => (ha.same h.1).sq) ?_ (fun H1 h => ?_)
          · rintro i x _ H1 hi h ⟨rfl, hx⟩
            obtain ⟨t, ht, rx⟩ := rs.get hx
            refine ⟨rfl, turnY ?_⟩
            refine ⟨_, rfl, _, rfl, x, t, n, rfl, rx.same h.1, hl.2 t (List.mem_of_getElem? ht), fun H2 s2 => ?_⟩
            exact pvs1 hD h s2 (by rw [List.length_map, List.length_map]; omega) (by rw [List.getElem?_map, List.getElem?_map, ht]; rfl)
          obtain ⟨s1, hl1⟩ := pvsE h (by rw [List.length_map, List.length_map, ln])
          refine ⟨D, _, rfl, SqL.of hl1, ?_⟩
          have ea : (ts.map (rowTr n)).all id = ts.all (rowTr n) := by rw [List.all_map]; rfl
          rw [ea]
          exact k H1 s1
        · have e : wayTr n (.tup ts) = false := by
            show (decide ((ts.length : Int) = (n : Int)) && ts.all (rowTr n)) = _
            rw [decide_eq_false (by omega), Bool.false_and]
          rw [e] at k0
          refine ite2 (fun _ => k0) (fun z => ?_)
          exfalso
          refine z ?_
          have e : ¬ (V.int (vs.length : Int) = V.int n) := fun q => hn (by injection q; omega)
          rw [decide_eq_false e]; rfl
    | int i => exact iteT k0
    | bl b => exact iteT k0
    | non => exact iteT k0
    | str x => exact iteT k0
    | lst l => exact iteT k0
    | dic => exact iteT k0
/-- the first way that is none for so many minds, or the seventh -/
def badAt (n : Nat) (ts : List Tr) (i : Nat) : Prop := i ≤ 6 ∧ i < ts.length ∧ (∀ j, j < i → ∃ t, ts[j]? = some t ∧ wayTr n t = true) ∧ (i = 6 ∨ ∃ t, ts[i]? = some t ∧ wayTr n t = false)
def trSmall (t : Tr) : Prop := ∀ ts, t = .tup ts → ts.length ≤ 100 ∧ ∀ u ∈ ts, ∀ us, u = .tup us → us.length ≤ 100
def raiseW (c7 : Addr) (y : V) (H : Hp) (E : XK) : Prop := ∀ d H', Same H H' → H' d = some (.xd [("index", y)]) → E (.ref c7) (some d) H'
def spCWb (c7 : Addr) : Sp := fun vs H Q E => ∃ (v : V) (t : Tr) (n : Nat), vs = [v, .int n] ∧ Rep H v t ∧ n ≤ 100 ∧
  ((isTup t = false ∧ raiseW c7 .non H E) ∨ (t = .tup [] ∧ raiseW c7 .non H E) ∨ ∃ ts i, t = .tup ts ∧ badAt n ts i ∧ (∀ u ∈ ts, trSmall u) ∧ raiseW c7 (.int (i : Nat)) H E)
theorem ok_cwb {f c7 : Addr} {fd : FuncData} (F : Fun K "check_ways" "check_ways" sCWa f fd) (T : Bt mg) (DY : DefX P w K mg base 7 "is_way" pWay spWayI) (X7 : XN P w K mg base "InvalidWays" c7 "index") : FnOk P w K mg base (L2N.CX P w) 9 f fd pCWa (spCWb c7) := by
  refine Fun.okN F scCWa (fun vs H Q E h => ?_) (fun cdv A outer s H vs Q E hr h => ?_)
  · obtain ⟨v, t, n, rfl, _⟩ := h
    rfl
  · refine ⟨_, (pss_cons (ps_if (PW.pt (pw_or (pt_not (pt_val (pe_callB (isiQ K) (by rfl) T.isinstance (by decide +kernel) (pa_cons (pv 0) (pa_cons (pe_bltn (v := .ty "tuple") (u := .type "tuple") (by rfl) T.tuple (by decide +kernel) rfl) pa_nil))))) (pw_or1 (pt_cmpR op_eq (pe_callB (lenQ K) (by rfl) T.len (by decide +kernel) (pa_cons (pv 0) pa_nil)) pe_int (nomark _)))))
        (pss_one (ps_raiseN takesN X7 hr (by decide) pe_non)) pss_nil)
      (pss_one (ps_for PassesOwn.leaving rfl (pi_enumT K (by rfl) T.enumerate (pa_cons (pv 0) pa_nil)) (pg_tup (by rfl) (pgs_cons (pg_name (i := 2) scCWa.nd rfl (Or.inl rfl)) (pgs_cons (pg_name (i := 3) scCWa.nd rfl (Or.inl rfl)) pgs_nil)))
        (pss_one (ps_if (PW.pt (pw_or (pt_not (pt_val (pe_fn DY hr (by decide) (pa_cons (pv 3) (pa_cons (pv 1) pa_nil))))) (pw_or1 (pt_cmpR op_eq (pv 2) (pe_globE T.g_MOST_WAYS) (nomark _)))))
        (pss_one (ps_raiseN takesN X7 hr (by decide) (pv 2))) pss_nil))))), ?_⟩
    obtain ⟨v, t, n, rfl, r, hn, h⟩ := h
    refine ⟨_, rfl, _, _, _, _, isTup t, rfl, .ty _, r.tyx, kitTup K t, _, rfl, ?_⟩
    rcases h with ⟨e, k⟩ | ⟨rfl, k⟩ | ⟨ts, i0, rfl, ⟨b1, b2, b3, b4⟩, sm, k⟩
    · rw [e]
      exact iteT k
    · cases r with
      | @tup a vs _ ha rs =>
        cases rs
        exact iteF ⟨_, rfl, a, _, rfl, .inr ha.sq, rfl, _, rfl, iteT k⟩
    · cases r with
      | @tup a vs _ ha rs =>
        have ln := rs.length
        refine iteF ⟨_, rfl, a, _, rfl, .inr ha.sq, rfl, _, rfl, ite2 (fun z => ?_) (fun _ => ?_)⟩
        · exfalso
          have z' := of_decide_eq_true z
          injection z' with z'
          omega
        refine ⟨_, rfl, a, _, rfl, ha.sq, ?_⟩
        refine for_it (walk_enumT (K := K) (a := a) (xs := vs)) (fun i σ H1 => ∃ p q : Option V, σ = [some (.ref a), some (.int n), p, q] ∧ Same H H1 ∧ i ≤ i0) ⟨none, none, rfl, Same.refl H, Nat.zero_le _⟩ (fun i σ H1 _ ⟨_, _, _, s1, _⟩ => (ha.same s1).sq) ?_ ?_
        · rintro i y σ H1 _ hi ⟨p, q, rfl, s1, hle⟩ ⟨T', x, rfl, hT, rfl, hx⟩
          obtain ⟨t, ht, rx⟩ := rs.get hx
          refine ⟨T', _, rfl, SqT.of upd_same, rfl, _, _, rfl, _, _, rfl, rfl, ?_⟩
          have s2 := s1.trans (same_upd (o := HO.tup [V.int (i : Nat), x]) hT)
          refine ⟨_, rfl, _, rfl, x, t, n, rfl, rx.same s2, hn, sm t (List.mem_of_getElem? ht), fun H2 s3 => ⟨_, rfl, ?_⟩⟩
          have s4 := s2.trans s3
          by_cases e : i = i0
          · subst e
            cases hb : wayTr n t with
            | false => exact iteT ⟨_, rfl, fun d H' s' hd => k d H' (s4.trans s') hd⟩
            | true =>
              refine iteF ⟨_, rfl, rfl, _, rfl, ite2 (fun q => ⟨_, rfl, fun d H' s' hd => k d H' (s4.trans s') hd⟩) (fun q => ?_)⟩
              exfalso
              rcases b4 with h6 | ⟨t', h1, h2⟩
              · refine q (decide_eq_true ?_)
                rw [h6]
                rfl
              · rw [ht] at h1
                cases h1
                rw [hb] at h2
                cases h2
          · obtain ⟨t', h1, h2⟩ := b3 i (by omega)
            rw [ht] at h1
            cases h1
            rw [h2]
            refine iteF ⟨_, rfl, rfl, _, rfl, ite2 (fun z => ?_) (fun _ => ⟨_, _, rfl, s4, by omega⟩)⟩
            exfalso
            have z' := of_decide_eq_true z
            injection z' with z'
            omega
        · rintro σ H1 ⟨p, q, rfl, s1, hle⟩
          exfalso
          omega
end
end M

namespace M
open PySem L2 U
/-! ### Council(minds, ways) where the ways are wrong; where they are right -/
/-- a tree that is a way is plain data -/
theorem row_im {n : Nat} {t : Tr} (h : rowTr n t = true) : ∃ r : List Int, RowOk n r ∧ ∀ {H : Hp} {v : V}, Rep H v t → Im H v (dRow r) := by
  cases t with
  | tup ts =>
    have h : (decide ((ts.length : Int) = (n : Int)) && (ts.all wgTr && decide (0 < (ts.map inTr).sum))) = true := h
    simp only [Bool.and_eq_true, decide_eq_true_eq] at h
    obtain ⟨h1, h2, h3⟩ := h
    refine ⟨ts.map inTr, ⟨by rw [List.length_map]; omega, fun x hx => ?_, h3⟩, fun {H v} r => ?_⟩
    · obtain ⟨t, ht, rfl⟩ := List.mem_map.mp hx
      have q := List.all_eq_true.mp h2 t ht
      cases t <;> first | (cases q; done) | skip
      rename_i i
      have q : (decide (0 ≤ i) && decide (i ≤ 1000000000)) = true := q
      simp only [Bool.and_eq_true, decide_eq_true_eq] at q
      exact q
    · cases r with
      | @tup a vs _ ha rs =>
        have e := rep_ints rs h2
        subst e
        exact .tup ha (imInts _)
  | _ => cases h
theorem rows_im {n : Nat} : ∀ {ts : List Tr}, ts.all (rowTr n) = true → ∃ w : List (List Int), w.length = ts.length ∧ (∀ r ∈ w, RowOk n r) ∧ ∀ {H : Hp} {vs : List V}, RepAll H vs ts → ImAll H vs (w.map dRow)
  | [], _ => ⟨[], rfl, (fun r hr => by cases hr), (fun {H vs} r => by cases r; exact .nil)⟩
  | t :: ts, h => by
    rw [List.all_cons, Bool.and_eq_true] at h
    obtain ⟨r, r1, r2⟩ := row_im h.1
    obtain ⟨w, w1, w2, w3⟩ := rows_im h.2
    refine ⟨r :: w, by rw [List.length_cons, List.length_cons, w1], fun x hx => ?_, fun {H vs} q => ?_⟩
    · rcases List.mem_cons.mp hx with rfl | hx
      · exact r1
      · exact w2 x hx
    · cases q with
      | cons h1 h2 => exact .cons (r2 h1) (w3 h2)
theorem way_im {n : Nat} {t : Tr} (h : wayTr n t = true) : ∃ w : List (List Int), WayOk n w ∧ ∀ {H : Hp} {v : V}, Rep H v t → Im H v (dWay w) := by
  cases t with
  | tup ts =>
    have h : (decide ((ts.length : Int) = (n : Int)) && ts.all (rowTr n)) = true := h
    simp only [Bool.and_eq_true, decide_eq_true_eq] at h
    obtain ⟨w, w1, w2, w3⟩ := rows_im h.2
    refine ⟨w, ⟨by rw [w1]; omega, w2⟩, fun {H v} r => ?_⟩
    cases r with
    | tup ha rs => exact .tup ha (w3 rs)
  | _ => cases h
theorem ways_im {n : Nat} : ∀ {ts : List Tr}, ts.all (wayTr n) = true → ∃ ws : List (List (List Int)), ws.length = ts.length ∧ (∀ w ∈ ws, WayOk n w) ∧ ∀ {H : Hp} {vs : List V}, RepAll H vs ts → ImAll H vs (ws.map dWay)
  | [], _ => ⟨[], rfl, (fun r hr => by cases hr), (fun {H vs} r => by cases r; exact .nil)⟩
  | t :: ts, h => by
    rw [List.all_cons, Bool.and_eq_true] at h
    obtain ⟨r, r1, r2⟩ := way_im h.1
    obtain ⟨w, w1, w2, w3⟩ := ways_im h.2
    refine ⟨r :: w, by rw [List.length_cons, List.length_cons, w1], fun x hx => ?_, fun {H vs} q => ?_⟩
    · rcases List.mem_cons.mp hx with rfl | hx
      · exact r1
      · exact w2 x hx
    · cases q with
      | cons h1 h2 => exact .cons (r2 h1) (w3 h2)
/-- the ways of a thing that is right -/
theorem thing_im {n : Nat} {ts : List Tr} (h : ts.all (wayTr n) = true) (h1 : 1 ≤ ts.length) (h6 : ts.length ≤ 6) (hn : n ≤ 6) : ∃ ws : List (List (List Int)), WaysOk n ws ∧ ∀ {H : Hp} {v : V}, Rep H v (.tup ts) → Im H v (dWays ws) := by
  obtain ⟨ws, w1, w2, w3⟩ := ways_im h
  refine ⟨ws, ⟨by omega, by omega, hn, w2⟩, fun {H v} r => ?_⟩
  cases r with
  | tup ha rs => exact .tup ha (w3 rs)
section
variable {P : Program} {w : World} {K : PySem.W.Frag} {mg : Str → Option Value} {base : Heap}
def spCIw (C c7 : Addr) : Sp := fun vs H Q E => ∃ (x dx : Addr) (m wv : V) (ms : List Str), vs = [.ref x, m, wv] ∧ Im H m (dMinds ms) ∧ MindsOk ms ∧ ∀ H', Same H H' → spCWb c7 [wv, .int (ms.length : Nat)] H' Q E
def spCI7 (C c7 : Addr) : Sp := fun vs H Q E => spCIn C vs H Q E ∨ spCIw C c7 vs H Q E
theorem ok_ciw {f C c7 : Addr} {fd : FuncData} (F : Fun K "__init__" "Council.__init__" sCIn f fd) (T : Bt mg) (DM : DefX P w K mg base 3 "check_minds" pCMi spCMi) (DE : DefE P w K mg base 9 "check_ways" pCWa (spCWb c7)) : FnOk P w K mg base (L2N.CX P w) 11 f fd pCIn (spCIw C c7) := by
  refine Fun.okN F scCIn (fun vs H Q E h => ?_) (fun cdv A outer s H vs Q E hr h => ?_)
  · obtain ⟨x, dx, m, wv, ms, rfl, _⟩ := h
    rfl
  · obtain ⟨x, dx, m, wv, ms, rfl, im, mo, h⟩ := h
    obtain ⟨a, xs, rfl, ha, hall⟩ := im.tuple
    have hys := hall.strs
    subst hys
    refine ⟨_, (pss_cons (ps_expr (pe_fn DM hr (by decide) (pa_cons (pv 1) pa_nil)))
      (pss_cons (ps_expr (pe_fnE takesN DE hr (by decide) (pa_cons (pv 2) (pa_cons (pe_callB (lenQ K) (by rfl) T.len (by decide +kernel) (pa_cons (pv 1) pa_nil)) pa_nil))))
      (pss_cons (ps_fld (pv 0) (pv 1) rfl)
      (pss_one (ps_fld (pv 0) (pv 2) rfl))))), ?_⟩
    refine ⟨_, rfl, _, ms, rfl, im, mo, fun H1 s1 => ?_⟩
    refine ⟨_, rfl, _, rfl, a, _, rfl, .inr ((ha.same s1).sq), ?_⟩
    rw [List.length_map]
    obtain ⟨v, t, n, e, r, hn, h⟩ := h H1 s1
    exact ⟨v, t, n, e, r, hn, h⟩
end
end M

namespace M
open PySem L2 U
def kwL (us ws : List Value) : List Value := us ++ ws.reverse
def kwV (us ws : List V) : List V := us ++ ws.reverse
theorem sh_minds {ms : List Str} (h : MindsOk ms) : Sh (dMinds ms) 54 1 := by
  refine (Sh.tup (ShA.map (c := 8) (n := 0) (f := PyData.str) (l := ms) fun x hx => Sh.str (fun c hc => ?_) (h.nm x hx).2)).mono ?_ (Nat.le_refl _)
  · exact (name_signs (h.nm x hx).1 c hc).2
  · have := h.m6
    omega
section
variable {c W : Nat → Addr} {S : Nat → Prop}
/-! ### the call that tells whether all the acts end so -/
def rIsE (X : Cx) (c : Nat → Addr) (S : Nat → Prop) (σ : L2.St) (vs : List V) (H : Hp) (Q : VK) : Prop := ∃ (l pd : Addr) (fs : List Addr) (x z : Str), vs = [.ref l, .ref pd] ∧ H l = some (.lst (fs.map V.ref)) ∧ fs.length ≤ 10 ∧ H pd = some (.lst [.str x, .str z]) ∧ z.length ≤ sizeLine ∧
  (∀ f ∈ fs, ∃ (L : LamD) (tb : XK → TE) (oc : Oc), LamSpec X 19 L tb ∧ LamAt H f L ∧ ocS S oc ∧ ocW oc = x ∧ ocZ oc = z ∧ ∀ E HZ Q', Same H HZ → ocP X.K c oc E HZ Q' → tb E σ HZ Q') ∧ ∀ H', Same H H' → Q (.bl true) H'
def tIsE (X : Cx) (c : Nat → Addr) (S : Nat → Prop) (t : TA) : TE := fun σ H Q => t σ H fun vs H1 => rIsE X c S σ vs H1 Q
theorem pe_isE {X : Cx} {j : Nat} {e e2 : Expr} {t : TA} {p pos : Pos} (D : DefS X.prog X.w X.K X.mg X.base 22 "_law_is_ended" pIsE (spIsE X.prog X.w X.K X.mg X.base c S)) (nd : (X.env.cells.map (·.1)).Nodup) (hf : ∀ y b, X.env.cells.lookup y = some b → X.s_0.heap.objs.size ≤ b) (hgd : X.A.guards = some []) (hr : Room j X.A) (hk : 22 ≤ j)
    (ha : PA X [e, e2] t) (hg : Gl X "_law_is_ended" := by rfl) (he : starEach [e, e2] X.env = (false, eval e X.env) :: starEach [e2] X.env := by rfl) (hpl : (backTo pos (starEach [e2] X.env)).any (·.1) = false := by rfl) :
    PE X (.Call (.Name "_law_is_ended" p) [e, e2] [] pos) (tIsE X c S t) := by
  refine pe_fnS (R := rIsE X c S) D hgd hr hk (fun pins σ H s vs Q I h => ?_) ha hg (by decide) he hpl
  obtain ⟨l, pd, fs, x, z, rfl, hl, hn, hp, hz, hA, k⟩ := h
  refine ⟨l, pd, fs, x, z, mkCells X.env.cells s.heap, rfl, hl, hn, hp, fun f hfm => ?_, cells_kept I nd hf, hz, k⟩
  obtain ⟨L, tb, oc, Z, at_, h1, h2, h3, h4⟩ := hA f hfm
  exact ⟨oc, act_of Z I at_ h4, h1, h2, h3⟩
end
end M

namespace M
open PySem L2 U
abbrev sIsR : Stmt := top 43
abbrev nIsR : List Str := ["_law_row_here", "_law_size", "_law_one"]
abbrev pIsR : List Str := ["_law_row_here", "_law_size"]
theorem scIsR : FnScope nIsR pIsR (defScope sIsR) := ⟨rfl, rfl, rfl, by decide +kernel, rfl, by decide +kernel, by decide +kernel⟩
section
variable {P : Program} {w : World} {K : PySem.W.Frag} {mg : Str → Option Value} {base : Heap}
theorem ok_isr {f : Addr} {fd : FuncData} (F : Fun K "_law_is_row" "_law_is_row" sIsR f fd) (T : Bt mg) : FnOk P w K mg base CX0 1 f fd pIsR spRowI := by
  refine F.ok scIsR (fun vs H Q E h => ?_) (fun cdv A outer s H vs Q E hr h => ?_)
  · obtain ⟨v, t, n, rfl, _⟩ := h
    rfl
  · obtain ⟨v, t, n, rfl, r, hl, k⟩ := h
    refine ⟨_, (pss_cons (ps_if (PW.pt (pw_or (pt_not (pt_val (pe_callB (isiQ K) (by rfl) T.isinstance (by decide +kernel) (pa_cons (pv 0) (pa_cons (pe_bltn (v := .ty "tuple") (u := .type "tuple") (by rfl) T.tuple (by decide +kernel) rfl) pa_nil))))) (pw_or1 (pt_cmpR op_ne (pe_callB (lenQ K) (by rfl) T.len (by decide +kernel) (pa_cons (pv 0) pa_nil)) (pv 1) (nomark _)))))
        (pss_one (ps_ret pe_bl)) pss_nil)
      (pss_cons (ps_for PassesOwn.never rfl (piT K (pv 0)) (pg_name (i := 2) scIsR.nd rfl (Or.inl rfl))
        (pss_one (ps_if (PW.pt (pw_or (pt_not (pt_val (pe_callB (isiQ K) (by rfl) T.isinstance (by decide +kernel) (pa_cons (pv 2) (pa_cons (pe_bltn (v := .ty "int") (u := .type "int") (by rfl) T.int (by decide +kernel) rfl) pa_nil))))) (pw_or (pt_val (pe_callB (isiQ K) (by rfl) T.isinstance (by decide +kernel) (pa_cons (pv 2) (pa_cons (pe_bltn (v := .ty "bool") (u := .type "bool") (by rfl) T.bool (by decide +kernel) rfl) pa_nil)))) (pw_or1 (pt_not (pt_chain op_le op_le pe_int (pv 2) (pe_op op_pow pe_int pe_int)))))))
        (pss_one (ps_ret pe_bl)) pss_nil)))
      (pss_one (ps_ret (pe_cmpR op_gt (pe_callB (sumT K) (by rfl) T.sum (by decide +kernel) (pa_cons (pv 0) pa_nil)) pe_int (nomark _)))))), ?_⟩
    have k0 := k H (Same.refl H)
    refine ⟨_, rfl, _, _, _, _, isTup t, rfl, .ty _, r.tyx, kitTup K t, _, rfl, ?_⟩
    cases t with
    | tup ts =>
      refine iteF ?_
      cases r with
      | @tup a vs _ ha rs =>
        have ln := rs.length
        refine ⟨_, rfl, a, _, rfl, .inr ha.sq, _, rfl, rfl, _, rfl, ?_⟩
        by_cases hn : ts.length = n
        · have e : rowTr n (.tup ts) = (ts.all wgTr && decide (0 < (ts.map inTr).sum)) := by
            show (decide ((ts.length : Int) = (n : Int)) && (ts.all wgTr && decide (0 < (ts.map inTr).sum))) = _
            rw [decide_eq_true (by omega), Bool.true_and]
          rw [e] at k
          refine ite2 (fun z => ?_) (fun _ => ?_)
          · exfalso
            rw [ln, hn] at z
            simp at z
          have no : ∀ (t : Tr) (i : Nat) (H' : Hp), ts[i]? = some t → wgTr t = false → Same H H' → Q (.bl false) H' := fun t i H' ht hw s' => by
            have hall : ts.all wgTr = false := Bool.eq_false_iff.mpr fun z => by
              rw [List.all_eq_true.mp z t (List.mem_of_getElem? ht)] at hw
              cases hw
            have q := k H' s'
            rw [hall, Bool.false_and] at q
            exact q
          refine ⟨_, rfl, a, rfl, ⟨_, ha.sq⟩, for_tup (K := K) (a := a) (xs := vs) (fun i σ G => ∃ p : Option V, σ = [some (.ref a), some (.int n), p] ∧ Same H G ∧ ∀ j t, j < i → ts[j]? = some t → wgTr t = true) ⟨none, rfl, Same.refl H, fun j t hj => absurd hj (Nat.not_lt_zero j)⟩ (fun i σ G _ ⟨_, _, sG, _⟩ => (ha.same sG).sq) ?_ ?_⟩
          · rintro i x σ G hx ⟨p, rfl, sG, hj⟩
            obtain ⟨t, ht, rx⟩ := rs.get hx
            have rx := rx.same sG
            have next : wgTr t = true → ∀ j u, j < i + 1 → ts[j]? = some u → wgTr u = true := fun hw j u hji hu => by
              by_cases q : j = i
              · subst q
                rw [ht] at hu
                cases hu
                exact hw
              · exact hj j u (by omega) hu
            obtain ⟨b1, b2, k1, k2, eb⟩ := kitInt K t
            refine ⟨_, rfl, _, _, _, _, b1, rfl, .ty _, rx.tyx, k1, _, rfl, ?_⟩
            cases b1 with
            | false => exact iteT (no t i G ht (by cases t <;> first | rfl | cases eb) sG)
            | true =>
              refine iteF ⟨_, rfl, _, _, _, _, b2, rfl, .ty _, rx.tyx, k2, _, rfl, ?_⟩
              cases b2 with
              | true => exact iteT (no t i G ht (by cases t <;> first | rfl | cases eb) sG)
              | false =>
                refine iteF ?_
                cases t with
                | int z =>
                  cases rx
                  refine ⟨_, rfl, _, _, rfl, rfl, _, rfl, ite2 (fun h1 => ⟨_, _, rfl, rfl, ⟨by decide, by decide, by decide⟩, _, _, rfl, rfl, _, rfl, ?_⟩) (fun h1 => ⟨_, rfl, ?_⟩)⟩
                  · have h1 : decide (0 ≤ z) = true := h1
                    have e9 : wgTr (.int z) = decide (z ≤ 10 ^ (9 : Int).toNat) := by
                      show (decide (0 ≤ z) && decide (z ≤ 1000000000)) = _
                      rw [h1, Bool.true_and]
                      rfl
                    cases h2 : decide (z ≤ 10 ^ (9 : Int).toNat) with
                    | true => exact iteF ⟨_, rfl, sG, next (e9.trans h2)⟩
                    | false => exact iteT (no _ i G ht (e9.trans h2) sG)
                  · have h1 : decide (0 ≤ z) = false := Bool.eq_false_iff.mpr h1
                    have e9 : wgTr (.int z) = false := by
                      show (decide (0 ≤ z) && decide (z ≤ 1000000000)) = _
                      rw [h1, Bool.false_and]
                    exact iteT (no _ i G ht e9 sG)
                | _ => cases eb
          · rintro σ G ⟨p, rfl, sG, hj⟩
            have hb : ts.all wgTr = true := List.all_eq_true.mpr fun t ht => by
              obtain ⟨j, hjl, e⟩ := List.getElem_of_mem ht
              exact hj j t (by omega) (by rw [List.getElem?_eq_getElem hjl, e])
            have q := k G sG
            rw [hb, Bool.true_and] at q
            have ev := rep_ints rs hb
            exact ⟨_, rfl, a, ts.map inTr, rfl, by rw [← ev]; exact (ha.same sG).sq, _, _, rfl, rfl, q⟩
        · have e : rowTr n (.tup ts) = false := by
            show (decide ((ts.length : Int) = (n : Int)) && (ts.all wgTr && decide (0 < (ts.map inTr).sum))) = _
            rw [decide_eq_false (by omega), Bool.false_and]
          rw [e] at k0
          refine ite2 (fun _ => k0) (fun z => ?_)
          exfalso
          refine z ?_
          have e : ¬ (V.int (vs.length : Int) = V.int n) := fun q => hn (by injection q; omega)
          rw [decide_eq_false e]; rfl
    | int i => exact iteT k0
    | bl b => exact iteT k0
    | non => exact iteT k0
    | str x => exact iteT k0
    | lst l => exact iteT k0
    | dic => exact iteT k0
end
end M

namespace M
open PySem L2 U
abbrev sDue : Stmt := top 44
abbrev nDue : List Str := ["_law_thing", "_law_size", "_law_at", "_law_row_here"]
abbrev pDue : List Str := ["_law_thing", "_law_size"]
theorem scDue : FnScope nDue pDue (defScope sDue) := ⟨rfl, rfl, rfl, by decide +kernel, rfl, by decide +kernel, by decide +kernel⟩
/-- the thing is wrong as ways for n minds: y is what is told of it -/
def ThB (n : Nat) (t : Tr) (y : V) : Prop := (isTup t = false ∧ y = .non) ∨ (t = .tup [] ∧ y = .non) ∨ ∃ ts i, t = .tup ts ∧ badAt n ts i ∧ y = .int (i : Nat)
def ThO (n : Nat) (t : Tr) : Prop := ∃ ts, t = .tup ts ∧ ts.all (wayTr n) = true ∧ 1 ≤ ts.length ∧ ts.length ≤ 6
def thSmall (t : Tr) : Prop := ∀ ts, t = .tup ts → ts.length ≤ 100 ∧ ∀ u ∈ ts, trSmall u
theorem scan (n : Nat) (ts : List Tr) : ∀ k, k ≤ 6 → k ≤ ts.length → (∃ i, badAt n ts i) ∨ ∀ j, j < k → ∃ t, ts[j]? = some t ∧ wayTr n t = true
  | 0, _, _ => .inr fun j h => absurd h (Nat.not_lt_zero j)
  | k + 1, h6, hl => by
    rcases scan n ts k (by omega) (by omega) with h | h
    · exact .inl h
    · have e : ts[k]? = some (ts[k]'(by omega)) := List.getElem?_eq_getElem (by omega)
      cases hb : wayTr n (ts[k]'(by omega)) with
      | false => exact .inl ⟨k, by omega, by omega, h, .inr ⟨_, e, hb⟩⟩
      | true =>
        refine .inr fun j hj => ?_
        by_cases q : j = k
        · subst q
          exact ⟨_, e, hb⟩
        · exact h j (by omega)
theorem thing_cases (n : Nat) (t : Tr) : (∃ y, ThB n t y ∧ (y = .non ∨ ∃ i : Nat, i ≤ 6 ∧ y = .int i)) ∨ ThO n t := by
  cases t with
  | tup ts =>
    by_cases h0 : ts = []
    · exact .inl ⟨.non, .inr (.inl ⟨by rw [h0], rfl⟩), .inl rfl⟩
    have h1 : 1 ≤ ts.length := by cases ts with | nil => exact absurd rfl h0 | cons _ _ => simp
    by_cases h6 : ts.length ≤ 6
    · rcases scan n ts ts.length h6 (Nat.le_refl _) with ⟨i, h⟩ | h
      · exact .inl ⟨.int (i : Nat), .inr (.inr ⟨ts, i, rfl, h, rfl⟩), .inr ⟨i, h.1, rfl⟩⟩
      · refine .inr ⟨ts, rfl, List.all_eq_true.mpr fun t ht => ?_, h1, h6⟩
        obtain ⟨j, hj, e⟩ := List.getElem_of_mem ht
        obtain ⟨u, h2, h3⟩ := h j hj
        rw [List.getElem?_eq_getElem hj, e] at h2
        cases h2
        exact h3
    · rcases scan n ts 6 (Nat.le_refl _) (by omega) with ⟨i, h⟩ | h
      · exact .inl ⟨.int (i : Nat), .inr (.inr ⟨ts, i, rfl, h, rfl⟩), .inr ⟨i, h.1, rfl⟩⟩
      · exact .inl ⟨.int (6 : Nat), .inr (.inr ⟨ts, 6, rfl, ⟨Nat.le_refl _, by omega, h, .inl rfl⟩, rfl⟩), .inr ⟨6, Nat.le_refl _, rfl⟩⟩
  | _ => exact .inl ⟨.non, .inl ⟨rfl, rfl⟩, .inl rfl⟩
theorem shw_of0 {d : PyData} (h : (d.canLay0 && d.showable && decide (d.depth ≤ 60) && decide (d.shown.length ≤ 1000)) = true) : Shw d := by
  simp only [Bool.and_eq_true, decide_eq_true_eq] at h
  exact ⟨h.1.1.1, h.1.1.2, h.1.2, Nat.le_trans h.2 (by decide)⟩
theorem shw_small {i : Int} (h : i.natAbs ≤ 1000) : Shw (.int i) := (Sh.int (i := i) (by omega)).w (Nat.zero_le _) (Nat.zero_le _)
def idxT : V → Str
  | .int i => (PyData.int i).shown
  | _ => "None"
theorem badAt_uniq {n : Nat} {ts : List Tr} {i j : Nat} (a : badAt n ts i) (b : badAt n ts j) : i = j := by
  have key : ∀ {i j : Nat}, badAt n ts i → badAt n ts j → ¬ i < j := fun {i j} a b h => by
    obtain ⟨a1, a2, a3, a4⟩ := a
    obtain ⟨b1, b2, b3, b4⟩ := b
    rcases a4 with h6 | ⟨t, h1, h2⟩
    · omega
    · obtain ⟨u, h3, h4⟩ := b3 i h
      rw [h1] at h3
      cases h3
      rw [h2] at h4
      cases h4
  have h1 := key a b
  have h2 := key b a
  omega
def spDue : Sp := fun vs H Q _ => ∃ (v : V) (t : Tr) (n : Nat), vs = [v, .int n] ∧ Rep H v t ∧ thSmall t ∧ ((∃ y, ThB n t y ∧ ∀ H' p, Same H H' → H p = none → H' p = some (.lst [.str "ways", .str (idxT y)]) → Q (.ref p) H') ∨ (ThO n t ∧ ∀ H', Same H H' → Q .non H'))
section
variable {P : Program} {w : World} {K : PySem.W.Frag} {mg : Str → Option Value} {base : Heap}
theorem ok_due {f : Addr} {fd : FuncData} (F : Fun K "_law_due" "_law_due" sDue f fd) (T : Bt mg) (DR : DefX P w K mg base 1 "_law_is_row" pIsR spRowI) : FnG P w K mg base CX0 3 f fd pDue spDue := by
  refine fnG0 F scDue (fun vs H Q E h => ?_) (fun cdv A outer s H vs Q E hg hr h => ?_)
  · obtain ⟨v, t, n, rfl, _⟩ := h
    rfl
  · obtain ⟨v, t, n, rfl, r, small, h⟩ := h
    refine ⟨_, (pss_cons (ps_if (PW.pt (pw_or (pt_not (pt_val (pe_callB (isiQ K) (by rfl) T.isinstance (by decide +kernel) (pa_cons (pv 0) (pa_cons (pe_bltn (v := .ty "tuple") (u := .type "tuple") (by rfl) T.tuple (by decide +kernel) rfl) pa_nil))))) (pw_or1 (pt_cmpR (eqNil K hr.units) (pv 0) (pe_tup pa_nil) (nomark _)))))
        (pss_one (ps_ret (pe_lst (pa_cons pe_str (pa_cons pe_str pa_nil))))) pss_nil)
      (pss_cons (ps_for PassesOwn.never rfl (pi_range1 rfl T.range (pa_cons (pe_callB (lenQ K) (by rfl) T.len (by decide +kernel) (pa_cons (pv 0) pa_nil)) pa_nil)) (pg_name (i := 2) scDue.nd rfl (Or.inl rfl))
        (pss_cons (ps_if (PW.pt (pw_or (pt_cmpR op_eq (pv 2) pe_int (nomark _)) (pw_or (pt_not (pt_val (pe_callB (isiQ K) (by rfl) T.isinstance (by decide +kernel) (pa_cons (pe_ix (ixT K) (pv 0) (pv 2) (fun _ _ => rfl)) (pa_cons (pe_bltn (v := .ty "tuple") (u := .type "tuple") (by rfl) T.tuple (by decide +kernel) rfl) pa_nil))))) (pw_or1 (pt_cmpR op_ne (pe_callB (lenQ K) (by rfl) T.len (by decide +kernel) (pa_cons (pe_ix (ixT K) (pv 0) (pv 2) (fun _ _ => rfl)) pa_nil)) (pv 1) (nomark _))))))
        (pss_one (ps_ret (pe_lst (pa_cons pe_str (pa_cons (pe_callB (reprV K hg hr.units) (by rfl) T.repr (by decide +kernel) (pa_cons (pv 2) pa_nil)) pa_nil))))) pss_nil)
      (pss_one (ps_if (pt_cmpR (neNil K hr.units) (pe_lc (own := [("_law_row_here", 3)]) (g := gName 3) rfl scDue.nd (piT K (pe_ix (ixT K) (pv 0) (pv 2) (fun _ _ => rfl))) (blkOk_by (own := [("_law_row_here", 3)]) (N := nDue) (sc := defScope sDue) (by decide +kernel)) (fun _ _ _ _ _ => (pg_name (i := 3) scDue.nd rfl (Or.inl rfl))) (fun _ _ _ _ _ => (pts_one (pt_not (pt_val (pe_fn DR hr (by decide) (pa_cons (pv 3) (pa_cons (pv 1) pa_nil)))))))
          (fun _ _ _ _ _ => (pv 3))) (pe_lst pa_nil) (nomark _))
        (pss_one (ps_ret (pe_lst (pa_cons pe_str (pa_cons (pe_callB (reprV K hg hr.units) (by rfl) T.repr (by decide +kernel) (pa_cons (pv 2) pa_nil)) pa_nil))))) pss_nil))))
      (pss_one (ps_ret pe_non)))), ?_⟩
    have two : ∀ {G : Hp} {z : Str} {k' : ∀ H' p, Same H H' → H p = none → H' p = some (.lst [.str "ways", .str z]) → Q (.ref p) H'}, Same H G → [V.str "ways", V.str z].length ≤ sizeLine ∧ ∀ p, G p = none → Q (.ref p) (upd G p (.lst [.str "ways", .str z])) :=
      fun {G z k'} sG => ⟨by show 2 ≤ sizeLine; decide, fun p np => k' _ p (sG.trans (same_upd np)) (sG.free np) upd_same⟩
    by_cases h1 : isTup t = false
    · rcases h with ⟨y, hb, k⟩ | ⟨⟨ts, rfl, _⟩, k⟩
      · have hy : y = .non := by
          rcases hb with ⟨_, e⟩ | ⟨rfl, e⟩ | ⟨ts, i, rfl, _⟩
          · exact e
          · exact e
          · cases h1
        subst hy
        exact ⟨_, rfl, _, _, _, _, false, rfl, .ty _, r.tyx, by rw [← h1]; exact kitTup K t, _, rfl, iteT (two (k' := k) (Same.refl H))⟩
      · cases h1
    cases t with
    | tup ts =>
      cases r with
      | @tup a vs _ ha rs =>
        have ln := rs.length
        refine ⟨_, rfl, _, _, _, _, true, rfl, .ty _, ha.tyx, kit_ty (by decide +kernel), _, rfl, iteF ⟨_, rfl, by show 0 ≤ sizeLine; decide, fun p np => ⟨a, p, _, rfl, rfl, (ha.same (same_upd np)).sq, SqT.of upd_same, _, rfl, ?_⟩⟩⟩
        have s0 : Same H (upd H p (.tup [])) := same_upd np
        by_cases h0 : ts = []
        · subst h0
          cases rs
          rcases h with ⟨y, hb, k⟩ | ⟨⟨ts, e, _, h1, _⟩, k⟩
          · have hy : y = .non := by
              rcases hb with ⟨_, e⟩ | ⟨_, e⟩ | ⟨ts, i, e, hb, _⟩
              · exact e
              · exact e
              · cases e
                exact absurd hb.2.1 (Nat.not_lt_zero i)
            subst hy
            exact iteT (two (k' := k) s0)
          · cases e
            exact absurd h1 (by decide)
        have hv : vs.isEmpty = false := by
          cases rs with
          | nil => exact absurd rfl h0
          | cons _ _ => rfl
        rw [hv]
        obtain ⟨hl, sm⟩ := small ts rfl
        -- what a place that is wrong gives, and a thing without one
        have kb : ∀ i q G, Same H G → badAt n ts i → tRet (tLst (tCons (tC (.str "ways")) (tCons (tCB (rReprV K) (tCons (tVar 2) tNil)) tNil))) { nx := fun _ _ => True, rt := Q } [some (.ref a), some (.int (n : Nat)), some (.int (i : Nat)), q] G := fun i q G sG hb => by
          rcases h with ⟨y, hy, k⟩ | ⟨⟨ts', e, h1, _, h6⟩, k⟩
          · have hy : y = .int (i : Nat) := by
              rcases hy with ⟨e, _⟩ | ⟨e, _⟩ | ⟨ts', i', e, hb', e2⟩
              · cases e
              · cases e
                exact absurd rfl h0
              · cases e
                rw [e2, badAt_uniq hb hb']
            subst hy
            exact ⟨_, rfl, _, (PyData.int (i : Nat)).shown, rfl, Vw.of (.int _) (shw_small (by have := hb.1; omega)), two (k' := k) sG⟩
          · exfalso
            cases e
            obtain ⟨b1, b2, b3, b4⟩ := hb
            rcases b4 with e6 | ⟨t, e1, e2⟩
            · omega
            · rw [List.all_eq_true.mp h1 t (List.mem_of_getElem? e1)] at e2
              cases e2
        have kg : ∀ G, Same H G → ts.length ≤ 6 → (∀ j, j < ts.length → ∃ t, ts[j]? = some t ∧ wayTr n t = true) → Q .non G := fun G sG h6 hg => by
          rcases h with ⟨y, hy, k⟩ | ⟨_, k⟩
          · exfalso
            rcases hy with ⟨e, _⟩ | ⟨e, _⟩ | ⟨ts', i', e, ⟨b1, b2, b3, b4⟩, e2⟩
            · cases e
            · cases e
              exact h0 rfl
            · cases e
              rcases b4 with e6 | ⟨t, e1, e3⟩
              · omega
              · obtain ⟨u, e4, e5⟩ := hg i' b2
                rw [e1] at e4
                cases e4
                rw [e3] at e5
                cases e5
          · exact k G sG
        refine iteF ⟨_, rfl, a, _, rfl, .inr ((ha.same s0).sq), _, rfl, by omega, by omega, ?_⟩
        rw [Int.toNat_natCast]
        refine for_range (lo := 0) (fun i σ G => ∃ p q : Option V, σ = [some (.ref a), some (.int n), p, q] ∧ Same H G ∧ i ≤ 7 ∧ (i = 7 → 7 ≤ ts.length → False) ∧ ∀ j, j < i → ∃ t, ts[j]? = some t ∧ wayTr n t = true) ⟨none, none, rfl, s0, by decide, (fun e => by cases e), (fun j hj => absurd hj (Nat.not_lt_zero j))⟩ ?_ ?_
        · rintro i σ G hi ⟨p1, q1, rfl, sG, h7, h77, hg⟩
          rw [show (0 : Int) + (i : Nat) = (i : Nat) from Int.zero_add _]
          have hit : i < ts.length := by omega
          have hut : ts[i]? = some ts[i] := List.getElem?_eq_getElem hit
          obtain ⟨x, hxt⟩ : ∃ x, vs[i]? = some x := ⟨_, List.getElem?_eq_getElem hi⟩
          obtain ⟨u, hu, rx⟩ := rs.get hxt
          have i6 : i ≤ 6 := by
            by_cases e : i = 7
            · exact (h77 e (by omega)).elim
            · omega
          refine ⟨_, rfl, rfl, _, rfl, ite2 (fun z => kb i q1 G sG ⟨i6, hit, hg, .inl (by have z' := of_decide_eq_true z; injection z' with z'; omega)⟩) (fun z6 => ?_)⟩
          have rx := rx.same sG
          have wrong : wayTr n u = false → badAt n ts i := fun e => ⟨i6, hit, hg, .inr ⟨u, hu, e⟩⟩
          refine ⟨_, rfl, _, rfl, a, _, _, _, rfl, rfl, (ha.same sG).sq, atI_nat hxt, _, _, _, _, isTup u, rfl, .ty _, rx.tyx, kitTup K u, _, rfl, ?_⟩
          cases hu1 : isTup u with
          | false => exact iteT (kb i q1 G sG (wrong (by cases u <;> first | rfl | cases hu1)))
          | true =>
            refine iteF ?_
            cases u with
            | tup us =>
              cases rx with
              | @tup b ws _ hb rw_ =>
                have lnu := rw_.length
                refine ⟨_, rfl, _, rfl, a, _, _, _, rfl, rfl, (ha.same sG).sq, atI_nat hxt, b, _, rfl, .inr hb.sq, _, rfl, rfl, _, rfl, ?_⟩
                by_cases hn : us.length = n
                · refine ite2 (fun z => ?_) (fun _ => ?_)
                  · exfalso
                    rw [lnu, hn] at z
                    simp at z
                  have ew : wayTr n (.tup us) = us.all (rowTr n) := by
                    show (decide ((us.length : Int) = (n : Int)) && us.all (rowTr n)) = _
                    rw [decide_eq_true (by omega), Bool.true_and]
                  refine ⟨_, rfl, _, rfl, a, _, _, _, rfl, rfl, (ha.same sG).sq, atI_nat hxt, b, rfl, ⟨_, hb.sq⟩, fun D hD => ?_⟩
                  have su := sm (.tup us) (List.mem_of_getElem? hu) us rfl
                  refine lc_it (walk_tup (K := K) (a := b) (xs := ws)) (fun j G' => Same G G' ∧ ∃ xs, G' D = some (.lst xs) ∧ xs.length ≤ j ∧ xs.isEmpty = (us.take j).all (rowTr n)) ⟨same_upd hD, [], upd_same, Nat.le_refl _, by simp⟩ (fun j G' _ h => (hb.same h.1).sq) ?_ (fun G' h => ?_)
                  · rintro j y _ G' hj ⟨sG', xs, hx1, hx2, hx3⟩ ⟨rfl, hy⟩
                    obtain ⟨t, ht, ry⟩ := rw_.get hy
                    have hjw := (List.getElem?_eq_some_iff.mp hy).1
                    have etk : (us.take (j + 1)).all (rowTr n) = ((us.take j).all (rowTr n) && rowTr n t) := by
                      rw [List.take_succ, ht, List.all_append]
                      simp
                    refine ⟨rfl, _, rfl, _, rfl, y, t, n, rfl, ry.same sG', su.2 t (List.mem_of_getElem? ht), fun G2 s2 => ⟨_, rfl, ?_⟩⟩
                    have hx2' := s2 _ _ hx1
                    have keep : ∀ b o, G b = some o → G2 b = some o := fun b o e => s2 b o (sG' b o e)
                    cases hr1 : rowTr n t with
                    | true => exact ⟨keep, xs, hx2', by omega, by rw [etk, hr1, Bool.and_true]; exact hx3⟩
                    | false =>
                      refine ⟨_, rfl, xs, hx2', ?_, fun b o e => ?_, xs ++ [y], upd_same, by rw [List.length_append]; show xs.length + 1 ≤ j + 1; omega, ?_⟩
                      · rw [sizeLine_eq]
                        omega
                      · rw [upd_ne (ne_of_none e hD)]
                        exact keep b o e
                      · rw [etk, hr1, Bool.and_false]
                        cases xs <;> rfl
                  obtain ⟨sG', xs, hx1, _, hx3⟩ := h
                  rw [List.take_of_length_le (by omega)] at hx3
                  refine ⟨by show 0 ≤ sizeLine; decide, fun l nl => ⟨D, l, xs, rfl, rfl, SqL.of (same_upd nl _ _ hx1), SqL.of upd_same, ?_⟩⟩
                  rw [hx3]
                  have sall := (sG.trans sG').trans (same_upd (o := HO.lst []) nl)
                  refine ⟨_, rfl, ?_⟩
                  cases ha1 : us.all (rowTr n) with
                  | false => exact iteT (kb i q1 _ sall (wrong (ew.trans ha1)))
                  | true =>
                    refine iteF ⟨_, _, rfl, sall, by omega, fun e7 h7' => ?_, fun j hj => ?_⟩
                    · exact z6 (decide_eq_true (by rw [show i = 6 from by omega]; rfl))
                    · by_cases e : j = i
                      · subst e
                        exact ⟨_, hu, ew.trans ha1⟩
                      · exact hg j (by omega)
                · refine ite2 (fun _ => kb i q1 G sG (wrong (by
                    show (decide ((us.length : Int) = (n : Int)) && us.all (rowTr n)) = _
                    rw [decide_eq_false (by omega), Bool.false_and]))) (fun z => ?_)
                  exfalso
                  refine z ?_
                  have e : ¬ (V.int (ws.length : Int) = V.int n) := fun q => hn (by injection q; omega)
                  rw [decide_eq_false e]; rfl
            | _ => cases hu1
        · rintro σ G ⟨p1, q1, rfl, sG, h7, h77, hg⟩
          rw [ln] at h7 h77 hg
          exact kg G sG (by
            by_cases e : ts.length = 7
            · exact (h77 e (by omega)).elim
            · omega) hg
    | _ => exact absurd rfl h1
end
end M

namespace M
open PySem L2 U
abbrev sBent : Stmt := top 45
abbrev nBent : List Str := ["_law_jug_here", "_law_talks", "_law_way_here", "_law_at", "_law_talk_here", "_law_k", "_law_j", "_law_row_here", "_law_odds"]
abbrev pBent : List Str := ["_law_jug_here", "_law_talks"]
theorem scBent : FnScope nBent pBent (defScope sBent) := ⟨rfl, rfl, rfl, by decide +kernel, rfl, by decide +kernel, by decide +kernel⟩
def S0 : Tr → Prop := fun _ => True
def S1 : Tr → Prop := bd 10 S0
def S2 : Tr → Prop := bd 10 S1
def S3 : Tr → Prop := bd 10 S2
theorem s21 {t : Tr} (h : S2 t) : S1 t := h.mono (Nat.le_refl _) fun _ _ => trivial
theorem s32 {t : Tr} (h : S3 t) : S2 t := h.mono (Nat.le_refl _) fun _ => s21
theorem ints_S1 : ∀ (r : List Int) (u : Tr), u ∈ trAll (r.map PyData.int) → S1 u
  | [], u, h => by cases h
  | z :: r, u, h => by
    rcases List.mem_cons.mp h with rfl | h
    · exact bd.off rfl
    · exact ints_S1 r u h
theorem trAll_len (l : List PyData) : (trAll l).length = l.length := by rw [trAll_map, List.length_map]
theorem row_S2 {n : Nat} {r : List Int} (h : RowOk n r) (hn : n ≤ 4) : S2 (trOf (dRow r)) := by
  refine bd.of ?_ (ints_S1 r)
  rw [trAll_len, List.length_map, h.1]
  omega
theorem way_S3 {n : Nat} {w : List (List Int)} (h : WayOk n w) (hn : n ≤ 4) : S3 (trOf (dWay w)) := by
  refine bd.of ?_ fun u hu => ?_
  · rw [trAll_len, List.length_map, h.1]
    omega
  · rw [trAll_map, List.map_map] at hu
    obtain ⟨r, hr, rfl⟩ := List.mem_map.mp hu
    exact row_S2 (h.2 r hr) hn
theorem ways_S3 {n : Nat} {ws : List (List (List Int))} (h : ∀ w ∈ ws, WayOk n w) (hn : n ≤ 4) : ∀ u ∈ trAll (ws.map dWay), S3 u := fun u hu => by
  rw [trAll_map, List.map_map] at hu
  obtain ⟨w, hw, rfl⟩ := List.mem_map.mp hu
  exact way_S3 (h w hw) hn
abbrev oddsW (po : Addr) : List V := [.int (-1), .int (10 ^ (9 : Int).toNat + 1), .int (10 ^ (9 : Int).toNat), .bl true, .non, .str "1", .ref po, .int (10 ^ (30 : Int).toNat), .int 0, .int 0, .int 5, .bl false]
def oddsTr : List Tr := [.int (-1), .int (10 ^ (9 : Int).toNat + 1), .int (10 ^ (9 : Int).toNat), .bl true, .non, .str "1", .tup [.int 1], .int (10 ^ (30 : Int).toNat), .int 0, .int 0, .int 5, .bl false]
theorem odds_S1 : ∀ t ∈ oddsTr, S1 t := fun t ht => by
  unfold oddsTr at ht
  simp only [List.mem_cons, List.not_mem_nil, or_false] at ht
  rcases ht with rfl | rfl | rfl | rfl | rfl | rfl | rfl | rfl | rfl | rfl | rfl | rfl <;> first | exact bd.off rfl | exact bd.of (by decide) fun _ _ => trivial
def spBent : Sp := fun vs H Q _ => ∃ (j : Addr) (bv : V) (n : Nat) (ws : List (List (List Int))), vs = [.ref j, bv] ∧ JugAt H j ∧ Im H bv (dWays ws) ∧ 1 ≤ n ∧ n ≤ 4 ∧ 1 ≤ ws.length ∧ ws.length ≤ 4 ∧ (∀ w ∈ ws, WayOk n w) ∧
  ∀ H' v t, But j H H' → JugAt H' j → RepB j H' v t → bd 60 S2 t → Q v H'
section
variable {P : Program} {w : World} {K : PySem.W.Frag} {mg : Str → Option Value} {base : Heap}
theorem ok_bent {f : Addr} {fd : FuncData} (F : Fun K "_law_bent" "_law_bent" sBent f fd) (T : Bt mg) (Tl : mg "list" = none) (DS : DSip P w K mg base) : FnOk P w K mg base CX0 3 f fd pBent spBent := by
  refine F.ok scBent (fun vs H Q E h => ?_) (fun cdv A outer s H vs Q E hr h => ?_)
  · obtain ⟨j, bv, n, ws, rfl, _⟩ := h
    rfl
  · obtain ⟨j, bv, n, ws, rfl, J, im, hn1, hn4, hw1, hw4, hw, k⟩ := h
    refine ⟨_, (pss_cons (ps_par (i := 2) (j := 3) (by rfl) scBent.nd rfl rfl (by decide) rfl rfl (pa_cons (pe_fn DS hr (by decide) (pa_cons (pv 0) (pa_cons pe_int pa_nil))) (pa_cons (pe_fn DS hr (by decide) (pa_cons (pv 0) (pa_cons (pe_callB (lenQ K) (by rfl) T.len (by decide +kernel) (pa_cons (pv 1) pa_nil)) pa_nil))) pa_nil)) (by rfl))
      (pss_cons (ps_set (i := 4) scBent.nd rfl (Or.inl rfl) (pe_ix (ixT K) (pv 1) (pv 3) (fun _ _ => rfl)))
      (pss_cons (ps_par (i := 5) (j := 6) (by rfl) scBent.nd rfl rfl (by decide) rfl rfl (pa_cons (pe_fn DS hr (by decide) (pa_cons (pv 0) (pa_cons (pe_callB (lenQ K) (by rfl) T.len (by decide +kernel) (pa_cons (pv 4) pa_nil)) pa_nil))) (pa_cons (pe_fn DS hr (by decide) (pa_cons (pv 0) (pa_cons (pe_callB (lenQ K) (by rfl) T.len (by decide +kernel) (pa_cons (pv 4) pa_nil)) pa_nil))) pa_nil)) (by rfl))
      (pss_cons (ps_par (i := 7) (j := 8) (by rfl) scBent.nd rfl rfl (by decide) rfl rfl (pa_cons (pe_ix (ixT K) (pv 4) (pv 5) (fun _ _ => rfl)) (pa_cons (pe_lst (pa_cons (pe_un un_neg pe_int) (pa_cons (pe_op op_add (pe_op op_pow pe_int pe_int) pe_int) (pa_cons (pe_op op_pow pe_int pe_int) (pa_cons pe_bl (pa_cons pe_non (pa_cons pe_str (pa_cons (pe_tup (pa_cons pe_int pa_nil)) (pa_cons (pe_op op_pow pe_int pe_int) (pa_cons pe_int (pa_cons pe_int (pa_cons pe_int (pa_cons pe_bl pa_nil))))))))))))) pa_nil)) (by rfl))
      (pss_cons (ps_if (pt_cmpR op_lt (pv 2) pe_int (nomark _))
        (pss_one (ps_set (i := 7) scBent.nd rfl (Or.inl rfl) (pe_op (catA K) (pe_op (catA K) (pe_slice (slA K) (pv 7) po_none (po_some (pv 6))) (pe_tup (pa_cons (pe_ix (ixL K) (pv 8) (pe_fn DS hr (by decide) (pa_cons (pv 0) (pa_cons pe_int pa_nil))) (fun _ _ => rfl)) pa_nil))) (pe_slice (slA K) (pv 7) (po_some (pe_op op_add (pv 6) pe_int)) po_none)))) pss_nil)
      (pss_cons (ps_if (pt_cmpR op_eq (pv 2) pe_int (nomark _))
        (pss_one (ps_set (i := 7) scBent.nd rfl (Or.inl rfl) (pe_ix (ixL K) (pe_lst (pa_cons (pe_op (catA K) (pv 7) (pe_tup (pa_cons pe_int pa_nil))) (pa_cons (pe_slice (slA K) (pv 7) (po_some pe_int) po_none) (pa_cons (pe_callTy (lstO K) (by rfl) Tl (by decide +kernel) (pa_cons (pv 7) pa_nil)) (pa_cons pe_non (pa_cons (pe_op (repN K) (pe_tup (pa_cons pe_int pa_nil)) (pe_callB (lenQ K) (by rfl) T.len (by decide +kernel) (pa_cons (pv 7) pa_nil))) (pa_cons (pe_tup pa_nil) (pa_cons pe_str (pa_cons pe_int pa_nil))))))))) (pe_fn DS hr (by decide) (pa_cons (pv 0) (pa_cons pe_int pa_nil))) (fun _ _ => rfl)))) pss_nil)
      (pss_cons (ps_set (i := 4) scBent.nd rfl (Or.inl rfl) (pe_op (catA K) (pe_op (catA K) (pe_slice (slA K) (pv 4) po_none (po_some (pv 5))) (pe_tup (pa_cons (pv 7) pa_nil))) (pe_slice (slA K) (pv 4) (po_some (pe_op op_add (pv 5) pe_int)) po_none)))
      (pss_cons (ps_if (pt_cmpR op_eq (pv 2) pe_int (nomark _))
        (pss_one (ps_set (i := 4) scBent.nd rfl (Or.inl rfl) (pe_ix (ixL K) (pe_lst (pa_cons (pe_op (catA K) (pv 4) (pe_slice (slA K) (pv 4) po_none (po_some pe_int))) (pa_cons (pe_slice (slA K) (pv 4) (po_some pe_int) po_none) (pa_cons (pe_callTy (lstO K) (by rfl) Tl (by decide +kernel) (pa_cons (pv 4) pa_nil)) (pa_cons pe_non (pa_cons (pe_tup pa_nil) (pa_cons (pv 7) (pa_cons pe_dnewK pa_nil)))))))) (pe_fn DS hr (by decide) (pa_cons (pv 0) (pa_cons pe_int pa_nil))) (fun _ _ => rfl)))) pss_nil)
      (pss_cons (ps_if (pt_cmpR op_eq (pv 2) pe_int (nomark _))
        (pss_one (ps_ret (pe_ix (ixL K) (pe_lst (pa_cons (pe_callTy (lstO K) (by rfl) Tl (by decide +kernel) (pa_cons (pv 1) pa_nil)) (pa_cons pe_non (pa_cons (pe_tup pa_nil) (pa_cons (pe_op (repN K) (pv 1) pe_int) (pa_cons (pe_ix (ixT K) (pv 1) pe_int (fun _ _ => rfl)) (pa_cons pe_str (pa_cons pe_dnewK pa_nil)))))))) (pe_fn DS hr (by decide) (pa_cons (pv 0) (pa_cons pe_int pa_nil))) (fun _ _ => rfl)))) pss_nil)
      (pss_one (ps_ret (pe_op (catA K) (pe_op (catA K) (pe_slice (slA K) (pv 1) po_none (po_some (pv 3))) (pe_tup (pa_cons (pv 4) pa_nil))) (pe_slice (slA K) (pv 1) (po_some (pe_op op_add (pv 3) pe_int)) po_none))))))))))))), ?_⟩
    obtain ⟨b, tvs, rfl, hb, hall⟩ := im.tuple
    have hl := hall.length
    rw [List.length_map] at hl
    refine ⟨_, rfl, j, 9, rfl, by decide, by decide, J, fun G1 d b1 J1 h0 h9 => ?_⟩
    refine ⟨_, rfl, _, rfl, b, tvs, rfl, .inr (b1.tups J _ _ hb).sq, j, _, rfl, by omega, by omega, J1, fun G2 d2 b2 J2 h20 h2n => ⟨_, _, rfl, ?_⟩⟩
    obtain ⟨n2, rfl⟩ := Int.eq_ofNat_of_zero_le h20
    have h2 : n2 < tvs.length := by omega
    have B2 := b1.trans b2
    have hb2 := B2.tups J _ _ hb
    have hall2 := ImAll.mono (B2.tups J) _ _ hall
    have e2 : tvs[n2]? = some tvs[n2] := List.getElem?_eq_getElem h2
    obtain ⟨dw, hdw, imw⟩ := hall2.get e2
    rw [List.getElem?_map] at hdw
    obtain ⟨wy, hwy, rfl⟩ := Option.map_eq_some_iff.mp hdw
    have wok := hw wy (List.mem_of_getElem? hwy)
    obtain ⟨ta, rvs, eta, hta, hrall⟩ := imw.tuple
    have hrl := hrall.length
    rw [List.length_map, wok.1] at hrl
    refine ⟨_, rfl, _, rfl, b, tvs, _, _, rfl, rfl, hb2.sq, atI_nat e2, ?_⟩
    rw [eta]
    -- k, j
    refine ⟨_, rfl, _, rfl, ta, rvs, rfl, .inr hta.sq, j, _, rfl, by omega, by omega, J2, fun G3 d3 b3 J3 h30 h3n => ?_⟩
    have hta3 := b3.tups J2 _ _ hta
    refine ⟨_, rfl, _, rfl, ta, rvs, rfl, .inr hta3.sq, j, _, rfl, by omega, by omega, J3, fun G4 d4 b4 J4 h40 h4n => ⟨_, _, rfl, ?_⟩⟩
    obtain ⟨n3, rfl⟩ := Int.eq_ofNat_of_zero_le h30
    obtain ⟨n4, rfl⟩ := Int.eq_ofNat_of_zero_le h40
    have B4 := (B2.trans b3).trans b4
    have hta4 := b4.tups J3 _ _ hta3
    have hrall4 := ImAll.mono (b4.tups J3) _ _ (ImAll.mono (b3.tups J2) _ _ hrall)
    have h3 : n3 < rvs.length := by omega
    have e3 : rvs[n3]? = some rvs[n3] := List.getElem?_eq_getElem h3
    obtain ⟨dr, hdr, imr⟩ := hrall4.get e3
    rw [List.getElem?_map] at hdr
    obtain ⟨r, hr', rfl⟩ := Option.map_eq_some_iff.mp hdr
    have rok := wok.2 r (List.mem_of_getElem? hr')
    obtain ⟨ra, ivs, era, hra, hiall⟩ := imr.tuple
    have := hiall.ints
    subst this
    refine ⟨_, rfl, _, rfl, ta, rvs, _, _, rfl, rfl, hta4.sq, atI_nat e3, ?_⟩
    rw [era]
    refine ⟨_, rfl, _, _, rfl, rfl, ⟨by decide, by decide, by decide⟩, _, _, rfl, rfl, _, _, rfl, rfl, ⟨by decide, by decide, by decide⟩, by show 1 ≤ sizeLine; decide, fun po npo => ⟨_, _, rfl, rfl, ⟨by decide, by decide, by decide⟩, by show 12 ≤ sizeLine; decide, fun ol nol => ⟨_, _, rfl, ?_⟩⟩⟩
    have s5 := same_upd (o := HO.tup [V.int 1]) npo
    have s6 := same_upd (o := HO.lst (oddsW po)) nol
    have J5 := (J4.same s5).same s6
    have olj : ol ≠ j := ((J4.same s5).ne nol).symm
    have hO : (upd (upd G4 po (.tup [.int 1])) ol (.lst (oddsW po))) ol = some (.lst (oddsW po)) := upd_same
    have hP : Tu (upd (upd G4 po (.tup [.int 1])) ol (.lst (oddsW po))) po [.int 1] := Tu.same Tu.up s6
    have B5 : But j H (upd (upd G4 po (.tup [.int 1])) ol (.lst (oddsW po))) := B4.trans (.of (s5.trans s6))
    have s56 := s5.trans s6
    have hb5 := (b4.tups J3 _ _ (b3.tups J2 _ _ hb2)).same s56
    have hta5 := hta4.same s56
    have hra5 := hra.same s56
    have tvB := RepAllB.of_im (ImAll.mono (Same.tups s56) _ _ (ImAll.mono (b4.tups J3) _ _ (ImAll.mono (b3.tups J2) _ _ hall2))) J5
    have rvB := RepAllB.of_im (ImAll.mono (Same.tups s56) _ _ hrall4) J5
    have ivB := RepAllB.of_im (ImAll.mono (Same.tups s56) _ _ hiall) J5
    dsimp only
    generalize (upd (upd G4 po (.tup [.int 1])) ol (.lst (oddsW po))) = G5 at J5 hO hP B5 hb5 hta5 hra5 tvB rvB ivB ⊢
    have rl : r.length = n := rok.1
    have iS : S2 (.tup (trAll (r.map PyData.int))) := row_S2 rok hn4
    have h4r : n4 < r.length := by omega
    -- the row
    refine seqQ (fun σ' G' => ∃ (rv : V) (rt : Tr), σ' = [some (.ref j), some (.ref b), some (.int d), some (.int n2), some (.ref ta), some (.int n3), some (.int n4), some rv, some (.ref ol)] ∧ But j G5 G' ∧ JugAt G' j ∧ RepB j G' rv rt ∧ S2 rt ∧ (4 ≤ d → rv = .ref ra ∧ rt = .tup (trAll (r.map PyData.int)))) (fun N hN => ?_) ?_
    · refine ⟨_, rfl, _, _, rfl, rfl, _, rfl, ite2 (fun hd => ?_) (fun hd => ?_)⟩
      · refine ⟨_, rfl, _, rfl, _, rfl, slTu hra5 fun p1 G6 t6 u6 => ?_⟩
        rw [cutTo (by rw [List.length_map]; omega)] at u6
        refine ⟨_, rfl, _, rfl, j, 12, rfl, by decide, by decide, J5.same t6, fun G7 d7 b7 J7 h70 h712 => ?_⟩
        obtain ⟨n7, rfl⟩ := Int.eq_ofNat_of_zero_le h70
        have hn7 : n7 < (oddsW po).length := by show n7 < 12; omega
        have e7 : (oddsW po)[n7]? = some (oddsW po)[n7] := List.getElem?_eq_getElem hn7
        have J6 := J5.same t6
        have u7 := b7.tups J6 _ _ u6
        have hO7 := b7 _ _ olj (t6 _ _ hO)
        refine ⟨ol, oddsW po, _, _, rfl, rfl, SqL.of hO7, atI_nat e7, by show 1 ≤ sizeLine; decide, fun p8 np8 => ?_⟩
        have t8 := same_upd (o := HO.tup [(oddsW po)[n7]]) np8
        refine catTu2 (u7.same t8) Tu.up (by rw [List.length_take, List.length_map]; show min n4 r.length + 1 ≤ 1000; omega) fun q9 G9 t9 u9 => ?_
        have b59 : But j G5 G9 := (((But.of t6).trans b7).trans (.of t8)).trans (.of t9)
        have J9 := (J7.same t8).same t9
        refine ⟨_, rfl, _, rfl, _, _, rfl, rfl, _, rfl, ?_⟩
        dsimp only [tNoPart]
        refine slTu (b59.tups J5 _ _ hra5) fun p10 G10 t10 u10 => ?_
        rw [show ((n4 : Nat) : Int) + 1 = ((n4 + 1 : Nat) : Int) from by omega, cutFrom (by rw [List.length_map]; omega)] at u10
        refine catTu2 (u9.same t10) u10 (by rw [List.length_append, List.length_take, List.length_drop, List.length_map]; show min n4 r.length + 1 + (r.length - (n4 + 1)) ≤ 1000; omega) fun q11 G11 t11 u11 => ?_
        have b511 : But j G5 G11 := b59.trans (.of (t10.trans t11))
        have J11 := (J9.same t10).same t11
        obtain ⟨ot, hot, oS⟩ : ∃ ot, RepB j G11 (oddsW po)[n7] ot ∧ S1 ot := by
          have oB : RepAllB j G11 (oddsW po) (oddsTr) := .cons (.leaf fun _ => .int _) (.cons (.leaf fun _ => .int _) (.cons (.leaf fun _ => .int _) (.cons (.leaf fun _ => .bl _) (.cons (.leaf fun _ => .non) (.cons (.leaf fun _ => .str _) (.cons (.tup (b511.tups J5 _ _ hP) J11 (.one (.leaf fun _ => .int _))) (.cons (.leaf fun _ => .int _) (.cons (.leaf fun _ => .int _) (.cons (.leaf fun _ => .int _) (.cons (.leaf fun _ => .int _) (.one (.leaf fun _ => .bl _))))))))))))
          obtain ⟨ot, h1, h2⟩ := oB.get e7
          exact ⟨ot, h2, odds_S1 _ (List.mem_of_getElem? h1)⟩
        have iv11 := ivB.but b511
        refine hN _ _ ⟨_, .tup (((trAll (r.map PyData.int)).take n4 ++ [ot]) ++ (trAll (r.map PyData.int)).drop (n4 + 1)), rfl, b511, J11, .tup u11 J11 (((iv11.take n4).app (.one hot)).app (iv11.drop (n4 + 1))), bd.of ?_ fun u hu => ?_, fun q => ?_⟩
        · rw [List.length_append, List.length_append, List.length_take, List.length_drop, trAll_len, List.length_map]
          show min n4 r.length + 1 + (r.length - (n4 + 1)) ≤ 10
          omega
        · rcases List.mem_append.mp hu with hu | hu
          · rcases List.mem_append.mp hu with hu | hu
            · exact ints_S1 r u (List.mem_of_mem_take hu)
            · rw [List.mem_singleton.mp hu]
              exact oS
          · exact ints_S1 r u (List.mem_of_mem_drop hu)
        · exfalso
          have hd := of_decide_eq_true hd
          omega
      · exact hN _ _ ⟨_, _, rfl, .refl, J5, .tup hra5 J5 ivB, iS, fun _ => ⟨rfl, rfl⟩⟩
    rintro σ G ⟨rv, rt, rfl, bG, JG, hrv, hrt, hfix⟩
    refine seqQ (fun σ' G' => ∃ (rv : V) (rt : Tr), σ' = [some (.ref j), some (.ref b), some (.int d), some (.int n2), some (.ref ta), some (.int n3), some (.int n4), some rv, some (.ref ol)] ∧ But j G5 G' ∧ JugAt G' j ∧ RepB j G' rv rt ∧ S2 rt) (fun N hN => ?_) ?_
    · refine ⟨_, rfl, rfl, _, rfl, ite2 (fun hd => ?_) (fun hd => hN _ _ ⟨rv, rt, rfl, bG, JG, hrv, hrt⟩)⟩
      have hd4 : 4 ≤ d := by
        have hd := of_decide_eq_true hd
        injection hd with hd
        omega
      obtain ⟨rfl, rfl⟩ := hfix hd4
      have hr0 := bG.tups J5 _ _ hra5
      have iv0 := ivB.but bG
      -- row + (1,)
      refine ⟨_, rfl, by show 1 ≤ sizeLine; decide, fun p1 np1 => ?_⟩
      have t1 := same_upd (o := HO.tup [V.int 1]) np1
      refine catTu2 (hr0.same t1) Tu.up (by rw [List.length_map]; show r.length + 1 ≤ 1000; omega) fun q2 G2' t2 u2 => ?_
      have t12 := t1.trans t2
      -- row[1:]
      refine ⟨_, rfl, _, rfl, ?_⟩
      dsimp only [tNoPart]
      refine slTu (hr0.same t12) fun q3 G3' t3 u3 => ?_
      rw [show (1 : Int) = ((1 : Nat) : Int) from rfl, cutFrom (by rw [List.length_map]; omega)] at u3
      have t13 := t12.trans t3
      -- list(row)
      refine ⟨_, rfl, ra, _, rfl, .inr (hr0.same t13).sq, fun l4 nl4 => ?_⟩
      have t4 := same_upd (o := HO.lst (r.map V.int)) nl4
      have t14 := t13.trans t4
      -- (0,) * len(row)
      refine ⟨by show 1 ≤ sizeLine; decide, fun p5 np5 => ?_⟩
      have t5 := same_upd (o := HO.tup [V.int 0]) np5
      have t15 := t14.trans t5
      refine ⟨_, rfl, ra, _, rfl, .inr (hr0.same t15).sq, repTu2 (n := (r.map V.int).length) Tu.up (by decide) (by decide) (by rw [List.length_map]; omega) (by rw [List.length_map]; omega) fun q6 G6 t6 u6 => ?_⟩
      have t16 := t15.trans t6
      refine ⟨by show 0 ≤ sizeLine; decide, fun p7 np7 => ?_⟩
      have t7 := same_upd (o := HO.tup ([] : List V)) np7
      have t17 := t16.trans t7
      refine ⟨by show 8 ≤ sizeLine; decide, fun lx nlx => ?_⟩
      have s8 := same_upd (o := HO.lst [V.ref q2, .ref q3, .ref l4, .non, .ref q6, .ref p7, .str "1,0", .int 5]) nlx
      have J7 := JG.same t17
      have J8 := J7.same s8
      have hlx := (J7.ne nlx).symm
      have hl4 := ((JG.same t13).ne nl4).symm
      refine ⟨_, rfl, j, 8, rfl, by decide, by decide, J8, fun G9 d9 b9 J9 h90 h98 => ?_⟩
      obtain ⟨n9, rfl⟩ := Int.eq_ofNat_of_zero_le h90
      have b07 : But j G G9 := (But.of (t17.trans s8)).trans b9
      have hn9 : n9 < ([V.ref q2, .ref q3, .ref l4, .non, .ref q6, .ref p7, .str "1,0", .int 5] : List V).length := by show n9 < 8; omega
      have e9 := List.getElem?_eq_getElem hn9
      refine ⟨lx, _, _, _, rfl, rfl, SqL.of (b9 _ _ hlx upd_same), atI_nat e9, hN _ _ ?_⟩
      have iv9 := ivB.but (bG.trans b07)
      have il : (trAll (r.map PyData.int)).length = r.length := by rw [trAll_len, List.length_map]
      have v2 := b9.tups J8 _ _ (u2.same ((((((t3.trans t4).trans t5).trans t6).trans t7)).trans s8))
      have v3 := b9.tups J8 _ _ (u3.same (((((t4.trans t5).trans t6).trans t7)).trans s8))
      have v4 := b9 _ _ hl4 ((((t5.trans t6).trans t7).trans s8) _ _ (upd_same : (upd G3' l4 (.lst (r.map V.int))) l4 = _))
      have v6 := b9.tups J8 _ _ (u6.same (t7.trans s8))
      have v7 : Tu G9 p7 [] := b9.tups J8 _ _ ((Tu.up (xs := [])).same s8)
      have vB : RepAllB j G9 [V.ref q2, .ref q3, .ref l4, .non, .ref q6, .ref p7, .str "1,0", .int 5] [.tup (trAll (r.map PyData.int) ++ [.int 1]), .tup ((trAll (r.map PyData.int)).drop 1), .lst (trAll (r.map PyData.int)), .non, .tup (List.replicate (r.map V.int).length [Tr.int 0]).flatten, .tup [], .str "1,0", .int 5] :=
        .cons (.tup v2 J9 (iv9.app (.one (.leaf fun _ => .int _)))) (.cons (.tup v3 J9 (iv9.drop 1)) (.cons (.lst v4 hl4 iv9) (.cons (.leaf fun _ => .non) (.cons (.tup v6 J9 (RepAllB.reps (.one (.leaf fun _ => .int _)) _)) (.cons (.tup v7 J9 .nil) (.cons (.leaf fun _ => .str _) (.one (.leaf fun _ => .int _))))))))
      obtain ⟨t, h1, h2⟩ := vB.get e9
      refine ⟨_, t, rfl, bG.trans b07, J9, h2, ?_⟩
      have ht := List.mem_of_getElem? h1
      simp only [List.mem_cons, List.not_mem_nil, or_false] at ht
      rcases ht with rfl | rfl | rfl | rfl | rfl | rfl | rfl | rfl
      · refine bd.of (by rw [List.length_append, il]; show r.length + 1 ≤ 10; omega) fun u hu => ?_
        rcases List.mem_append.mp hu with hu | hu
        · exact ints_S1 r u hu
        · rw [List.mem_singleton.mp hu]
          exact bd.off rfl
      · exact bd.of (by rw [List.length_drop, il]; omega) fun u hu => ints_S1 r u (List.mem_of_mem_drop hu)
      · exact bd.off rfl
      · exact bd.off rfl
      · refine bd.of (by simp; omega) fun u hu => ?_
        obtain ⟨l, h3, h4⟩ := List.mem_flatten.mp hu
        rw [(List.mem_replicate.mp h3).2] at h4
        rw [List.mem_singleton.mp h4]
        exact bd.off rfl
      · exact bd.of (by decide) fun u hu => by cases hu
      · exact bd.off rfl
      · exact bd.off rfl
    clear hfix hrv hrt
    rintro σ G ⟨rv, rt, rfl, bG, JG, hrv, hrt⟩
    -- the talk
    have ht0 := bG.tups J5 _ _ hta5
    refine ⟨_, rfl, _, rfl, _, rfl, slTu ht0 fun p1 G1' t1 u1 => ?_⟩
    rw [cutTo (by omega)] at u1
    refine ⟨_, rfl, by show 1 ≤ sizeLine; decide, fun p2 np2 => ?_⟩
    have t2 := same_upd (o := HO.tup [rv]) np2
    refine catTu2 (u1.same t2) Tu.up (by rw [List.length_take]; show min n3 rvs.length + 1 ≤ 1000; omega) fun q3 G3' t3 u3 => ?_
    refine ⟨_, rfl, _, rfl, _, _, rfl, rfl, _, rfl, ?_⟩
    dsimp only [tNoPart]
    have t13 := (t1.trans t2).trans t3
    refine slTu (ht0.same t13) fun p4 G4' t4 u4 => ?_
    rw [show ((n3 : Nat) : Int) + 1 = ((n3 + 1 : Nat) : Int) from by omega, cutFrom (by omega)] at u4
    refine catTu2 (u3.same t4) u4 (by rw [List.length_append, List.length_take, List.length_drop]; show min n3 rvs.length + 1 + (rvs.length - (n3 + 1)) ≤ 1000; omega) fun tv G6 t5 u5 => ?_
    have t15 := (t13.trans t4).trans t5
    have B6 : But j G5 G6 := bG.trans (.of t15)
    have J6 := JG.same t15
    have tB := (((rvB.but B6).take n3).app (RepAllB.one (hrv.same t15))).app ((rvB.but B6).drop (n3 + 1))
    have hS : ∀ u ∈ (trAll (wy.map dRow)).take n3 ++ [rt] ++ (trAll (wy.map dRow)).drop (n3 + 1), S2 u := fun u hu => by
      rcases List.mem_append.mp hu with hu | hu
      · rcases List.mem_append.mp hu with hu | hu
        · exact (way_S3 wok hn4 _ rfl).2 u (List.mem_of_mem_take hu)
        · rw [List.mem_singleton.mp hu]
          exact hrt
      · exact (way_S3 wok hn4 _ rfl).2 u (List.mem_of_mem_drop hu)
    have hL : ((trAll (wy.map dRow)).take n3 ++ [rt] ++ (trAll (wy.map dRow)).drop (n3 + 1)).length = n := by
      rw [List.length_append, List.length_append, List.length_take, List.length_drop, trAll_len, List.length_map, wok.1]
      show min n3 n + 1 + (n - (n3 + 1)) = n
      omega
    generalize (trAll (wy.map dRow)).take n3 ++ [rt] ++ (trAll (wy.map dRow)).drop (n3 + 1) = tts at tB hS hL
    generalize rvs.take n3 ++ [rv] ++ rvs.drop (n3 + 1) = tvl at u5 tB
    have hV := tB.length
    have hr6 := hrv.same t15
    clear hrv
    refine seqQ (fun σ' G' => ∃ (tv' : V) (tt : Tr), σ' = [some (.ref j), some (.ref b), some (.int d), some (.int n2), some tv', some (.int n3), some (.int n4), some rv, some (.ref ol)] ∧ But j G5 G' ∧ JugAt G' j ∧ RepB j G' tv' tt ∧ S2 tt) (fun N hN => ?_) ?_
    · refine ⟨_, rfl, rfl, _, rfl, ite2 (fun hd => ?_) (fun hd => hN _ _ ⟨.ref tv, .tup tts, rfl, B6, J6, .tup u5 J6 tB, bd.of (by omega) fun u hu => s21 (hS u hu)⟩)⟩
      -- talk + talk[:1]
      refine ⟨_, rfl, _, rfl, _, rfl, slTu u5 fun q1 G1' a1 w1 => ?_⟩
      rw [show (1 : Int) = ((1 : Nat) : Int) from rfl, cutTo (by omega)] at w1
      refine catTu2 (u5.same a1) w1 (by rw [List.length_take]; omega) fun q2 G2' a2 w2 => ?_
      have a12 := a1.trans a2
      -- talk[1:]
      refine ⟨_, rfl, _, rfl, ?_⟩
      dsimp only [tNoPart]
      refine slTu (u5.same a12) fun q3 G3' a3 w3 => ?_
      rw [show (1 : Int) = ((1 : Nat) : Int) from rfl, cutFrom (by omega)] at w3
      have a13 := a12.trans a3
      -- list(talk)
      refine ⟨_, rfl, tv, _, rfl, .inr (u5.same a13).sq, fun l4 nl4 => ?_⟩
      have a4 := same_upd (o := HO.lst tvl) nl4
      have a14 := a13.trans a4
      refine ⟨by show 0 ≤ sizeLine; decide, fun p5 np5 => ?_⟩
      have a5 := same_upd (o := HO.tup ([] : List V)) np5
      have a15 := a14.trans a5
      refine ⟨_, rfl, fun d6 nd6 => ?_⟩
      have a6 := same_upd (o := HO.dK []) nd6
      have a16 := a15.trans a6
      refine ⟨by show 7 ≤ sizeLine; decide, fun lx nlx => ?_⟩
      have a7 := same_upd (o := HO.lst [V.ref q2, .ref q3, .ref l4, .non, .ref p5, rv, .ref d6]) nlx
      have J7 := (J6.same a16)
      have J8 := J7.same a7
      have hlx := (J7.ne nlx).symm
      have hl4 := ((J6.same a13).ne nl4).symm
      have hd6 := ((J6.same a15).ne nd6).symm
      refine ⟨_, rfl, j, 7, rfl, by decide, by decide, J8, fun G9 d9 b9 J9 h90 h98 => ?_⟩
      obtain ⟨n9, rfl⟩ := Int.eq_ofNat_of_zero_le h90
      have b07 : But j G6 G9 := (But.of (a16.trans a7)).trans b9
      have hn9 : n9 < ([V.ref q2, .ref q3, .ref l4, .non, .ref p5, rv, .ref d6] : List V).length := by show n9 < 7; omega
      have e9 := List.getElem?_eq_getElem hn9
      refine ⟨lx, _, _, _, rfl, rfl, SqL.of (b9 _ _ hlx upd_same), atI_nat e9, hN _ _ ?_⟩
      have tB9 := tB.but b07
      have v2 := b9.tups J8 _ _ (w2.same ((((a3.trans a4).trans a5).trans a6).trans a7))
      have v3 := b9.tups J8 _ _ (w3.same (((a4.trans a5).trans a6).trans a7))
      have v4 := b9 _ _ hl4 (((a5.trans a6).trans a7) _ _ (upd_same : (upd G3' l4 (.lst tvl)) l4 = _))
      have v5 : Tu G9 p5 [] := b9.tups J8 _ _ ((Tu.up (xs := [])).same (a6.trans a7))
      have v6 := b9 _ _ hd6 (a7 _ _ (upd_same : (upd _ d6 (HO.dK [])) d6 = _))
      have vB : RepAllB j G9 [V.ref q2, .ref q3, .ref l4, .non, .ref p5, rv, .ref d6] [.tup (tts ++ tts.take 1), .tup (tts.drop 1), .lst tts, .non, .tup [], rt, .dic] :=
        .cons (.tup v2 J9 (tB9.app (tB9.take 1))) (.cons (.tup v3 J9 (tB9.drop 1)) (.cons (.lst v4 hl4 tB9) (.cons (.leaf fun _ => .non) (.cons (.tup v5 J9 .nil) (.cons (hr6.but b07) (.one (.dic v6 hd6)))))))
      obtain ⟨t, h1, h2⟩ := vB.get e9
      refine ⟨_, t, rfl, B6.trans b07, J9, h2, ?_⟩
      have ht := List.mem_of_getElem? h1
      simp only [List.mem_cons, List.not_mem_nil, or_false] at ht
      rcases ht with rfl | rfl | rfl | rfl | rfl | rfl | rfl
      · refine bd.of (by rw [List.length_append, List.length_take]; omega) fun u hu => s21 ?_
        rcases List.mem_append.mp hu with hu | hu
        · exact hS u hu
        · exact hS u (List.mem_of_mem_take hu)
      · exact bd.of (by rw [List.length_drop]; omega) fun u hu => s21 (hS u (List.mem_of_mem_drop hu))
      · exact bd.off rfl
      · exact bd.off rfl
      · exact bd.of (by decide) fun u hu => by cases hu
      · exact hrt
      · exact bd.off rfl
    clear tB hS hV hL u5 hr6 hrt
    rintro σ G ⟨tv', tt, rfl, bG, JG, htv, htt⟩
    have hb0 := bG.tups J5 _ _ hb5
    have tv0 := tvB.but bG
    have wS := ways_S3 hw hn4
    have wL : (trAll (ws.map dWay)).length = ws.length := by rw [trAll_len, List.length_map]
    refine ⟨_, rfl, rfl, _, rfl, ite2 (fun hd => ?_) (fun hd => ?_)⟩
    · -- list(talks)
      refine ⟨_, rfl, b, _, rfl, .inr hb0.sq, fun l1 nl1 => ?_⟩
      have a1 := same_upd (o := HO.lst tvs) nl1
      refine ⟨by show 0 ≤ sizeLine; decide, fun p2 np2 => ?_⟩
      have a2 := same_upd (o := HO.tup ([] : List V)) np2
      have a12 := a1.trans a2
      refine ⟨_, rfl, ?_⟩
      dsimp only [tC]
      refine repTu2 (n := 7) (hb0.same a12) (by omega) (by omega) (by decide) (by decide) fun q3 G3' a3 w3 => ?_
      have a13 := a12.trans a3
      have e0 : tvs[0]? = some tvs[0] := List.getElem?_eq_getElem (by omega)
      refine ⟨_, rfl, b, tvs, _, _, rfl, rfl, (hb0.same a13).sq, atI_nat (j := 0) e0, fun d4 nd4 => ?_⟩
      have a4 := same_upd (o := HO.dK []) nd4
      have a14 := a13.trans a4
      refine ⟨by show 7 ≤ sizeLine; decide, fun lx nlx => ?_⟩
      have a5 := same_upd (o := HO.lst [V.ref l1, .non, .ref p2, .ref q3, tvs[0], .str "", .ref d4]) nlx
      have J7 := JG.same a14
      have J8 := J7.same a5
      have hlx := (J7.ne nlx).symm
      have hl1 := (JG.ne nl1).symm
      have hd4 := ((JG.same a13).ne nd4).symm
      refine ⟨_, rfl, j, 7, rfl, by decide, by decide, J8, fun G9 d9 b9 J9 h90 h98 => ?_⟩
      obtain ⟨n9, rfl⟩ := Int.eq_ofNat_of_zero_le h90
      have b07 : But j G G9 := (But.of (a14.trans a5)).trans b9
      have hn9 : n9 < ([V.ref l1, .non, .ref p2, .ref q3, tvs[0], .str "", .ref d4] : List V).length := by show n9 < 7; omega
      have e9 := List.getElem?_eq_getElem hn9
      refine ⟨lx, _, _, _, rfl, rfl, SqL.of (b9 _ _ hlx upd_same), atI_nat e9, ?_⟩
      have tB9 := tv0.but b07
      have v1 := b9 _ _ hl1 ((((a2.trans a3).trans a4).trans a5) _ _ (upd_same : (upd G l1 (.lst tvs)) l1 = _))
      have v2 : Tu G9 p2 [] := b9.tups J8 _ _ ((Tu.up (xs := [])).same ((a3.trans a4).trans a5))
      have v3 := b9.tups J8 _ _ (w3.same (a4.trans a5))
      have v4 := b9 _ _ hd4 (a5 _ _ (upd_same : (upd _ d4 (HO.dK [])) d4 = _))
      obtain ⟨t0, ht0, hrt0⟩ := tB9.get e0
      have vB : RepAllB j G9 [V.ref l1, .non, .ref p2, .ref q3, tvs[0], .str "", .ref d4] [.lst (trAll (ws.map dWay)), .non, .tup [], .tup (List.replicate 7 (trAll (ws.map dWay))).flatten, t0, .str "", .dic] :=
        .cons (.lst v1 hl1 tB9) (.cons (.leaf fun _ => .non) (.cons (.tup v2 J9 .nil) (.cons (.tup v3 J9 (tB9.reps 7)) (.cons hrt0 (.cons (.leaf fun _ => .str _) (.one (.dic v4 hd4)))))))
      obtain ⟨t, h1, h2⟩ := vB.get e9
      refine k G9 _ t (B5.trans (bG.trans b07)) J9 h2 ?_
      have ht := List.mem_of_getElem? h1
      simp only [List.mem_cons, List.not_mem_nil, or_false] at ht
      rcases ht with rfl | rfl | rfl | rfl | rfl | rfl | rfl
      · exact bd.off rfl
      · exact bd.off rfl
      · exact bd.of (by decide) fun u hu => by cases hu
      · refine bd.of (by simp [wL]; omega) fun u hu => ?_
        obtain ⟨l, h3, h4⟩ := List.mem_flatten.mp hu
        rw [(List.mem_replicate.mp h3).2] at h4
        exact s32 (wS u h4)
      · exact (wS _ (List.mem_of_getElem? ht0)).mono (by decide) fun _ h => h
      · exact bd.off rfl
      · exact bd.off rfl
    · refine ⟨_, rfl, _, rfl, _, rfl, slTu hb0 fun p1 G1' t1 u1 => ?_⟩
      rw [cutTo (by omega)] at u1
      refine ⟨_, rfl, by show 1 ≤ sizeLine; decide, fun p2 np2 => ?_⟩
      have t2 := same_upd (o := HO.tup [tv']) np2
      refine catTu2 (u1.same t2) Tu.up (by rw [List.length_take]; show min n2 tvs.length + 1 ≤ 1000; omega) fun q3 G3' t3 u3 => ?_
      refine ⟨_, rfl, _, rfl, _, _, rfl, rfl, _, rfl, ?_⟩
      dsimp only [tNoPart]
      have t13 := (t1.trans t2).trans t3
      refine slTu (hb0.same t13) fun p4 G4' t4 u4 => ?_
      rw [show ((n2 : Nat) : Int) + 1 = ((n2 + 1 : Nat) : Int) from by omega, cutFrom (by omega)] at u4
      refine catTu2 (u3.same t4) u4 (by rw [List.length_append, List.length_take, List.length_drop]; show min n2 tvs.length + 1 + (tvs.length - (n2 + 1)) ≤ 1000; omega) fun q5 G5' t5 u5 => ?_
      have t15 := (t13.trans t4).trans t5
      have J6' := JG.same t15
      have tB := (((tv0.same t15).take n2).app (RepAllB.one (htv.same t15))).app ((tv0.same t15).drop (n2 + 1))
      refine k _ _ _ (B5.trans (bG.trans (.of t15))) J6' (.tup u5 J6' tB) (bd.of ?_ fun u hu => ?_)
      · rw [List.length_append, List.length_append, List.length_take, List.length_drop, wL]
        show min n2 ws.length + 1 + (ws.length - (n2 + 1)) ≤ 60
        omega
      · rcases List.mem_append.mp hu with hu | hu
        · rcases List.mem_append.mp hu with hu | hu
          · exact s32 (wS u (List.mem_of_mem_take hu))
          · rw [List.mem_singleton.mp hu]
            exact htt
        · exact s32 (wS u (List.mem_of_mem_drop hu))
end
end M

namespace M
open PySem L2 U
theorem pool_ok : ∀ x ∈ pool8, nameB x = true ∧ x.length ≤ 8 := by decide +kernel
theorem drawn_minds {ms : List Str} {ws : List (List (List Int))} (d : Drawn ms ws) : MindsOk ms := ⟨d.m1, d.m6, d.nd, fun x hx => pool_ok x (d.pool x hx)⟩
theorem sh_row {n : Nat} {r : List Int} (h : RowOk n r) (hn : n ≤ 6) : Sh (dRow r) 6 1 := by
  refine (Sh.tup (ShA.map (c := 0) (n := 0) (f := PyData.int) (l := r) fun x hx => Sh.int ?_)).mono ?_ (Nat.le_refl _)
  · have := h.2.1 x hx
    have e : (10 : Nat) ^ 12 = 1000000000000 := by decide
    omega
  · have := h.1
    omega
theorem sh_way {n : Nat} {w : List (List Int)} (h : WayOk n w) (hn : n ≤ 6) : Sh (dWay w) 42 2 := by
  refine (Sh.tup (ShA.map (c := 6) (n := 1) (f := dRow) (l := w) fun x hx => sh_row (h.2 x hx) hn)).mono ?_ (Nat.le_refl _)
  have := h.1
  omega
theorem sh_ways {n : Nat} {ws : List (List (List Int))} (h : WaysOk n ws) : Sh (dWays ws) 258 3 := by
  refine (Sh.tup (ShA.map (c := 42) (n := 2) (f := dWay) (l := ws) fun x hx => sh_way (h.way x hx) h.n6)).mono ?_ (Nat.le_refl _)
  have := h.w6
  omega
theorem ways_shw {n : Nat} {ws : List (List (List Int))} (h : WaysOk n ws) : Shw (dWays ws) := (sh_ways h).w (by decide) (by decide)
section
variable {K : PySem.W.Frag} {c : Nat → Addr} {C : Addr} {E : XK} {H HZ : Hp} {Q : VK} {σ : L2.St} {hv tv y : V} {t : Tr} {ms : List Str} {ws : List (List (List Int))}
def tb1 (C c7 : Addr) (E : XK) : TE := tProp C (getSp C "_ways") [] E0 (tMake C (spCI7 C c7) [] E (tCons (tVar 2) (tCons (tVar 4) tNil)))
def tb2 (C c7 : Addr) (E : XK) : TE := tProp C (getSp C "_ways") [] E0 (tMakeK C 0 (["ways", "minds"] : List Str).length (spCI7 C c7) kwV E tNil (tCons (tVar 4) (tCons (tVar 2) tNil)))
def IdxOk (y : V) : Prop := y = .non ∨ ∃ n : Nat, n ≤ 6 ∧ y = .int n
theorem idx_vw (h : IdxOk y) : Vw K H y (idxT y) := by
  rcases h with rfl | ⟨n, hn, rfl⟩
  · exact Vw.of .non (shw_of0 (by decide +kernel))
  · exact Vw.of (.int _) (shw_small (by omega))
theorem idx_len (h : IdxOk y) : (idxT y).length ≤ sizeLine := by
  rcases h with rfl | ⟨n, hn, rfl⟩
  · decide +kernel
  · exact (shw_small (i := n) (by omega)).fit
theorem new2 {x dx : Addr} (nx : H x = none) (nd : H dx = none) : Same H (upd (upd H dx (.own x)) x (.ins C dx [])) := fun b o e => by
  rw [upd_ne (ne_of_none e nx), upd_ne (ne_of_none e nd)]
  exact e
theorem init_bad (im : Im HZ hv (dMinds ms)) (mo : MindsOk ms) (rp : Rep HZ tv t) (sm : thSmall t) (hb : ThB ms.length t y) (hi : IdxOk y) (hoc : ocP K c (.bad 7 (idxT y)) E HZ Q) {x dx : Addr} {Q' : VK} (nx : HZ x = none) (nd : HZ dx = none) : spCI7 C (c 7) [.ref x, hv, tv] (upd (upd HZ dx (.own x)) x (.ins C dx [])) Q' E := by
  have s := new2 (C := C) nx nd
  refine .inr ⟨x, dx, hv, tv, ms, rfl, Im.mono (Same.tups s) _ _ im, mo, fun H' s' => ⟨tv, t, ms.length, rfl, (rp.same s).same s', by have := mo.m6; omega, ?_⟩⟩
  have kr : raiseW (c 7) y H' E := fun d H2 s2 hd => hoc d y H2 ((s.trans s').trans s2) hd (idx_vw hi)
  rcases hb with ⟨h1, rfl⟩ | ⟨h1, rfl⟩ | ⟨ts, i, h1, h2, rfl⟩
  · exact .inl ⟨h1, kr⟩
  · exact .inr (.inl ⟨h1, kr⟩)
  · exact .inr (.inr ⟨ts, i, h1, h2, fun u hu => (sm ts h1).2 u hu, kr⟩)
theorem lam1_bad (h2 : σ[2]? = some (some hv)) (h4 : σ[4]? = some (some tv)) (im : Im HZ hv (dMinds ms)) (mo : MindsOk ms) (rp : Rep HZ tv t) (sm : thSmall t) (hb : ThB ms.length t y) (hi : IdxOk y) (hoc : ocP K c (.bad 7 (idxT y)) E HZ Q) : tb1 C (c 7) E σ HZ Q :=
  ⟨_, h2, _, h4, fun x dx nx nd _ => init_bad im mo rp sm hb hi hoc nx nd⟩
theorem lam2_bad (h2 : σ[2]? = some (some hv)) (h4 : σ[4]? = some (some tv)) (im : Im HZ hv (dMinds ms)) (mo : MindsOk ms) (rp : Rep HZ tv t) (sm : thSmall t) (hb : ThB ms.length t y) (hi : IdxOk y) (hoc : ocP K c (.bad 7 (idxT y)) E HZ Q) : tb2 C (c 7) E σ HZ Q :=
  ⟨_, h4, _, h2, rfl, rfl, fun x dx nx nd _ => init_bad im mo rp sm hb hi hoc nx nd⟩
theorem init_told (im : Im HZ hv (dMinds ms)) (mo : MindsOk ms) (iw : Im HZ tv (dWays ws)) (wo : WaysOk ms.length ws) (hoc : ocP K c (.told (dWays ws).shown) E HZ Q) {x dx : Addr} (nx : HZ x = none) (nd : HZ dx = none) : spCI7 C (c 7) [.ref x, hv, tv] (upd (upd HZ dx (.own x)) x (.ins C dx [])) (fun u H2 => u = .non ∧ ∃ a dx fs, V.ref x = .ref a ∧ H2 a = some (.ins C dx fs) ∧ getSp C "_ways" (.ref a :: []) H2 Q E0) E := by
  have s := new2 (C := C) nx nd
  refine .inl ⟨x, dx, hv, tv, ms, ws, rfl, upd_same, Im.mono (Same.tups s) _ _ im, Im.mono (Same.tups s) _ _ iw, mo, wo, fun H' kp cat => ⟨rfl, ?_⟩⟩
  obtain ⟨dx2, h⟩ := cat.ob
  have s2 : Same HZ H' := fun b o e => kp b o (ne_of_none e nx) (s b o e)
  exact ⟨x, dx2, _, rfl, h, x, dx2, _, _, rfl, h, cf_w _ _, hoc tv H' s2 (Vw.of (Im.dp _ _ (Im.mono (Same.tups s2) _ _ iw)) (ways_shw wo))⟩
theorem lam1_told (h2 : σ[2]? = some (some hv)) (h4 : σ[4]? = some (some tv)) (im : Im HZ hv (dMinds ms)) (mo : MindsOk ms) (iw : Im HZ tv (dWays ws)) (wo : WaysOk ms.length ws) (hoc : ocP K c (.told (dWays ws).shown) E HZ Q) : tb1 C (c 7) E σ HZ Q :=
  ⟨_, h2, _, h4, fun x dx nx nd _ => init_told im mo iw wo hoc nx nd⟩
theorem lam2_told (h2 : σ[2]? = some (some hv)) (h4 : σ[4]? = some (some tv)) (im : Im HZ hv (dMinds ms)) (mo : MindsOk ms) (iw : Im HZ tv (dWays ws)) (wo : WaysOk ms.length ws) (hoc : ocP K c (.told (dWays ws).shown) E HZ Q) : tb2 C (c 7) E σ HZ Q :=
  ⟨_, h4, _, h2, rfl, rfl, fun x dx nx nd _ => init_told im mo iw wo hoc nx nd⟩
end
end M

namespace M
open PySem L2 U
abbrev sRight : Stmt := top 46
abbrev nRight : List Str := ["_law_jug_here", "_law_again", "_law_heads_here", "_law_talks", "_law_thing", "_law_due_here", "_law_acts"]
abbrev pRight : List Str := ["_law_jug_here"]
theorem scRight : FnScope nRight pRight (defScope sRight) := ⟨rfl, rfl, rfl, by decide +kernel, rfl, by decide +kernel, by decide +kernel⟩
theorem But.upd {G : Hp} {a : Addr} {o : HO} : But a G (upd G a o) := fun b u n e => by rw [upd_ne n]; exact e
theorem tabs_lst {T : List (Addr × Str)} {H H' : Hp} {j : Addr} {xs : List V} (t : LamX.Tabs T H) (b : But j H H') (e : H j = some (.lst xs)) : LamX.Tabs T H' := fun p hp => by
  obtain ⟨ps, h1, h2, h3⟩ := t p hp
  have off : ∀ {c : Addr} {o : HO}, H c = some o → (∀ xs, o ≠ .lst xs) → c ≠ j := fun {c o} q n w => by
    rw [w, e] at q
    cases q
    exact n _ rfl
  refine ⟨ps, b _ _ (off h1 fun xs z => by cases z) h1, h2, fun pos cv hc => ?_⟩
  obtain ⟨c, e1, e2⟩ := h3 pos cv hc
  refine ⟨c, e1, b _ _ (off e2 fun xs z => ?_) e2⟩
  unfold LamX.CodeO at z
  cases z
structure Rn (T : List (Addr × Str)) (H G : Hp) (j : Addr) : Prop where
  b : ButT j H G
  jug : JugAt G j
  tabs : LamX.Tabs T G
theorem Rn.but {T : List (Addr × Str)} {H G G' : Hp} {j : Addr} (r : Rn T H G j) (b : But j G G') (J : JugAt G' j) : Rn T H G' j := ⟨r.b.trans (.of b), J, tabs_but r.tabs b r.jug⟩
theorem Rn.same {T : List (Addr × Str)} {H G G' : Hp} {j : Addr} (r : Rn T H G j) (s : Same G G') : Rn T H G' j := by
  obtain ⟨x, y, z, e, q⟩ := r.jug
  exact ⟨r.b.trans (.same s), ⟨x, y, z, s _ _ e, q⟩, r.tabs.ext s⟩
theorem Rn.ext {T : List (Addr × Str)} {H G G' : Hp} {j : Addr} (r : Rn T H G j) (s : LamX.ExtN G G') (tb : LamX.Tabs T G') : Rn T H G' j := by
  obtain ⟨x, y, z, e, q⟩ := r.jug
  exact ⟨r.b.trans (.ext s), ⟨x, y, z, s _ _ e (fun _ w => by cases w), q⟩, tb⟩
theorem Rn.put {T : List (Addr × Str)} {H G1 G2 : Hp} {j al : Addr} {xs ys : List V} (r1 : Rn T H G1 j) (na : G1 al = none) (r2 : Rn T H G2 j) (e2 : G2 al = some (.lst xs)) : Rn T H (upd G2 al (.lst ys)) j := by
  have ne : ∀ {b : Addr} {o : HO}, G1 b = some o → b ≠ al := fun {b o} e => ne_of_none e na
  obtain ⟨x1, y1, z1, ej1, _⟩ := r1.jug
  obtain ⟨x2, y2, z2, ej2, q2⟩ := r2.jug
  have up : ∀ {b : Addr} {o u : HO}, G1 b = some o → G2 b = some u → upd G2 al (.lst ys) b = some u := fun {b o u} e1 e => by rw [upd_ne (ne e1)]; exact e
  exact ⟨fun b o n e q => up (r1.b b o n e q) (r2.b b o n e q), ⟨x2, y2, z2, up ej1 ej2, q2⟩, tabs_lst r2.tabs But.upd e2⟩
theorem lam_ext {G G' : Hp} {f : Addr} {L : LamD} (x : LamAt G f L) (s : LamX.ExtN G G') : LamAt G' f L := x.but fun b o _ nt e => s b o e nt
theorem lam_put {G : Hp} {f al : Addr} {L : LamD} {xs : List V} {o : HO} (x : LamAt G f L) (e : G al = some (.lst xs)) : LamAt (upd G al o) f L := x.but fun b u nl _ q => by
  rw [upd_ne (fun z => by rw [z, e] at q; cases q; exact nl _ rfl)]
  exact q
theorem ext_put {G1 G3 : Hp} {al : Addr} {o u : HO} (na : G1 al = none) (s : LamX.ExtN (upd G1 al o) G3) : LamX.ExtN G1 (upd G3 al u) := fun b q e nt => by
  have ne := ne_of_none e na
  rw [upd_ne ne]
  exact s b q (by rw [upd_ne ne]; exact e) nt
theorem actF {X : Cx} {c : Nat → Addr} {S : Nat → Prop} {σ : L2.St} {H : Hp} {f : Addr} {x z : Str} {L : LamD} (tb : XK → TE) (oc : Oc) (at_ : LamAt H f L) (Z : LamSpec X 19 L tb) (hS : ocS S oc) (hx : ocW oc = x) (hz : ocZ oc = z) (h : ∀ E HZ Q', Same H HZ → ocP X.K c oc E HZ Q' → tb E σ HZ Q') :
    ∃ (L : LamD) (tb : XK → TE) (oc : Oc), LamSpec X 19 L tb ∧ LamAt H f L ∧ ocS S oc ∧ ocW oc = x ∧ ocZ oc = z ∧ ∀ E HZ Q', Same H HZ → ocP X.K c oc E HZ Q' → tb E σ HZ Q' := ⟨L, tb, oc, Z, at_, hS, hx, hz, h⟩
theorem small_of {t : Tr} (h : bd 100 S2 t) : thSmall t := fun ts e => ⟨(h ts e).1, fun u hu us e2 => ⟨by have := ((h ts e).2 u hu us e2).1; omega, fun v hv ws e3 => by have := (((h ts e).2 u hu us e2).2 v hv ws e3).1; omega⟩⟩
def spRight (T : List (Addr × Str)) : Sp := fun vs H Q _ => ∃ (j : Addr), vs = [.ref j] ∧ JugAt H j ∧ LamX.Tabs T H ∧ ∀ H', ButT j H H' → LamX.Tabs T H' → Q (.bl true) H'
section
variable {P : Program} {w : World} {K : PySem.W.Frag} {mg : Str → Option Value} {base : Heap} {c W : Nat → Addr} {C cR PT : Addr}
abbrev TT (PT : Addr) : List (Addr × Str) := [(PT, "_law_right.<locals>.<lambda>")]
theorem ok_right {f : Addr} {fd : FuncData} (F : FunC K "_law_right" "_law_right" sRight f fd cR) (T : Bt mg) (TB : LamX.TabB base mg cR PT) (DSip : M.DSip P w K mg base) (DP : DefX P w K mg base 5 "_law_pair" ["_law_jug_here", "_law_most_here"] spPair) (DB : DefX P w K mg base 3 "_law_bent" pBent spBent) (DD : DefG P w K mg base 3 "_law_due" pDue spDue) (DI : DefS P w K mg base 22 "_law_is_ended" pIsE (spIsE P w K mg base c (fun i => i = 7)))
    (MK : MkE P w K mg base "Council" C 11 pCIn (spCI7 C (c 7)) ["ways", "minds"] kwL kwV) (gW : GetN P w K mg base C "ways" 1 (getSp C "_ways")) (cl : Cls K C) : FnG P w K mg base CX0 24 f fd pRight (spRight (TT PT)) := by
  refine fnG_ofC F scRight (fun vs H Q E h => ?_) (fun A outer s H vs Q E hg hr h => ?_)
  · obtain ⟨j, rfl, _⟩ := h
    rfl
  · obtain ⟨j, rfl, J, tabs, k⟩ := h
    have nd : ((PyProof.Rows.envOfC "_law_right" (defScope sRight) s.heap.objs.size f (.ref cR)).cells.map (·.1)).Nodup := by
      have e : (PyProof.Rows.envOfC "_law_right" (defScope sRight) s.heap.objs.size f (.ref cR)).cells.map (·.1) = (["_law_heads_here", "_law_thing"] : List Str) ∨ (PyProof.Rows.envOfC "_law_right" (defScope sRight) s.heap.objs.size f (.ref cR)).cells.map (·.1) = (["_law_thing", "_law_heads_here"] : List Str) := by
        first
          | exact .inl rfl
          | exact .inr rfl
      rcases e with e | e <;> (rw [e]; decide +kernel)
    have hf : ∀ y b, (PyProof.Rows.envOfC "_law_right" (defScope sRight) s.heap.objs.size f (.ref cR)).cells.lookup y = some b → s.heap.objs.size ≤ b := fun y b e => cellsAt e
    refine ⟨_, (pss_cons (ps_for PassesOwn.never rfl (pi_range1 rfl T.range (pa_cons pe_int pa_nil)) (pg_name (i := 1) scRight.nd rfl (Or.inl rfl))
        (pss_cons (ps_asg (pe_fn DP hr (by decide) (pa_cons (pv 0) (pa_cons pe_int pa_nil))) (pg_unl (by rfl) (pgs_cons (pg_name (i := 2) scRight.nd rfl (Or.inr rfl)) (pgs_cons (pg_name (i := 3) scRight.nd rfl (Or.inl rfl)) pgs_nil))))
      (pss_cons (ps_set (i := 4) scRight.nd rfl (Or.inr rfl) (pe_fn DB hr (by decide) (pa_cons (pv 0) (pa_cons (pv 3) pa_nil))))
      (pss_cons (ps_if (PW.pt (pw_and (pt_val (pe_callB (isiQ K) (by rfl) T.isinstance (by decide +kernel) (pa_cons (pv 4) (pa_cons (pe_bltn (v := .ty "tuple") (u := .type "tuple") (by rfl) T.tuple (by decide +kernel) rfl) pa_nil)))) (pw_and1 (pt_cmpR op_eq (pe_fn DSip hr (by decide) (pa_cons (pv 0) (pa_cons pe_int pa_nil))) pe_int (nomark _)))))
        (pss_one (ps_set (i := 4) scRight.nd rfl (Or.inr rfl) (pe_op (catA K) (pv 3) (pv 4)))) pss_nil)
      (pss_cons (ps_set (i := 5) scRight.nd rfl (Or.inl rfl) (pe_fnG DD hg hr (by decide) (pa_cons (pv 4) (pa_cons (pe_callB (lenQ K) (by rfl) T.len (by decide +kernel) (pa_cons (pv 2) pa_nil)) pa_nil))))
      (pss_cons (ps_set (i := 6) scRight.nd rfl (Or.inl rfl) (pe_lst (pa_cons (pe_lam TB rfl (List.mem_singleton.mpr rfl) (fun p hp _ => by rw [List.mem_singleton.mp hp] <;> rfl) (S := LamX.lamS_by (show LamX.lamSB (defScope sRight) _ = true from by decide +kernel))) pa_nil)))
      (pss_cons (ps_expr (pbm K PySem.F.plainAttrs_list PySem.F.slot_list_append PySem.F.type_list_append mt_append (pv 6) (pa_cons (pe_lam TB rfl (List.mem_singleton.mpr rfl) (fun p hp _ => by rw [List.mem_singleton.mp hp] <;> rfl) (S := LamX.lamS_by (show LamX.lamSB (defScope sRight) _ = true from by decide +kernel))) pa_nil)))
      (pss_one (ps_if (pt_not (pt_val (pe_isE DI nd hf hg hr (by decide) (pa_cons (pv 6) (pa_cons (pe_ifExp (pt_cmpR op_isN (pv 5) pe_non (nomark _)) (pe_lst (pa_cons pe_str (pa_cons (pe_callB (reprV K hg hr.units) (by rfl) T.repr (by decide +kernel) (pa_cons (pv 4) pa_nil)) pa_nil))) (pv 5)) pa_nil)))))
        (pss_one (ps_ret pe_bl)) pss_nil)))))))))
      (pss_one (ps_ret pe_bl))), ?_⟩
    have R0 : Rn (TT PT) H H j := ⟨.refl, J, tabs⟩
    refine ⟨8, rfl, by decide, by decide, for_range (lo := 0) (n := 8) (fun i σ G => ∃ v1 v2 v3 v4 v5 v6 : Option V, σ = [some (.ref j), v1, v2, v3, v4, v5, v6] ∧ Rn (TT PT) H G j) ⟨none, none, none, none, none, none, rfl, R0⟩ ?_ ?_⟩
    · rintro i σ G hi ⟨v1, v2, v3, v4, v5, v6, rfl, R⟩
      refine ⟨_, rfl, j, 4, rfl, by decide, by decide, R.jug, fun G1 p a b ms ws b1 J1 np hp im iw dr hm _ => ?_⟩
      have R1 := R.but b1 J1
      have mo := drawn_minds dr
      have m1 := mo.m1
      refine ⟨p, _, rfl, SqL.of hp, rfl, _, _, rfl, _, _, rfl, rfl, ?_⟩
      refine ⟨_, rfl, _, rfl, j, .ref b, ms.length, ws, rfl, J1, iw, m1, by omega, dr.w1, dr.w4, dr.way, fun G2 tv t b2 J2 hB hS => ?_⟩
      have R2 := R1.but b2 J2
      have im2 := Im.mono (b2.tups J1) _ _ im
      have iw2 := Im.mono (b2.tups J1) _ _ iw
      have wl : (trAll (ws.map dWay)).length = ws.length := by rw [trAll_len, List.length_map]
      dsimp only
      refine seqQ (fun σ' G' => ∃ (tv : V) (t : Tr), σ' = [some (.ref j), some (.int (0 + (i : Int))), some (.ref a), some (.ref b), some tv, v5, v6] ∧ Rn (TT PT) H G' j ∧ Im G' (.ref a) (dMinds ms) ∧ Rep G' tv t ∧ thSmall t) (fun N hN => ?_) ?_
      · refine ⟨_, rfl, _, _, _, _, isTup t, rfl, .ty _, hB.rep.tyx, kitTup K t, _, rfl, ?_⟩
        have sm2 := small_of (hS.mono (by decide) fun _ h => h)
        cases ht : isTup t with
        | false => exact iteF (hN _ _ ⟨tv, t, rfl, R2, im2, hB.rep, sm2⟩)
        | true =>
          refine iteT ⟨_, rfl, j, 4, rfl, by decide, by decide, R2.jug, fun G3 d3 b3 J3 _ _ => ⟨rfl, _, rfl, ite2 (fun _ => ?_) (fun _ => hN _ _ ⟨tv, t, rfl, R2.but b3 J3, Im.mono (b3.tups J2) _ _ im2, (hB.but b3).rep, sm2⟩)⟩⟩
          cases t with
          | tup ts =>
            have iw3 := Im.mono (b3.tups J2) _ _ iw2
            have im3 := Im.mono (b3.tups J2) _ _ im2
            obtain ⟨b', tvs, e, hb, hall⟩ := iw3.tuple
            cases e
            have hl := hall.length
            rw [List.length_map] at hl
            have w4 := dr.w4
            have l60 := (hS ts rfl).1
            cases (hB.but b3).rep with
            | @tup ta vs _ ha rs =>
              have rl := rs.length
              refine ⟨_, rfl, _, rfl, catTu2 hb ha (by omega) fun q G4 t4 u4 => hN _ _ ⟨.ref q, .tup (trAll (ws.map dWay) ++ ts), rfl, (R2.but b3 J3).same t4, Im.mono (Same.tups t4) _ _ im3, .tup u4 (RepAll.app (rs.same t4) (ImAll.rep _ _ (ImAll.mono (Same.tups t4) _ _ hall))), small_of (bd.of (by rw [List.length_append, wl]; omega) fun u hu => ?_)⟩⟩
              rcases List.mem_append.mp hu with hu | hu
              · exact s32 (ways_S3 (n := ms.length) dr.way (by omega) u hu)
              · exact (hS ts rfl).2 u hu
          | _ => cases ht
      clear hB hS iw2 im2 R2 R1 R
      rintro σ G ⟨tv, t, rfl, R, im, rp, sm⟩
      obtain ⟨a', xs, e, ha, hall⟩ := im.tuple
      cases e
      have := hall.strs
      subst this
      refine ⟨_, rfl, _, rfl, a, _, rfl, .inr ha.sq, ?_⟩
      rw [List.length_map]
      refine ⟨tv, t, ms.length, rfl, rp, sm, ?_⟩
      rcases thing_cases ms.length t with ⟨y, hb, hi⟩ | ok
      · refine .inl ⟨y, hb, fun G3 pd s1 npd hpd3 => ?_⟩
        have R3 := R.same s1
        have rp3 := rp.same s1
        have im3 := Im.mono (Same.tups s1) _ _ im
        refine ⟨R3.tabs, fun A1 f1 x1 tb1' nf1 at1 => ⟨by show 1 ≤ sizeLine; decide, fun al nal => ?_⟩⟩
        have RA1 := R3.ext x1 tb1'
        have sal := same_upd (o := HO.lst [.ref f1]) nal
        have RA2 := RA1.same sal
        refine ⟨_, rfl, .inl ⟨rfl, _, SqL.of upd_same⟩, RA2.tabs, fun A3 f2 x3 tb3' nf2 at2 => ?_⟩
        have RA3 := RA2.ext x3 tb3'
        have eal : A3 al = some (.lst [.ref f1]) := x3 _ _ upd_same (fun _ z => by cases z)
        refine ⟨al, [.ref f1], .ref f2, rfl, rfl, eal, by show 1 < sizeLine; decide, ?_⟩
        have RA4 : Rn (TT PT) H (upd A3 al (.lst ([.ref f1] ++ [.ref f2]))) j := RA1.put nal RA3 eal
        have x14 : LamX.ExtN A1 (upd A3 al (.lst ([.ref f1] ++ [.ref f2]))) := ext_put nal x3
        have at1' := lam_ext at1 x14
        have at2' := lam_put (o := .lst ([.ref f1] ++ [.ref f2])) at2 eal
        have x34 := x1.trans x14
        have rp4 := Rep.ext x34 t rp3
        have im4 : Im (upd A3 al (.lst ([.ref f1] ++ [.ref f2]))) (.ref a) (dMinds ms) := Im.mono (fun b xs h => tu_ext h x34) _ _ im3
        have hpd4 := x34 _ _ hpd3 (fun _ z => by cases z)
        have hal4 : (upd A3 al (.lst ([.ref f1] ++ [.ref f2]))) al = some (.lst ([f1, f2].map V.ref)) := upd_same
        generalize (upd A3 al (.lst ([.ref f1] ++ [.ref f2]))) = A4 at RA4 at1' at2' rp4 im4 hpd4 hal4 ⊢
        refine ⟨_, rfl, _, rfl, rfl, _, rfl, iteF ⟨_, rfl, al, pd, [f1, f2], "ways", idxT y, rfl, hal4, by show 2 ≤ 10; decide, hpd4, idx_len hi, fun g hg' => ?_, fun G5 s5 => ⟨_, rfl, ?_⟩⟩⟩
        · rcases List.mem_cons.mp hg' with rfl | hg'
          · exact actF (tb1 C (c 7)) (.bad 7 (idxT y)) at1' ⟨rfl, LamX.lamS_by (by kernel_rfl), fun _ _ _ => rfl, fun A' o' s' H' E' f' c' hg' hr' => pe_prp gW cl hr' (by decide) (pe_mkE takesL MK hr' (by decide) (pa_cons (pv 2) (pa_cons (pv 4) pa_nil)))⟩ rfl rfl rfl (fun E' HZ Q' s' hoc => lam1_bad rfl rfl (Im.mono (Same.tups s') _ _ im4) mo (rp4.same s') sm hb hi hoc)
          · have hg' : g = f2 := by simpa using hg'
            subst hg'
            exact actF (tb2 C (c 7)) (.bad 7 (idxT y)) at2' ⟨rfl, LamX.lamS_by (by kernel_rfl), fun _ _ _ => rfl, fun A' o' s' H' E' f' c' hg' hr' => pe_prp gW cl hr' (by decide) (pe_mkKE takesL MK hr' (by decide) (pk_cons (pv 4) (pk_cons (pv 2) pk_nil)))⟩ rfl rfl rfl (fun E' HZ Q' s' hoc => lam2_bad rfl rfl (Im.mono (Same.tups s') _ _ im4) mo (rp4.same s') sm hb hi hoc)
        refine iteF ⟨_, _, _, _, _, _, rfl, RA4.same s5⟩
      · refine .inr ⟨ok, fun G3 s1 => ?_⟩
        obtain ⟨ts, rfl, h1, h2, h3⟩ := ok
        obtain ⟨ws', wo', wim⟩ := thing_im h1 h2 h3 mo.m6
        have R3 := R.same s1
        have iw3 := wim (rp.same s1)
        have im3 := Im.mono (Same.tups s1) _ _ im
        refine ⟨R3.tabs, fun A1 f1 x1 tb1' nf1 at1 => ⟨by show 1 ≤ sizeLine; decide, fun al nal => ?_⟩⟩
        have RA1 := R3.ext x1 tb1'
        have sal := same_upd (o := HO.lst [.ref f1]) nal
        have RA2 := RA1.same sal
        refine ⟨_, rfl, .inl ⟨rfl, _, SqL.of upd_same⟩, RA2.tabs, fun A3 f2 x3 tb3' nf2 at2 => ?_⟩
        have RA3 := RA2.ext x3 tb3'
        have eal : A3 al = some (.lst [.ref f1]) := x3 _ _ upd_same (fun _ z => by cases z)
        refine ⟨al, [.ref f1], .ref f2, rfl, rfl, eal, by show 1 < sizeLine; decide, ?_⟩
        have RA4 : Rn (TT PT) H (upd A3 al (.lst ([.ref f1] ++ [.ref f2]))) j := RA1.put nal RA3 eal
        have x14 : LamX.ExtN A1 (upd A3 al (.lst ([.ref f1] ++ [.ref f2]))) := ext_put nal x3
        have at1' := lam_ext at1 x14
        have at2' := lam_put (o := .lst ([.ref f1] ++ [.ref f2])) at2 eal
        have x34 := x1.trans x14
        have iw4 : Im (upd A3 al (.lst ([.ref f1] ++ [.ref f2]))) tv (dWays ws') := Im.mono (fun b xs h => tu_ext h x34) _ _ iw3
        have im4 : Im (upd A3 al (.lst ([.ref f1] ++ [.ref f2]))) (.ref a) (dMinds ms) := Im.mono (fun b xs h => tu_ext h x34) _ _ im3
        have hal4 : (upd A3 al (.lst ([.ref f1] ++ [.ref f2]))) al = some (.lst ([f1, f2].map V.ref)) := upd_same
        generalize (upd A3 al (.lst ([.ref f1] ++ [.ref f2]))) = A4 at RA4 at1' at2' iw4 im4 hal4 ⊢
        have sh := ways_shw wo'
        refine ⟨_, rfl, _, rfl, rfl, _, rfl, iteT ⟨_, rfl, tv, (dWays ws').shown, rfl, Vw.of (Im.dp _ _ iw4) sh, by show 2 ≤ sizeLine; decide, fun pd npd => ?_⟩⟩
        have sp := same_upd (o := HO.lst [.str "told", .str (dWays ws').shown]) npd
        have im5 := Im.mono (Same.tups sp) _ _ im4
        have iw5 := Im.mono (Same.tups sp) _ _ iw4
        refine ⟨al, pd, [f1, f2], "told", (dWays ws').shown, rfl, sp _ _ hal4, by show 2 ≤ 10; decide, upd_same, sh.fit, fun g hg' => ?_, fun G5 s5 => ⟨_, rfl, ?_⟩⟩
        · rcases List.mem_cons.mp hg' with rfl | hg'
          · exact actF (tb1 C (c 7)) (.told (dWays ws').shown) (at1'.same sp) ⟨rfl, LamX.lamS_by (by kernel_rfl), fun _ _ _ => rfl, fun A' o' s' H' E' f' c' hg' hr' => pe_prp gW cl hr' (by decide) (pe_mkE takesL MK hr' (by decide) (pa_cons (pv 2) (pa_cons (pv 4) pa_nil)))⟩ trivial rfl rfl (fun E' HZ Q' s' hoc => lam1_told rfl rfl (Im.mono (Same.tups s') _ _ im5) mo (Im.mono (Same.tups s') _ _ iw5) wo' hoc)
          · have hg' : g = f2 := by simpa using hg'
            subst hg'
            exact actF (tb2 C (c 7)) (.told (dWays ws').shown) (at2'.same sp) ⟨rfl, LamX.lamS_by (by kernel_rfl), fun _ _ _ => rfl, fun A' o' s' H' E' f' c' hg' hr' => pe_prp gW cl hr' (by decide) (pe_mkKE takesL MK hr' (by decide) (pk_cons (pv 4) (pk_cons (pv 2) pk_nil)))⟩ trivial rfl rfl (fun E' HZ Q' s' hoc => lam2_told rfl rfl (Im.mono (Same.tups s') _ _ im5) mo (Im.mono (Same.tups s') _ _ iw5) wo' hoc)
        refine iteF ⟨_, _, _, _, _, _, rfl, (RA4.same sp).same s5⟩
    · rintro σ G ⟨v1, v2, v3, v4, v5, v6, rfl, R⟩
      exact k _ R.b R.tabs
end
end M

namespace M
open PySem L2 U
abbrev sQuiet : Stmt := top 47
abbrev nQuiet : List Str := ["_law_jug_here", "_law_is_right"]
abbrev pQuiet : List Str := ["_law_jug_here"]
theorem scQuiet : FnScope nQuiet pQuiet (defScope sQuiet) := ⟨rfl, rfl, rfl, by decide +kernel, rfl, by decide +kernel, by decide +kernel⟩
abbrev sLaw : Stmt := top 48
abbrev nLaw : List Str := ["_law_script", "_law_at"]
abbrev pLaw : List Str := ["_law_script"]
theorem scLaw : FnScope nLaw pLaw (defScope sLaw) := ⟨rfl, rfl, rfl, by decide +kernel, rfl, by decide +kernel, by decide +kernel⟩
def spLaw (K : PySem.W.Frag) (PT : Addr) : Sp := fun vs H Q _ => ∃ (a : Addr) (ns : List Int), vs = [.ref a] ∧ SqL K H a (ns.map V.int) ∧ ns.length ≤ 63 ∧ LamX.Tabs (TT PT) H ∧ ∀ H', Q (.bl true) H'
section
variable {P : Program} {w : World} {K : PySem.W.Frag} {mg : Str → Option Value} {base : Heap} {PT : Addr}
theorem ok_quiet {f : Addr} {fd : FuncData} (F : Fun K "_law_quiet" "_law_quiet" sQuiet f fd) (T : Bt mg) (DR : DefG P w K mg base 24 "_law_right" pRight (spRight (TT PT))) : FnG P w K mg base CX0 26 f fd pQuiet (spRight (TT PT)) := by
  refine fnG0 F scQuiet (fun vs H Q E h => ?_) (fun cdv A outer s H vs Q E hg hr h => ?_)
  · obtain ⟨j, rfl, _⟩ := h
    rfl
  · obtain ⟨j, rfl, J, tb, k⟩ := h
    refine ⟨_, (pss_cons (ps_try_thru0 (pss_one (ps_set (i := 1) scQuiet.nd rfl (Or.inl rfl) (pe_fnG DR hg hr (by decide) (pa_cons (pv 0) pa_nil)))))
      (pss_one (ps_ret (pv 1)))), ?_⟩
    exact ⟨_, rfl, j, rfl, J, tb, fun H' b t' => ⟨_, rfl, k H' b t'⟩⟩
theorem ok_law {f : Addr} {fd : FuncData} (F : Fun K "law" "law" sLaw f fd) (T : Bt mg) (DJ : DefX P w K mg base 1 "_law_jug" ["_law_script", "_law_at"] (spJug K)) (DQ : DefG P w K mg base 26 "_law_quiet" pQuiet (spRight (TT PT))) : FnG P w K mg base CX0 28 f fd pLaw (spLaw K PT) := by
  refine fnG0 F scLaw (fun vs H Q E h => ?_) (fun cdv A outer s H vs Q E hg hr h => ?_)
  · obtain ⟨a, ns, rfl, _⟩ := h
    rfl
  · obtain ⟨a, ns, rfl, hS, hlen, tb, k⟩ := h
    refine ⟨_, (pss_one (ps_ret (pe_callB (allL K) (by rfl) T.all (by decide +kernel) (pa_cons (pe_lc (own := [("_law_at", 1)]) (g := gName 1) (tt := tYes) rfl scLaw.nd (pi_range1 rfl T.range (pa_cons (pe_callB (call_max2 rfl) (by rfl) T.max (by decide +kernel) (pa_cons pe_int (pa_cons (pe_callB (call_min2 rfl) (by rfl) T.min (by decide +kernel) (pa_cons (pe_callB (lenQ K) (by rfl) T.len (by decide +kernel) (pa_cons (pv 0) pa_nil)) (pa_cons pe_int pa_nil))) pa_nil))) pa_nil)) (blkOk_by (own := [("_law_at", 1)]) (N := nLaw) (sc := defScope sLaw) (by decide +kernel)) (fun _ _ _ _ _ => (pg_name (i := 1) scLaw.nd rfl (Or.inl rfl))) (fun _ _ _ _ _ => pts_nil)
          (fun _ _ _ _ _ => (pe_fnG DQ hg hr (by decide) (pa_cons (pe_fn DJ hr (by decide) (pa_cons (pv 0) (pa_cons (pv 1) pa_nil))) pa_nil)))) pa_nil)))), ?_⟩
    obtain ⟨n, hn5, hn⟩ : ∃ n : Nat, n ≤ 5 ∧ (if (if (5 : Int) < (ns.map V.int).length then (5 : Int) else (ns.map V.int).length) > 2 then (if (5 : Int) < (ns.map V.int).length then (5 : Int) else (ns.map V.int).length) else 2) = (n : Int) := by
      generalize (ns.map V.int).length = m
      by_cases h5 : (5 : Int) < m
      · refine ⟨5, by decide, ?_⟩
        rw [if_pos h5, if_pos (by decide)]; rfl
      · rw [if_neg h5]
        by_cases h2 : (m : Int) > 2
        · exact ⟨m, by omega, by rw [if_pos h2]⟩
        · exact ⟨2, by decide, by rw [if_neg h2]; rfl⟩
    refine ⟨_, rfl, a, _, rfl, .inl hS, _, _, rfl, _, _, rfl, n, by rw [hn], by omega, by omega, fun D hD => ?_⟩
    refine lc_range (lo := 0) (n := n) (fun i H1 => LamX.ExtN H H1 ∧ LamX.Tabs (TT PT) H1 ∧ H1 D = some (.lst (List.replicate i (V.bl true)))) ⟨.of (same_upd hD), tb.ext (same_upd hD), upd_same⟩ ?_ ?_
    · rintro i H1 hi ⟨s1, t1, h1⟩
      refine ⟨rfl, turnY ?_⟩
      refine ⟨_, rfl, _, rfl, a, ns, i, by show [V.ref a, V.int (0 + (i : Int))] = _; rw [Int.zero_add], sqL_ext hS s1, hlen, fun H2 j s2 nj J2 => ?_⟩
      refine ⟨j, rfl, J2, t1.ext s2, fun H3 b3 t3 => ?_⟩
      have nDj : D ≠ j := ne_of_none h1 nj
      have h3 : H3 D = some (.lst (List.replicate i (V.bl true))) := b3 D _ nDj (s2 _ _ h1) (fun _ z => by cases z)
      refine ⟨_, h3, small1000 (by rw [List.length_replicate]; omega), fun b o e nt => ?_, tabs_lst t3 But.upd h3, ?_⟩
      · rw [upd_ne (ne_of_none e hD)]
        have e1 := s1 b o e nt
        exact b3 b o (ne_of_none e1 nj) (s2 _ _ e1) nt
      · rw [upd_same, List.replicate_succ']
    · rintro H1 ⟨s1, t1, h1⟩
      refine ⟨D, List.replicate n true, rfl, SqL.of (by rw [List.map_replicate]; exact h1), ?_⟩
      have e : (List.replicate n true).all id = true := List.all_eq_true.mpr fun x hx => (List.eq_of_mem_replicate hx)
      rw [e]
      exact k H1
end
end M

namespace M
open PySem L2 U
abbrev sCWy : Stmt := inClass (top 34) 3
abbrev nCWy : List Str := ["self"]
abbrev pCWy : List Str := ["self"]
theorem scCWy : FnScope nCWy pCWy (defScope sCWy) := ⟨rfl, rfl, rfl, by decide +kernel, rfl, by decide +kernel, by decide +kernel⟩
abbrev sI7 : Stmt := inClass (top 16) 0
abbrev nI7 : List Str := ["self", "index"]
abbrev pI7 : List Str := ["self", "index"]
theorem scI7 : FnScope nI7 pI7 (defScope sI7) := ⟨rfl, rfl, rfl, by decide +kernel, rfl, by decide +kernel, by decide +kernel⟩
abbrev pJug : List Str := ["_law_script", "_law_at"]
abbrev pSip : List Str := ["_law_jug_here", "_law_most"]
abbrev pRow : List Str := ["_law_jug_here", "_law_size"]
abbrev pTalk : List Str := ["_law_jug_here", "_law_size"]
abbrev pPair : List Str := ["_law_jug_here", "_law_most_here"]
theorem vals_rev : ∀ {vs : List V} {us : List Value}, Vals vs us → Vals vs.reverse us.reverse
  | _, _, .nil => .nil
  | _, _, .cons r1 rr => by
    rw [List.reverse_cons, List.reverse_cons]
    exact (vals_rev rr).append (.cons r1 .nil)
theorem tabs0 {PT : Addr} {H : Hp} (h : H PT = some (.tbl #[])) : LamX.Tabs (TT PT) H := fun p hp => by
  rw [List.mem_singleton.mp hp]
  exact LamX.TabS.nil h
theorem ok_I7 {P : Program} {w : World} {K : PySem.W.Frag} {mg : Str → Option Value} {base : Heap} {f : Addr} {fd : FuncData} (F : Fun K "__init__" "InvalidWays.__init__" sI7 f fd) : FnOk P w K mg base CX0 1 f fd pI7 (spXI K "index") := by
  refine F.ok scI7 (fun vs H Q E h => ?_) (fun cdv A outer s H vs Q E hr h => ?_)
  · obtain ⟨a, C, y, rfl, _⟩ := h
    rfl
  · obtain ⟨a, C, y, rfl, T, no, ea, k⟩ := h
    exact ⟨_, (pss_one (ps_stN K (pv 0) (pv 1))), _, rfl, _, rfl, a, C, rfl, T, no, ea, fun dx n ne => k dx n ne⟩
theorem all_mk {l : PySem.W.OpenLaw} {w : World} {K : PySem.W.Frag} {h : Heap} {mg : Str → Option Value} {fa : Addr} (X : K.In h) (G : h.Ns mainGlobals mg) (hfa : mg "law" = some (.ref fa))
    {fInt : Addr} {odInt anInt : Option Addr} {slInt : Array (Option Value)} {ocInt kVInt dcInt pmInt cdInt ctInt : Value}
    {fName : Addr} {odName anName : Option Addr} {slName : Array (Option Value)} {ocName kVName dcName pmName cdName ctName : Value}
    {fWgt : Addr} {odWgt anWgt : Option Addr} {slWgt : Array (Option Value)} {ocWgt kVWgt dcWgt pmWgt cdWgt ctWgt : Value}
    {fRoww : Addr} {odRoww anRoww : Option Addr} {slRoww : Array (Option Value)} {ocRoww kVRoww dcRoww pmRoww cdRoww ctRoww : Value}
    {fWay : Addr} {odWay anWay : Option Addr} {slWay : Array (Option Value)} {ocWay kVWay dcWay pmWay cdWay ctWay : Value}
    {fCMi : Addr} {odCMi anCMi : Option Addr} {slCMi : Array (Option Value)} {ocCMi kVCMi dcCMi pmCMi cdCMi ctCMi : Value}
    {fCWa : Addr} {odCWa anCWa : Option Addr} {slCWa : Array (Option Value)} {ocCWa kVCWa dcCWa pmCWa cdCWa ctCWa : Value}
    {fJug : Addr} {odJug anJug : Option Addr} {slJug : Array (Option Value)} {ocJug kVJug dcJug pmJug cdJug ctJug : Value}
    {fSip : Addr} {odSip anSip : Option Addr} {slSip : Array (Option Value)} {ocSip kVSip dcSip pmSip cdSip ctSip : Value}
    {fRow : Addr} {odRow anRow : Option Addr} {slRow : Array (Option Value)} {ocRow kVRow dcRow pmRow cdRow ctRow : Value}
    {fTalk : Addr} {odTalk anTalk : Option Addr} {slTalk : Array (Option Value)} {ocTalk kVTalk dcTalk pmTalk cdTalk ctTalk : Value}
    {fPair : Addr} {odPair anPair : Option Addr} {slPair : Array (Option Value)} {ocPair kVPair dcPair pmPair cdPair ctPair : Value}
    {fEnd : Addr} {odEnd anEnd : Option Addr} {slEnd : Array (Option Value)} {ocEnd kVEnd dcEnd pmEnd cdEnd ctEnd : Value}
    {fIsE : Addr} {odIsE anIsE : Option Addr} {slIsE : Array (Option Value)} {ocIsE kVIsE dcIsE pmIsE cdIsE ctIsE : Value}
    {fIsR : Addr} {odIsR anIsR : Option Addr} {slIsR : Array (Option Value)} {ocIsR kVIsR dcIsR pmIsR cdIsR ctIsR : Value}
    {fDue : Addr} {odDue anDue : Option Addr} {slDue : Array (Option Value)} {ocDue kVDue dcDue pmDue cdDue ctDue : Value}
    {fBent : Addr} {odBent anBent : Option Addr} {slBent : Array (Option Value)} {ocBent kVBent dcBent pmBent cdBent ctBent : Value}
    {fRight : Addr} {odRight anRight : Option Addr} {slRight : Array (Option Value)} {ocRight kVRight dcRight pmRight ctRight : Value} {cR PT : Addr} {ts : List Addr}
    {fQuiet : Addr} {odQuiet anQuiet : Option Addr} {slQuiet : Array (Option Value)} {ocQuiet kVQuiet dcQuiet pmQuiet cdQuiet ctQuiet : Value}
    {fLaw : Addr} {odLaw anLaw : Option Addr} {slLaw : Array (Option Value)} {ocLaw kVLaw dcLaw pmLaw cdLaw ctLaw : Value}
    {cW0 : Addr}
    {cW1 : Addr}
    {cW2 : Addr}
    {cX0 : Addr}
    {cX1 : Addr}
    {cX4 : Addr}
    {cX5 : Addr}
    {cX6 : Addr}
    {cX7 : Addr}
    {qX7 : Str} {NX7 : Addr} {bsX7 : List Value} {snX7 : List Str} {subX7 : List Value} {abX7 : Bool} {colX7 : Option Bool} {ddX7 : Option Addr} {kaX7 kbX7 kcX7 kdX7 keX7 : Option Value}
    {fI7 : Addr} {odI7 anI7 : Option Addr} {slI7 : Array (Option Value)} {ocI7 kVI7 dcI7 pmI7 cdI7 ctI7 : Value}
    {cX8 : Addr}
    {cX9 : Addr}
    {cX12 : Addr}
    {cX13 : Addr}
    {cX15 : Addr}
    {cC : Addr}
    {fCIn : Addr} {odCIn anCIn : Option Addr} {slCIn : Array (Option Value)} {ocCIn kVCIn dcCIn pmCIn cdCIn ctCIn : Value}
    {fCWy qCWy : Addr} {rCWy : List Value} {odCWy anCWy : Option Addr} {slCWy : Array (Option Value)} {ocCWy kVCWy dcCWy pmCWy cdCWy ctCWy : Value}
    {tLETTERS : Tok}
    {tLETTERS_AND_DIGITS : Tok}
    {tLONGEST_NAME : Tok}
    {tMOST_MINDS : Tok}
    {tMOST_WAYS : Tok}
    {tMOST_WEIGHT : Tok}
    (aInt : PySem.W.nsIn K mainGlobals "is_integer" = some (some (.ref fInt)))
    (lInt : K.lookup fInt = some ⟨ocInt, odInt, .func (PySem.W.fnOf "is_integer" "is_integer" (defArgs sInt) (defBody sInt) (defScope sInt) .none kVInt dcInt pmInt anInt cdInt ctInt), slInt⟩)
    (cInt : PySem.W.codeIn K cdInt "is_integer" = true)
    (kInt : PySem.W.keepIn K (.ref fInt) = true)
    (aName : PySem.W.nsIn K mainGlobals "is_name" = some (some (.ref fName)))
    (lName : K.lookup fName = some ⟨ocName, odName, .func (PySem.W.fnOf "is_name" "is_name" (defArgs sName) (defBody sName) (defScope sName) .none kVName dcName pmName anName cdName ctName), slName⟩)
    (cName : PySem.W.codeIn K cdName "is_name" = true)
    (kName : PySem.W.keepIn K (.ref fName) = true)
    (aWgt : PySem.W.nsIn K mainGlobals "is_weight" = some (some (.ref fWgt)))
    (lWgt : K.lookup fWgt = some ⟨ocWgt, odWgt, .func (PySem.W.fnOf "is_weight" "is_weight" (defArgs sWgt) (defBody sWgt) (defScope sWgt) .none kVWgt dcWgt pmWgt anWgt cdWgt ctWgt), slWgt⟩)
    (cWgt : PySem.W.codeIn K cdWgt "is_weight" = true)
    (kWgt : PySem.W.keepIn K (.ref fWgt) = true)
    (aRoww : PySem.W.nsIn K mainGlobals "is_row" = some (some (.ref fRoww)))
    (lRoww : K.lookup fRoww = some ⟨ocRoww, odRoww, .func (PySem.W.fnOf "is_row" "is_row" (defArgs sRoww) (defBody sRoww) (defScope sRoww) .none kVRoww dcRoww pmRoww anRoww cdRoww ctRoww), slRoww⟩)
    (cRoww : PySem.W.codeIn K cdRoww "is_row" = true)
    (kRoww : PySem.W.keepIn K (.ref fRoww) = true)
    (aWay : PySem.W.nsIn K mainGlobals "is_way" = some (some (.ref fWay)))
    (lWay : K.lookup fWay = some ⟨ocWay, odWay, .func (PySem.W.fnOf "is_way" "is_way" (defArgs sWay) (defBody sWay) (defScope sWay) .none kVWay dcWay pmWay anWay cdWay ctWay), slWay⟩)
    (cWay : PySem.W.codeIn K cdWay "is_way" = true)
    (kWay : PySem.W.keepIn K (.ref fWay) = true)
    (aCMi : PySem.W.nsIn K mainGlobals "check_minds" = some (some (.ref fCMi)))
    (lCMi : K.lookup fCMi = some ⟨ocCMi, odCMi, .func (PySem.W.fnOf "check_minds" "check_minds" (defArgs sCMi) (defBody sCMi) (defScope sCMi) .none kVCMi dcCMi pmCMi anCMi cdCMi ctCMi), slCMi⟩)
    (cCMi : PySem.W.codeIn K cdCMi "check_minds" = true)
    (kCMi : PySem.W.keepIn K (.ref fCMi) = true)
    (aCWa : PySem.W.nsIn K mainGlobals "check_ways" = some (some (.ref fCWa)))
    (lCWa : K.lookup fCWa = some ⟨ocCWa, odCWa, .func (PySem.W.fnOf "check_ways" "check_ways" (defArgs sCWa) (defBody sCWa) (defScope sCWa) .none kVCWa dcCWa pmCWa anCWa cdCWa ctCWa), slCWa⟩)
    (cCWa : PySem.W.codeIn K cdCWa "check_ways" = true)
    (kCWa : PySem.W.keepIn K (.ref fCWa) = true)
    (aJug : PySem.W.nsIn K mainGlobals "_law_jug" = some (some (.ref fJug)))
    (lJug : K.lookup fJug = some ⟨ocJug, odJug, .func (PySem.W.fnOf "_law_jug" "_law_jug" (defArgs sJug) (defBody sJug) (defScope sJug) .none kVJug dcJug pmJug anJug cdJug ctJug), slJug⟩)
    (cJug : PySem.W.codeIn K cdJug "_law_jug" = true)
    (kJug : PySem.W.keepIn K (.ref fJug) = true)
    (aSip : PySem.W.nsIn K mainGlobals "_law_sip" = some (some (.ref fSip)))
    (lSip : K.lookup fSip = some ⟨ocSip, odSip, .func (PySem.W.fnOf "_law_sip" "_law_sip" (defArgs sSip) (defBody sSip) (defScope sSip) .none kVSip dcSip pmSip anSip cdSip ctSip), slSip⟩)
    (cSip : PySem.W.codeIn K cdSip "_law_sip" = true)
    (kSip : PySem.W.keepIn K (.ref fSip) = true)
    (aRow : PySem.W.nsIn K mainGlobals "_law_row" = some (some (.ref fRow)))
    (lRow : K.lookup fRow = some ⟨ocRow, odRow, .func (PySem.W.fnOf "_law_row" "_law_row" (defArgs sRow) (defBody sRow) (defScope sRow) .none kVRow dcRow pmRow anRow cdRow ctRow), slRow⟩)
    (cRow : PySem.W.codeIn K cdRow "_law_row" = true)
    (kRow : PySem.W.keepIn K (.ref fRow) = true)
    (aTalk : PySem.W.nsIn K mainGlobals "_law_talk" = some (some (.ref fTalk)))
    (lTalk : K.lookup fTalk = some ⟨ocTalk, odTalk, .func (PySem.W.fnOf "_law_talk" "_law_talk" (defArgs sTalk) (defBody sTalk) (defScope sTalk) .none kVTalk dcTalk pmTalk anTalk cdTalk ctTalk), slTalk⟩)
    (cTalk : PySem.W.codeIn K cdTalk "_law_talk" = true)
    (kTalk : PySem.W.keepIn K (.ref fTalk) = true)
    (aPair : PySem.W.nsIn K mainGlobals "_law_pair" = some (some (.ref fPair)))
    (lPair : K.lookup fPair = some ⟨ocPair, odPair, .func (PySem.W.fnOf "_law_pair" "_law_pair" (defArgs sPair) (defBody sPair) (defScope sPair) .none kVPair dcPair pmPair anPair cdPair ctPair), slPair⟩)
    (cPair : PySem.W.codeIn K cdPair "_law_pair" = true)
    (kPair : PySem.W.keepIn K (.ref fPair) = true)
    (aEnd : PySem.W.nsIn K mainGlobals "_law_ended" = some (some (.ref fEnd)))
    (lEnd : K.lookup fEnd = some ⟨ocEnd, odEnd, .func (PySem.W.fnOf "_law_ended" "_law_ended" (defArgs sEnd) (defBody sEnd) (defScope sEnd) .none kVEnd dcEnd pmEnd anEnd cdEnd ctEnd), slEnd⟩)
    (cEnd : PySem.W.codeIn K cdEnd "_law_ended" = true)
    (kEnd : PySem.W.keepIn K (.ref fEnd) = true)
    (aIsE : PySem.W.nsIn K mainGlobals "_law_is_ended" = some (some (.ref fIsE)))
    (lIsE : K.lookup fIsE = some ⟨ocIsE, odIsE, .func (PySem.W.fnOf "_law_is_ended" "_law_is_ended" (defArgs sIsE) (defBody sIsE) (defScope sIsE) .none kVIsE dcIsE pmIsE anIsE cdIsE ctIsE), slIsE⟩)
    (cIsE : PySem.W.codeIn K cdIsE "_law_is_ended" = true)
    (kIsE : PySem.W.keepIn K (.ref fIsE) = true)
    (aIsR : PySem.W.nsIn K mainGlobals "_law_is_row" = some (some (.ref fIsR)))
    (lIsR : K.lookup fIsR = some ⟨ocIsR, odIsR, .func (PySem.W.fnOf "_law_is_row" "_law_is_row" (defArgs sIsR) (defBody sIsR) (defScope sIsR) .none kVIsR dcIsR pmIsR anIsR cdIsR ctIsR), slIsR⟩)
    (cIsR : PySem.W.codeIn K cdIsR "_law_is_row" = true)
    (kIsR : PySem.W.keepIn K (.ref fIsR) = true)
    (aDue : PySem.W.nsIn K mainGlobals "_law_due" = some (some (.ref fDue)))
    (lDue : K.lookup fDue = some ⟨ocDue, odDue, .func (PySem.W.fnOf "_law_due" "_law_due" (defArgs sDue) (defBody sDue) (defScope sDue) .none kVDue dcDue pmDue anDue cdDue ctDue), slDue⟩)
    (cDue : PySem.W.codeIn K cdDue "_law_due" = true)
    (kDue : PySem.W.keepIn K (.ref fDue) = true)
    (aBent : PySem.W.nsIn K mainGlobals "_law_bent" = some (some (.ref fBent)))
    (lBent : K.lookup fBent = some ⟨ocBent, odBent, .func (PySem.W.fnOf "_law_bent" "_law_bent" (defArgs sBent) (defBody sBent) (defScope sBent) .none kVBent dcBent pmBent anBent cdBent ctBent), slBent⟩)
    (cBent : PySem.W.codeIn K cdBent "_law_bent" = true)
    (kBent : PySem.W.keepIn K (.ref fBent) = true)
    (aRight : PySem.W.nsIn K mainGlobals "_law_right" = some (some (.ref fRight)))
    (lRight : K.lookup fRight = some ⟨ocRight, odRight, .func (PySem.W.fnOf "_law_right" "_law_right" (defArgs sRight) (defBody sRight) (defScope sRight) .none kVRight dcRight pmRight anRight (.ref cR) ctRight), slRight⟩)
    (cRight : PySem.W.codeIn K (.ref cR) "_law_right" = true)
    (kRight : PySem.W.keepIn K (.ref fRight) = true)
    (aQuiet : PySem.W.nsIn K mainGlobals "_law_quiet" = some (some (.ref fQuiet)))
    (lQuiet : K.lookup fQuiet = some ⟨ocQuiet, odQuiet, .func (PySem.W.fnOf "_law_quiet" "_law_quiet" (defArgs sQuiet) (defBody sQuiet) (defScope sQuiet) .none kVQuiet dcQuiet pmQuiet anQuiet cdQuiet ctQuiet), slQuiet⟩)
    (cQuiet : PySem.W.codeIn K cdQuiet "_law_quiet" = true)
    (kQuiet : PySem.W.keepIn K (.ref fQuiet) = true)
    (aLaw : PySem.W.nsIn K mainGlobals "law" = some (some (.ref fLaw)))
    (lLaw : K.lookup fLaw = some ⟨ocLaw, odLaw, .func (PySem.W.fnOf "law" "law" (defArgs sLaw) (defBody sLaw) (defScope sLaw) .none kVLaw dcLaw pmLaw anLaw cdLaw ctLaw), slLaw⟩)
    (cLaw : PySem.W.codeIn K cdLaw "law" = true)
    (kLaw : PySem.W.keepIn K (.ref fLaw) = true)
    (acW0 : PySem.W.nsIn K mainGlobals "WrongValue" = some (some (.ref cW0)))
    (acW1 : PySem.W.nsIn K mainGlobals "WrongName" = some (some (.ref cW1)))
    (acW2 : PySem.W.nsIn K mainGlobals "NoAnswer" = some (some (.ref cW2)))
    (acX0 : PySem.W.nsIn K mainGlobals "InvalidText" = some (some (.ref cX0)))
    (acX1 : PySem.W.nsIn K mainGlobals "InvalidNumber" = some (some (.ref cX1)))
    (acX4 : PySem.W.nsIn K mainGlobals "InvalidIndex" = some (some (.ref cX4)))
    (acX5 : PySem.W.nsIn K mainGlobals "NotACouncil" = some (some (.ref cX5)))
    (acX6 : PySem.W.nsIn K mainGlobals "InvalidMinds" = some (some (.ref cX6)))
    (acX7 : PySem.W.nsIn K mainGlobals "InvalidWays" = some (some (.ref cX7)))
    (aI7 : PySem.W.findIn K (.ref cX7) "__init__" = some (some (.ref fI7)))
    (iI7 : PySem.W.isFn K (.ref fI7) = true)
    (lI7 : K.lookup fI7 = some ⟨ocI7, odI7, .func (PySem.W.fnOf "__init__" "InvalidWays.__init__" (defArgs sI7) (defBody sI7) (defScope sI7) .none kVI7 dcI7 pmI7 anI7 cdI7 ctI7), slI7⟩)
    (cI7 : PySem.W.codeIn K cdI7 "InvalidWays.__init__" = true)
    (kI7 : PySem.W.keepIn K (.ref fI7) = true)
    (lkX7 : K.lookup cX7 = some (excClassObj "InvalidWays" qX7 cX7 NX7 bsX7 (.ref cW0 :: [.type "ValueError", .type "Exception", .type "BaseException", .type "object"]) true snX7 subX7 abX7 colX7 ddX7 kaX7 kbX7 kcX7 kdX7 keX7 "ValueError.__new__"))
    (saX7 : PySem.W.findIn K (.ref cX7) "__setattr__" = some (some (.builtin "object.__setattr__")))
    (gaX7 : PySem.W.findIn K (.ref cX7) "__getattribute__" = some (some (.builtin "BaseException.__getattribute__")))
    (ggX7 : PySem.W.findIn K (.ref cX7) "__getattr__" = some none)
    (caX7 : PySem.W.findIn K (.ref cX7) "__class__" = some (some (.builtin "object.__class__")))
    (kcX7 : PySem.W.keepIn K (.ref cX7) = true)
    (noX7 : PySem.W.findIn K (.ref cX7) "index" = some none)
    (acX8 : PySem.W.nsIn K mainGlobals "InvalidWord" = some (some (.ref cX8)))
    (acX9 : PySem.W.nsIn K mainGlobals "InvalidThoughts" = some (some (.ref cX9)))
    (acX12 : PySem.W.nsIn K mainGlobals "UnknownName" = some (some (.ref cX12)))
    (acX13 : PySem.W.nsIn K mainGlobals "NoDays" = some (some (.ref cX13)))
    (acX15 : PySem.W.nsIn K mainGlobals "TooMany" = some (some (.ref cX15)))
    (acC : PySem.W.nsIn K mainGlobals "Council" = some (some (.ref cC)))
    (aCIn : PySem.W.findIn K (.ref cC) "__init__" = some (some (.ref fCIn)))
    (iCIn : PySem.W.isFn K (.ref fCIn) = true)
    (lCIn : K.lookup fCIn = some ⟨ocCIn, odCIn, .func (PySem.W.fnOf "__init__" "Council.__init__" (defArgs sCIn) (defBody sCIn) (defScope sCIn) .none kVCIn dcCIn pmCIn anCIn cdCIn ctCIn), slCIn⟩)
    (cCIn : PySem.W.codeIn K cdCIn "Council.__init__" = true)
    (kCIn : PySem.W.keepIn K (.ref fCIn) = true)
    (uCWy : PySem.W.findIn K (.ref cC) "ways" = some (some (.ref qCWy)))
    (vCWy : PySem.W.specialIn K (.ref qCWy) "__get__" = some (some (.builtin "property.__get__")))
    (wCWy : PySem.W.takesIn K (.ref qCWy) = some true)
    (xCWy : PySem.W.recIn K qCWy "property" = some (.ref fCWy :: rCWy))
    (lCWy : K.lookup fCWy = some ⟨ocCWy, odCWy, .func (PySem.W.fnOf "ways" "Council.ways" (defArgs sCWy) (defBody sCWy) (defScope sCWy) .none kVCWy dcCWy pmCWy anCWy cdCWy ctCWy), slCWy⟩)
    (cCWy : PySem.W.codeIn K cdCWy "Council.ways" = true)
    (kCWy : PySem.W.keepIn K (.ref fCWy) = true)
    (pg : PySem.W.plainGet K cC Str.empty = true)
    (hd : PySem.W.hasDictIn K cC = true)
    (po : PySem.W.plainOver K cC = true)
    (sa : PySem.W.findIn K (.ref cC) "__setattr__" = some (some (.builtin "object.__setattr__")))
    (mk : PySem.W.makesIn K cC = true)
    (kcC : PySem.W.keepIn K (.ref cC) = true)
    (nM : PySem.W.findIn K (.ref cC) "_minds" = some none)
    (nW : PySem.W.findIn K (.ref cC) "_ways" = some none)
    (o1 : PySem.W.findIn K (.ref cC) "__class__" = some (some (.builtin "object.__class__")))
    (o2 : PySem.W.specialIn K (.builtin "object.__class__") "__get__" = some (some (.builtin "getset_descriptor.__get__")))
    (o3 : PySem.W.takesIn K (.builtin "object.__class__") = some true)
    (o5 : PySem.W.mroIn K cC (.type "object") = some true)
    (gLETTERS : PySem.W.nsIn K mainGlobals "LETTERS" = some (some (.str "abcdefghijklmnopqrstuvwxyz" tLETTERS)))
    (gLETTERS_AND_DIGITS : PySem.W.nsIn K mainGlobals "LETTERS_AND_DIGITS" = some (some (.str "abcdefghijklmnopqrstuvwxyz0123456789" tLETTERS_AND_DIGITS)))
    (gLONGEST_NAME : PySem.W.nsIn K mainGlobals "LONGEST_NAME" = some (some (.int 8 tLONGEST_NAME)))
    (gMOST_MINDS : PySem.W.nsIn K mainGlobals "MOST_MINDS" = some (some (.int 6 tMOST_MINDS)))
    (gMOST_WAYS : PySem.W.nsIn K mainGlobals "MOST_WAYS" = some (some (.int 6 tMOST_WAYS)))
    (gMOST_WEIGHT : PySem.W.nsIn K mainGlobals "MOST_WEIGHT" = some (some (.int 1000000000 tMOST_WEIGHT)))
    (zlen : PySem.W.nsIn K mainGlobals "len" = some none)
    (zrange : PySem.W.nsIn K mainGlobals "range" = some none)
    (zint : PySem.W.nsIn K mainGlobals "int" = some none)
    (zabs : PySem.W.nsIn K mainGlobals "abs" = some none)
    (zdivmod : PySem.W.nsIn K mainGlobals "divmod" = some none)
    (zsum : PySem.W.nsIn K mainGlobals "sum" = some none)
    (ztuple : PySem.W.nsIn K mainGlobals "tuple" = some none)
    (zall : PySem.W.nsIn K mainGlobals "all" = some none)
    (zmax : PySem.W.nsIn K mainGlobals "max" = some none)
    (zmin : PySem.W.nsIn K mainGlobals "min" = some none)
    (zstr : PySem.W.nsIn K mainGlobals "str" = some none)
    (zbool : PySem.W.nsIn K mainGlobals "bool" = some none)
    (zisinstance : PySem.W.nsIn K mainGlobals "isinstance" = some none)
    (zenumerate : PySem.W.nsIn K mainGlobals "enumerate" = some none)
    (zrepr : PySem.W.nsIn K mainGlobals "repr" = some none)
    (zlist : PySem.W.nsIn K mainGlobals "list" = some none)
    (hM : PT ∈ ts)
    (hC : PySem.W.codeHdIn K cR PT = true)
    (nPT : K.lookup PT = none)
    (kt0 : PySem.W.kitOne K (.ref cX7) (.ref cX0) = some false)
    (kt1 : PySem.W.kitOne K (.ref cX7) (.ref cX1) = some false)
    (kt4 : PySem.W.kitOne K (.ref cX7) (.ref cX4) = some false)
    (kt5 : PySem.W.kitOne K (.ref cX7) (.ref cX5) = some false)
    (kt6 : PySem.W.kitOne K (.ref cX7) (.ref cX6) = some false)
    (kt8 : PySem.W.kitOne K (.ref cX7) (.ref cX8) = some false)
    (kt9 : PySem.W.kitOne K (.ref cX7) (.ref cX9) = some false)
    (kt12 : PySem.W.kitOne K (.ref cX7) (.ref cX12) = some false)
    (kt13 : PySem.W.kitOne K (.ref cX7) (.ref cX13) = some false)
    (kt15 : PySem.W.kitOne K (.ref cX7) (.ref cX15) = some false)
    (kw0 : PySem.W.kitOne K (.ref cX7) (.ref cW0) = some true)
    (kw1 : PySem.W.kitOne K (.ref cX7) (.ref cW1) = some false)
    (kw2 : PySem.W.kitOne K (.ref cX7) (.ref cW2) = some false)
    (ea : PySem.W.exmAny K (.ref cX7) [.ref cW0, .ref cW1, .ref cW2] = some true) :
    ∃ (fd : FuncData) (c PT : Addr), PT ∈ ts ∧ PySem.W.codeHdIn K c PT = true ∧ K.lookup PT = none ∧ (∀ (s : Shared) (v : Value), BindsTo s fd ⟨[v], []⟩ [("_law_script", v)]) ∧ ∀ base : Heap, K.In base → base.Ns mainGlobals mg → LamX.TabB base mg c PT → FnG l.prog w K mg base CX0 28 fa fd ["_law_script"] (spLaw K PT) := by
  have e := hfa.symm.trans (PySem.W.mg_of X G aLaw)
  cases e
  have FInt := fun_mk (st := sInt) lInt cInt kInt
  have bInt := FInt.binds (ps := pInt) fun _ _ _ _ _ _ us hl => match us, hl with | [_], _ => rfl
  have FName := fun_mk (st := sName) lName cName kName
  have bName := FName.binds (ps := pName) fun _ _ _ _ _ _ us hl => match us, hl with | [_], _ => rfl
  have FWgt := fun_mk (st := sWgt) lWgt cWgt kWgt
  have bWgt := FWgt.binds (ps := pWgt) fun _ _ _ _ _ _ us hl => match us, hl with | [_], _ => rfl
  have FRoww := fun_mk (st := sRoww) lRoww cRoww kRoww
  have bRoww := FRoww.binds (ps := pRoww) fun _ _ _ _ _ _ us hl => match us, hl with | [_, _], _ => rfl
  have FWay := fun_mk (st := sWay) lWay cWay kWay
  have bWay := FWay.binds (ps := pWay) fun _ _ _ _ _ _ us hl => match us, hl with | [_, _], _ => rfl
  have FCMi := fun_mk (st := sCMi) lCMi cCMi kCMi
  have bCMi := FCMi.binds (ps := pCMi) fun _ _ _ _ _ _ us hl => match us, hl with | [_], _ => rfl
  have FCWa := fun_mk (st := sCWa) lCWa cCWa kCWa
  have bCWa := FCWa.binds (ps := pCWa) fun _ _ _ _ _ _ us hl => match us, hl with | [_, _], _ => rfl
  have FJug := fun_mk (st := sJug) lJug cJug kJug
  have bJug := FJug.binds (ps := pJug) fun _ _ _ _ _ _ us hl => match us, hl with | [_, _], _ => rfl
  have FSip := fun_mk (st := sSip) lSip cSip kSip
  have bSip := FSip.binds (ps := pSip) fun _ _ _ _ _ _ us hl => match us, hl with | [_, _], _ => rfl
  have FRow := fun_mk (st := sRow) lRow cRow kRow
  have bRow := FRow.binds (ps := pRow) fun _ _ _ _ _ _ us hl => match us, hl with | [_, _], _ => rfl
  have FTalk := fun_mk (st := sTalk) lTalk cTalk kTalk
  have bTalk := FTalk.binds (ps := pTalk) fun _ _ _ _ _ _ us hl => match us, hl with | [_, _], _ => rfl
  have FPair := fun_mk (st := sPair) lPair cPair kPair
  have bPair := FPair.binds (ps := pPair) fun _ _ _ _ _ _ us hl => match us, hl with | [_, _], _ => rfl
  have FEnd := fun_mk (st := sEnd) lEnd cEnd kEnd
  have bEnd := FEnd.binds (ps := pEnd) fun _ _ _ _ _ _ us hl => match us, hl with | [_], _ => rfl
  have FIsE := fun_mk (st := sIsE) lIsE cIsE kIsE
  have bIsE := FIsE.binds (ps := pIsE) fun _ _ _ _ _ _ us hl => match us, hl with | [_, _], _ => rfl
  have FIsR := fun_mk (st := sIsR) lIsR cIsR kIsR
  have bIsR := FIsR.binds (ps := pIsR) fun _ _ _ _ _ _ us hl => match us, hl with | [_, _], _ => rfl
  have FDue := fun_mk (st := sDue) lDue cDue kDue
  have bDue := FDue.binds (ps := pDue) fun _ _ _ _ _ _ us hl => match us, hl with | [_, _], _ => rfl
  have FBent := fun_mk (st := sBent) lBent cBent kBent
  have bBent := FBent.binds (ps := pBent) fun _ _ _ _ _ _ us hl => match us, hl with | [_, _], _ => rfl
  have FRight := fun_mk (st := sRight) lRight cRight kRight
  have bRight := FRight.binds (ps := pRight) fun _ _ _ _ _ _ us hl => match us, hl with | [_], _ => rfl
  have FQuiet := fun_mk (st := sQuiet) lQuiet cQuiet kQuiet
  have bQuiet := FQuiet.binds (ps := pQuiet) fun _ _ _ _ _ _ us hl => match us, hl with | [_], _ => rfl
  have FLaw := fun_mk (st := sLaw) lLaw cLaw kLaw
  have bLaw := FLaw.binds (ps := pLaw) fun _ _ _ _ _ _ us hl => match us, hl with | [_], _ => rfl
  have FI7 := fun_mk (st := sI7) lI7 cI7 kI7
  have bI7 := FI7.binds (ps := pI7) fun _ _ _ _ _ _ us hl => match us, hl with | [_, _], _ => rfl
  have FCIn := fun_mk (st := sCIn) lCIn cCIn kCIn
  have bCIn := FCIn.binds (ps := pCIn) fun _ _ _ _ _ _ us hl => match us, hl with | [_, _, _], _ => rfl
  have FCWy := fun_mk (st := sCWy) lCWy cCWy kCWy
  have bCWy := FCWy.binds (ps := pCWy) fun _ _ _ _ _ _ us hl => match us, hl with | [_], _ => rfl
  have T : Bt mg := ⟨PySem.W.mg_none_of X G zlen, PySem.W.mg_none_of X G zrange, PySem.W.mg_none_of X G zint, PySem.W.mg_none_of X G zabs, PySem.W.mg_none_of X G zdivmod, PySem.W.mg_none_of X G zsum, PySem.W.mg_none_of X G ztuple, PySem.W.mg_none_of X G zall, PySem.W.mg_none_of X G zmax, PySem.W.mg_none_of X G zmin, PySem.W.mg_none_of X G zstr, PySem.W.mg_none_of X G zbool, PySem.W.mg_none_of X G zisinstance, PySem.W.mg_none_of X G zenumerate, PySem.W.mg_none_of X G zrepr,
    ⟨_, PySem.W.mg_of X G gLETTERS, _, rfl⟩, ⟨_, PySem.W.mg_of X G gLETTERS_AND_DIGITS, _, rfl⟩, ⟨_, PySem.W.mg_of X G gLONGEST_NAME, _, rfl⟩, ⟨_, PySem.W.mg_of X G gMOST_MINDS, _, rfl⟩, ⟨_, PySem.W.mg_of X G gMOST_WAYS, _, rfl⟩, ⟨_, PySem.W.mg_of X G gMOST_WEIGHT, _, rfl⟩⟩
  have U : Cn K mg cC := ⟨⟨pg, hd, po, sa⟩, nM, nW, PySem.W.mg_of X G acC, o1, o2, o3, o5, kit_self' K cC⟩
  have y7 : LkX K cX7 cW0 "InvalidWays" 0 := ⟨_, _, _, _, _, _, _, _, _, _, _, _, _, lkX7⟩
  have b7 := y7.xb saX7 gaX7 ggX7 caX7 kcX7
  obtain ⟨c, hc⟩ : ∃ c : Nat → Addr, c = fun k => ([cX0, cX1, 0, 0, cX4, cX5, cX6, cX7, cX8, cX9, 0, 0, cX12, cX13, 0, cX15] : List Addr).getD k 0 := ⟨_, rfl⟩
  obtain ⟨W, hW⟩ : ∃ W : Nat → Addr, W = fun k => ([cW0, cW1, cW2] : List Addr).getD k 0 := ⟨_, rfl⟩
  have hc7 : c 7 = cX7 := by rw [hc]; rfl
  have kc : ∀ k, k ∈ ixs → PySem.W.kitOne K (.ref (c 7)) (.ref (c k)) = some (decide (k = 7)) := by
    subst hc
    intro k hk
    simp only [ixs, List.mem_cons, List.not_mem_nil, or_false] at hk
    rcases hk with rfl | rfl | rfl | rfl | rfl | rfl | rfl | rfl | rfl | rfl | rfl
    · exact kt0
    · exact kt1
    · exact kt4
    · exact kt5
    · exact kt6
    · exact kit_self' K cX7
    · exact kt8
    · exact kt9
    · exact kt12
    · exact kt13
    · exact kt15
  have kw : ∀ b, b < 3 → PySem.W.kitOne K (.ref (c 7)) (.ref (W b)) = some (decide (b = bkX 7)) := by
    subst hc hW
    intro b hb
    match b, hb with
    | 0, _ => exact kw0
    | 1, _ => exact kw1
    | 2, _ => exact kw2
  have Z : En K mg c W (fun i => i = 7) := by
    refine ⟨?_, ?_, ?_, ?_, ?_, ?_, ?_, ?_, ?_, ?_, ?_, ?_, ?_, ?_, ⟨o2, o3⟩, fun i h => ?_, fun i h => ?_, fun i k h hk => ?_, fun i b h hb => ?_, fun i h => ?_, fun i h => ?_⟩
    · rw [hc]; exact PySem.W.mg_of X G acX0
    · rw [hc]; exact PySem.W.mg_of X G acX1
    · rw [hc]; exact PySem.W.mg_of X G acX4
    · rw [hc]; exact PySem.W.mg_of X G acX5
    · rw [hc]; exact PySem.W.mg_of X G acX6
    · rw [hc]; exact PySem.W.mg_of X G acX7
    · rw [hc]; exact PySem.W.mg_of X G acX8
    · rw [hc]; exact PySem.W.mg_of X G acX9
    · rw [hc]; exact PySem.W.mg_of X G acX12
    · rw [hc]; exact PySem.W.mg_of X G acX13
    · rw [hc]; exact PySem.W.mg_of X G acX15
    · rw [hW]; exact PySem.W.mg_of X G acW0
    · rw [hW]; exact PySem.W.mg_of X G acW1
    · rw [hW]; exact PySem.W.mg_of X G acW2
    · have h : i = 7 := h
      rw [h, hc7]; exact b7
    · have h : i = 7 := h
      rw [h]; decide
    · have h : i = 7 := h
      rw [h]; exact kc k hk
    · have h : i = 7 := h
      rw [h]; exact kw b hb
    · have h : i = 7 := h
      rw [h, hc7, hW]; exact ea
    · have h : i = 7 := h
      rw [h, hc7]; exact noX7
  refine ⟨PySem.W.fnOf "law" "law" (defArgs sLaw) (defBody sLaw) (defScope sLaw) .none kVLaw dcLaw pmLaw anLaw cdLaw ctLaw, cR, PT, hM, hC, nPT, fun s v => .of_eq rfl, fun base _ _ TB => ?_⟩
  have dInt : DefX l.prog w K mg base 1 "is_integer" pInt (spInt K) := ⟨_, _, ok_int FInt T, PySem.W.mg_of X G aInt, kInt, bInt⟩
  have dName : DefX l.prog w K mg base 1 "is_name" pName spName := ⟨_, _, ok_name FName T, PySem.W.mg_of X G aName, kName, bName⟩
  have dWgt : DefX l.prog w K mg base 3 "is_weight" pWgt spWgt := ⟨_, _, ok_wgt FWgt T dInt, PySem.W.mg_of X G aWgt, kWgt, bWgt⟩
  have dRoww : DefX l.prog w K mg base 5 "is_row" pRoww spRoww := ⟨_, _, ok_roww FRoww T dWgt, PySem.W.mg_of X G aRoww, kRoww, bRoww⟩
  have dWay : DefX l.prog w K mg base 7 "is_way" pWay spWay := ⟨_, _, ok_way FWay T dRoww, PySem.W.mg_of X G aWay, kWay, bWay⟩
  have dCMi : DefX l.prog w K mg base 3 "check_minds" pCMi spCMi := ⟨_, _, ok_cmi FCMi T dName, PySem.W.mg_of X G aCMi, kCMi, bCMi⟩
  have dCWa : DefX l.prog w K mg base 9 "check_ways" pCWa spCWa := ⟨_, _, ok_cwa FCWa T dWay, PySem.W.mg_of X G aCWa, kCWa, bCWa⟩
  have x7 : XN l.prog w K mg base "InvalidWays" cX7 "index" := ⟨b7, noX7, PySem.W.mg_of X G acX7, _, _, aI7, beq_iff_eq.mp iI7, ok_I7 FI7, bI7, fun s u v _ => .of_eq rfl⟩
  have dWgtI : DefX l.prog w K mg base 3 "is_weight" pWgt spWgtI := ⟨_, _, ok_wgtI FWgt T dInt, PySem.W.mg_of X G aWgt, kWgt, bWgt⟩
  have dRowI : DefX l.prog w K mg base 5 "is_row" pRoww spRowI := ⟨_, _, ok_rowI FRoww T dWgtI, PySem.W.mg_of X G aRoww, kRoww, bRoww⟩
  have dWayI : DefX l.prog w K mg base 7 "is_way" pWay spWayI := ⟨_, _, ok_wayI FWay T dRowI, PySem.W.mg_of X G aWay, kWay, bWay⟩
  have dCWb : DefE l.prog w K mg base 9 "check_ways" pCWa (spCWb cX7) := ⟨_, _, ok_cwb FCWa T dWayI x7, PySem.W.mg_of X G aCWa, kCWa, bCWa⟩
  have mkC : Mk K cC fCIn := ⟨mk, aCIn, iCIn, kcC⟩
  have gIn : FnOk l.prog w K mg base (L2N.CX l.prog w) 11 fCIn _ pCIn (spCI7 cC cX7) := FnOk.or (FnOk.toN (ok_cin FCIn T U dCMi dCWa)) (ok_ciw FCIn T dCMi dCWb)
  rw [← hc7] at gIn
  have MK : MkE l.prog w K mg base "Council" cC 11 pCIn (spCI7 cC (c 7)) ["ways", "minds"] kwL kwV := ⟨⟨_, _, mkC, gIn, bCIn, fun_kb FCIn (fun _ _ _ _ _ _ us ws h1 h2 => match us, ws, h1, h2 with | [_], [_, _], _, _ => rfl) fun r1 r2 => r1.append (vals_rev r2)⟩, PySem.W.mg_of X G acC⟩
  have gW : GetN l.prog w K mg base cC "ways" 1 (getSp cC "_ways") := ⟨⟨_, _, _, _, ⟨uCWy, vCWy, wCWy, ⟨_, xCWy⟩⟩, fn_getter lCWy cCWy scCWy rfl rfl U.cl nW, bCWy⟩⟩
  have dJug : DefX l.prog w K mg base 1 "_law_jug" ["_law_script", "_law_at"] (spJug K) := ⟨_, _, ok_jug FJug T, PySem.W.mg_of X G aJug, kJug, bJug⟩
  have dSip : DSip l.prog w K mg base := ⟨_, _, ok_sip FSip T, PySem.W.mg_of X G aSip, kSip, bSip⟩
  have dRow : DRow l.prog w K mg base := ⟨_, _, ok_row FRow T dSip, PySem.W.mg_of X G aRow, kRow, bRow⟩
  have dTalk : DTalk l.prog w K mg base := ⟨_, _, ok_talk FTalk T dRow, PySem.W.mg_of X G aTalk, kTalk, bTalk⟩
  have dPair : DefX l.prog w K mg base 5 "_law_pair" ["_law_jug_here", "_law_most_here"] spPair := ⟨_, _, ok_pair FPair T dSip dTalk, PySem.W.mg_of X G aPair, kPair, bPair⟩
  have dEnd : DefS l.prog w K mg base 21 "_law_ended" pEnd (spEnd l.prog w K mg base c (fun i => i = 7)) := ⟨_, _, ok_end FEnd T Z, PySem.W.mg_of X G aEnd, kEnd, bEnd⟩
  have dIsE : DefS l.prog w K mg base 22 "_law_is_ended" pIsE (spIsE l.prog w K mg base c (fun i => i = 7)) := ⟨_, _, ok_isE FIsE T dEnd, PySem.W.mg_of X G aIsE, kIsE, bIsE⟩
  have dIsR : DefX l.prog w K mg base 1 "_law_is_row" pIsR spRowI := ⟨_, _, ok_isr FIsR T, PySem.W.mg_of X G aIsR, kIsR, bIsR⟩
  have dDue : DefG l.prog w K mg base 3 "_law_due" pDue spDue := ⟨_, _, ok_due FDue T dIsR, PySem.W.mg_of X G aDue, kDue, bDue⟩
  have dBent : DefX l.prog w K mg base 3 "_law_bent" pBent spBent := ⟨_, _, ok_bent FBent T (PySem.W.mg_none_of X G zlist) dSip, PySem.W.mg_of X G aBent, kBent, bBent⟩
  have FC : FunC K "_law_right" "_law_right" sRight fRight (PySem.W.fnOf "_law_right" "_law_right" (defArgs sRight) (defBody sRight) (defScope sRight) .none kVRight dcRight pmRight anRight (.ref cR) ctRight) cR := ⟨_, _, _, _, _, _, _, _, rfl, lRight, cRight⟩
  have dRight : DefG l.prog w K mg base 24 "_law_right" pRight (spRight (TT PT)) := ⟨_, _, ok_right FC T TB dSip dPair dBent dDue dIsE MK gW U.cl, PySem.W.mg_of X G aRight, kRight, bRight⟩
  have dQuiet : DefG l.prog w K mg base 26 "_law_quiet" pQuiet (spRight (TT PT)) := ⟨_, _, ok_quiet FQuiet T dRight, PySem.W.mg_of X G aQuiet, kQuiet, bQuiet⟩
  exact ok_law FLaw T dJug dQuiet
end M

open PySem PySem.W PyProof.Rows
set_option maxRecDepth 100000 in
set_option maxHeartbeats 0 in
theorem PySem.Challenge.cw_alwaysagree_k04_ways_refused_holds : PySem.Challenge.rw_alwaysagree_k04_ways_refused.Holds := by
  w_on; o_law; k_head; (case hw => w_witness2)
  k_fill
  refine U.walkGT (l := PySem.Challenge.rw_alwaysagree_k04_ways_refused) (n := 63) (k := 28) (x := "_law_script") (sp := M.spLaw) rfl (by decide) rfl ⟨rfl, by decide, by decide⟩ (fun w h Y => PySem.W.km_in_of Y) (fun w h Y => PySem.W.km_tabs_of Y) ?F (fun K PT H a ns hl hP hS => ⟨a, ns, rfl, hS, hl, M.tabs0 hP, fun _ => rfl⟩)
  case F =>
    intro w mg fa h KX G hmg
    refine' M.all_mk KX G hmg ?aInt ?lInt ?cInt ?kInt ?aName ?lName ?cName ?kName ?aWgt ?lWgt ?cWgt ?kWgt ?aRoww ?lRoww ?cRoww ?kRoww ?aWay ?lWay ?cWay ?kWay ?aCMi ?lCMi ?cCMi ?kCMi ?aCWa ?lCWa ?cCWa ?kCWa ?aJug ?lJug ?cJug ?kJug ?aSip ?lSip ?cSip ?kSip ?aRow ?lRow ?cRow ?kRow ?aTalk ?lTalk ?cTalk ?kTalk ?aPair ?lPair ?cPair ?kPair ?aEnd ?lEnd ?cEnd ?kEnd ?aIsE ?lIsE ?cIsE ?kIsE ?aIsR ?lIsR ?cIsR ?kIsR ?aDue ?lDue ?cDue ?kDue ?aBent ?lBent ?cBent ?kBent ?aRight ?lRight ?cRight ?kRight ?aQuiet ?lQuiet ?cQuiet ?kQuiet ?aLaw ?lLaw ?cLaw ?kLaw ?acW0 ?acW1 ?acW2 ?acX0 ?acX1 ?acX4 ?acX5 ?acX6 ?acX7 ?aI7 ?iI7 ?lI7 ?cI7 ?kI7 ?lkX7 ?saX7 ?gaX7 ?ggX7 ?caX7 ?kcX7 ?noX7 ?acX8 ?acX9 ?acX12 ?acX13 ?acX15 ?acC ?aCIn ?iCIn ?lCIn ?cCIn ?kCIn ?uCWy ?vCWy ?wCWy ?xCWy ?lCWy ?cCWy ?kCWy ?pg ?hd ?po ?sa ?mk ?kcC ?nM ?nW ?o1 ?o2 ?o3 ?o5 ?gLETTERS ?gLETTERS_AND_DIGITS ?gLONGEST_NAME ?gMOST_MINDS ?gMOST_WAYS ?gMOST_WEIGHT ?zlen ?zrange ?zint ?zabs ?zdivmod ?zsum ?ztuple ?zall ?zmax ?zmin ?zstr ?zbool ?zisinstance ?zenumerate ?zrepr ?zlist ?hM ?hC ?nPT ?kt0 ?kt1 ?kt4 ?kt5 ?kt6 ?kt8 ?kt9 ?kt12 ?kt13 ?kt15 ?kw0 ?kw1 ?kw2 ?ea
    (case aInt => k_is)
    (case lInt => k_is)
    (case cInt => k_is)
    (case kInt => k_is)
    (case aName => k_is)
    (case lName => k_is)
    (case cName => k_is)
    (case kName => k_is)
    (case aWgt => k_is)
    (case lWgt => k_is)
    (case cWgt => k_is)
    (case kWgt => k_is)
    (case aRoww => k_is)
    (case lRoww => k_is)
    (case cRoww => k_is)
    (case kRoww => k_is)
    (case aWay => k_is)
    (case lWay => k_is)
    (case cWay => k_is)
    (case kWay => k_is)
    (case aCMi => k_is)
    (case lCMi => k_is)
    (case cCMi => k_is)
    (case kCMi => k_is)
    (case aCWa => k_is)
    (case lCWa => k_is)
    (case cCWa => k_is)
    (case kCWa => k_is)
    (case aJug => k_is)
    (case lJug => k_is)
    (case cJug => k_is)
    (case kJug => k_is)
    (case aSip => k_is)
    (case lSip => k_is)
    (case cSip => k_is)
    (case kSip => k_is)
    (case aRow => k_is)
    (case lRow => k_is)
    (case cRow => k_is)
    (case kRow => k_is)
    (case aTalk => k_is)
    (case lTalk => k_is)
    (case cTalk => k_is)
    (case kTalk => k_is)
    (case aPair => k_is)
    (case lPair => k_is)
    (case cPair => k_is)
    (case kPair => k_is)
    (case aEnd => k_is)
    (case lEnd => k_is)
    (case cEnd => k_is)
    (case kEnd => k_is)
    (case aIsE => k_is)
    (case lIsE => k_is)
    (case cIsE => k_is)
    (case kIsE => k_is)
    (case aIsR => k_is)
    (case lIsR => k_is)
    (case cIsR => k_is)
    (case kIsR => k_is)
    (case aDue => k_is)
    (case lDue => k_is)
    (case cDue => k_is)
    (case kDue => k_is)
    (case aBent => k_is)
    (case lBent => k_is)
    (case cBent => k_is)
    (case kBent => k_is)
    (case aRight => k_is)
    (case lRight => k_is)
    (case cRight => k_is)
    (case kRight => k_is)
    (case aQuiet => k_is)
    (case lQuiet => k_is)
    (case cQuiet => k_is)
    (case kQuiet => k_is)
    (case aLaw => k_is)
    (case lLaw => k_is)
    (case cLaw => k_is)
    (case kLaw => k_is)
    (case acW0 => k_is)
    (case acW1 => k_is)
    (case acW2 => k_is)
    (case acX0 => k_is)
    (case acX1 => k_is)
    (case acX4 => k_is)
    (case acX5 => k_is)
    (case acX6 => k_is)
    (case acX7 => k_is)
    (case aI7 => k_is)
    (case iI7 => k_is)
    (case lI7 => k_is)
    (case cI7 => k_is)
    (case kI7 => k_is)
    (case lkX7 => k_is)
    (case saX7 => k_is)
    (case gaX7 => k_is)
    (case ggX7 => k_is)
    (case caX7 => k_is)
    (case kcX7 => k_is)
    (case noX7 => k_is)
    (case acX8 => k_is)
    (case acX9 => k_is)
    (case acX12 => k_is)
    (case acX13 => k_is)
    (case acX15 => k_is)
    (case acC => k_is)
    (case aCIn => k_is)
    (case iCIn => k_is)
    (case lCIn => k_is)
    (case cCIn => k_is)
    (case kCIn => k_is)
    (case uCWy => k_is)
    (case vCWy => k_is)
    (case wCWy => k_is)
    (case xCWy => k_is)
    (case lCWy => k_is)
    (case cCWy => k_is)
    (case kCWy => k_is)
    (case pg => k_is)
    (case hd => k_is)
    (case po => k_is)
    (case sa => k_is)
    (case mk => k_is)
    (case kcC => k_is)
    (case nM => k_is)
    (case nW => k_is)
    (case o1 => k_is)
    (case o2 => k_is)
    (case o3 => k_is)
    (case o5 => k_is)
    (case gLETTERS => k_is)
    (case gLETTERS_AND_DIGITS => k_is)
    (case gLONGEST_NAME => k_is)
    (case gMOST_MINDS => k_is)
    (case gMOST_WAYS => k_is)
    (case gMOST_WEIGHT => k_is)
    (case zlen => k_is)
    (case zrange => k_is)
    (case zint => k_is)
    (case zabs => k_is)
    (case zdivmod => k_is)
    (case zsum => k_is)
    (case ztuple => k_is)
    (case zall => k_is)
    (case zmax => k_is)
    (case zmin => k_is)
    (case zstr => k_is)
    (case zbool => k_is)
    (case zisinstance => k_is)
    (case zenumerate => k_is)
    (case zrepr => k_is)
    (case zlist => k_is)
    (case hM => exact List.mem_singleton.mpr rfl)
    (case hC => kernel_rfl)
    (case nPT => kernel_rfl)
    (case kt0 => kernel_rfl)
    (case kt1 => kernel_rfl)
    (case kt4 => kernel_rfl)
    (case kt5 => kernel_rfl)
    (case kt6 => kernel_rfl)
    (case kt8 => kernel_rfl)
    (case kt9 => kernel_rfl)
    (case kt12 => kernel_rfl)
    (case kt13 => kernel_rfl)
    (case kt15 => kernel_rfl)
    (case kw0 => kernel_rfl)
    (case kw1 => kernel_rfl)
    (case kw2 => kernel_rfl)
    (case ea => kernel_rfl)

