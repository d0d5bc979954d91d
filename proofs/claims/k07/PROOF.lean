import PyProof.Rows.All
import Wide.All
import OpenK.AllK
import Wide.FinOn
import HandS.ForMost
import HandS.IsInst
import HandS.Property
import HandS.ClsMeth
import HandS.MakeKw
import HandS.MakeKwOnly
import HandS.OwnEq
import HandS.Flow
import HandS.Style
import HandS.TupAny
import HandS.Conv
import HandS.Codes
import HandS.Walk
import HandS.Wide
import HandS.WideBits
import HandS.StrMore
import HandS.Exc
import HandS.TryOnly
import HandS.TryMany
import HandS.ExcOwn
import HandS.WordsExc
import HandS.Small
import KE.KTupSum
import KE.GoesEnum
import PyProof.ReprRoads
import OpenK.KOps
import KE.KCallOwn
import KE.KFmtOwn
import PyProof.InstNe
import PyProof.ReprBulk
import KE.KRevSl
import PyProof.EqKinds
import PyProof.NeKinds
import PyProof.FactsAll.dict
import KE.KIntText
import KE.KxLen
import HandS.NoneIn
import PySem.Challenge.RW_alwaysagree_k07_councils_compared
set_option Elab.async false
set_option linter.all false
set_option maxRecDepth 100000
set_option maxHeartbeats 4000000
namespace U
open PySem L2

/-- a def of the text that lets nothing out, as its callers see it -/
structure DefX (P : Program) (w : World) (K : PySem.W.Frag) (mg : Str → Option Value) (base : Heap) (k : Nat) (x : Str) (ps : List Str) (sp : Sp) : Prop where
  ex : ∃ (f : Addr) (fd : FuncData), FnOk P w K mg base CX0 k f fd ps sp ∧ mg x = some (.ref f) ∧ PySem.W.keepIn K (.ref f) = true ∧ Binds K fd ps []

section
variable {X : Cx}
theorem pe_fn {k j : Nat} {x : Str} {ps : List Str} {sp : Sp} {e : Expr} {es : List Expr} {t : TA} {p pos : Pos} (D : DefX X.prog X.w X.K X.mg X.base k x ps sp) (hr : Room j X.A) (hk : k ≤ j)
    (ha : PA X (e :: es) t) (hg : Gl X x := by rfl) (hdb : (x == ("__debug__" : Str)) = false := by decide) (he : starEach (e :: es) X.env = (false, eval e X.env) :: starEach es X.env := by rfl) (hpl : (backTo pos (starEach es X.env)).any (·.1) = false := by rfl) :
    PE X (.Call (.Name x p) (e :: es) [] pos) (tCall sp [] E0 t) := by
  obtain ⟨f, fd, F, hm, hkp, hb⟩ := D.ex
  exact pe_call F (hr.mono hk) hg hm hkp hb .nil pass0 ha hdb he hpl
end

/-- a module's constant, by what it is -/
theorem pe_globE {X : Cx} {x : Str} {v : V} {pos : Pos} (h : ∃ u, X.mg x = some u ∧ RelV v u) (hg : Gl X x := by rfl) (hd : (x == ("__debug__" : Str)) = false := by decide) : PE X (.Name x pos) (tC v) := by
  obtain ⟨u, hm, r⟩ := h
  exact pe_glob hg hm r hd
/-! ### rules with the written part named (within a comprehension's block it must not hang on the block) -/
section
variable {X : Cx}
def rLenQ (K : PySem.W.Frag) : List V → Hp → VK → Prop := fun xs H Q => ∃ p ys, xs = [.ref p] ∧ (SqL K H p ys ∨ SqT K H p ys) ∧ Q (.int ys.length) H
theorem lenQ (K : PySem.W.Frag) (h : X.K = K := by rfl) : CallR X (.builtin "len") (rLenQ K) := by subst h; exact call_len_seq
def rTupO (K : PySem.W.Frag) : List V → Hp → VK → Prop := fun xs H Q => ∃ p ys, xs = [.ref p] ∧ ((SqL K H p ys ∧ ∀ l, H l = none → Q (.ref l) (upd H l (.tup ys))) ∨ (SqT K H p ys ∧ Q (.ref p) H))
theorem tupO (K : PySem.W.Frag) (h : X.K = K := by rfl) : CallR X (.type "tuple") (rTupO K) := by subst h; exact call_tuple_of
def rLstO (K : PySem.W.Frag) : List V → Hp → VK → Prop := fun xs H Q => ∃ p ys, xs = [.ref p] ∧ (SqL K H p ys ∨ SqT K H p ys) ∧ ∀ l, H l = none → Q (.ref l) (upd H l (.lst ys))
theorem lstO (K : PySem.W.Frag) (h : X.K = K := by rfl) : CallR X (.type "list") (rLstO K) := by subst h; exact call_list_of
theorem ixL (K : PySem.W.Frag) (h : X.K = K := by rfl) : IxR X (rIxL K) := by subst h; exact ix_list
theorem ixT (K : PySem.W.Frag) (h : X.K = K := by rfl) : IxR X (rIxT K) := by subst h; exact ix_tup
theorem slL (K : PySem.W.Frag) (h : X.K = K := by rfl) : SlR X (rSlL K) := by subst h; exact sl_list
theorem slA (K : PySem.W.Frag) (h : X.K = K := by rfl) : SlR X (rSlA K) := by subst h; exact sl_tupA
theorem sumL (K : PySem.W.Frag) (hc : X.calm = true := by rfl) (h : X.K = K := by rfl) : CallR X (.builtin "sum") (rSum K) := by subst h; exact cr_sum hc
theorem allL (K : PySem.W.Frag) (hc : X.calm = true := by rfl) (h : X.K = K := by rfl) : CallR X (.builtin "all") (rAll K) := by subst h; exact cr_all hc
theorem inQ (K : PySem.W.Frag) (h : X.K = K := by rfl) : OpR X (compareOp .In) (rIn K false) := by subst h; exact op_in_seq
theorem ninQ (K : PySem.W.Frag) (h : X.K = K := by rfl) : OpR X (compareOp .NotIn) (rIn K true) := by subst h; exact op_notIn_seq
theorem eqD (K : PySem.W.Frag) (hu : X.A.units + 64 < cLine) (h : X.K = K := by rfl) : OpR X (compareOp .Eq) (rEqD K) := by subst h; exact op_eqD hu
theorem neD (K : PySem.W.Frag) (hu : X.A.units + 64 < cLine) (h : X.K = K := by rfl) : OpR X (compareOp .NotEq) (rNeD K) := by subst h; exact op_neD hu
theorem catA (K : PySem.W.Frag) (h : X.K = K := by rfl) : OpR X (binaryOp .Add) (rCatA K) := by subst h; exact op_catA
theorem isiQ (K : PySem.W.Frag) (h : X.K = K := by rfl) : CallR X (.builtin "isinstance") (rIsi K) := by subst h; exact call_isi
theorem piL (K : PySem.W.Frag) {tg l : Expr} {tl : TE} (hl : PE X l tl) (h : X.K = K := by rfl) : PI X tg l (iList K tl) := by subst h; exact pi_list hl
theorem piT (K : PySem.W.Frag) {tg l : Expr} {tl : TE} (hl : PE X l tl) (h : X.K = K := by rfl) : PI X tg l (iTup K tl) := by subst h; exact pi_tup hl
def rJoin (K : PySem.W.Frag) : V → List V → Hp → VK → Prop := fun x xs H Q => ∃ a p, ∃ ys : List Str, x = .str a ∧ xs = [.ref p] ∧ (SqL K H p (ys.map V.str) ∨ SqT K H p (ys.map V.str)) ∧
    (ys.map (·.length)).sum + ys.length * a.length ≤ 16777216 ∧ Q (.str (Txt.join a ys)) H
theorem joinQ (K : PySem.W.Frag) (h : X.K = K := by rfl) : MtR X "str.join" (rJoin K) := by subst h; exact mt_join
variable {o e : Expr} {es : List Expr} {to : TE} {t : TA} {name : Str} {apos cpos : Pos} {T id : String} {r : V → List V → Hp → VK → Prop}
theorem pbm (K : PySem.W.Frag) (pa : PlainAttrs T) (slot : Slot T name id) (hty : typeOf (.builtin id) = pure (.type "method_descriptor")) (hm : MtR X id r) (ho : PE X o to) (ha : PA X (e :: es) t) (h : X.K = K := by rfl)
    (hbase : attributeBase o name X.env (eval o X.env) = eval o X.env := by rfl)
    (hfew : ((backTo cpos (starEach (e :: es) X.env)).all (fun x => !x.1) && (backToKw cpos (keywordEach [] X.env)).all (fun x => x.1.isSome)
      && decide ((e :: es).length + ([] : List Keyword).length + (if ([] : List Keyword).isEmpty then 0 else 1) < 30)) = true := by rfl)
    (hline : (apos.endLine == cpos.line) = true := by rfl) (hs : starEach (e :: es) X.env = (false, eval e X.env) :: starEach es X.env := by rfl) (hplain : (backTo cpos (starEach es X.env)).any (·.1) = false := by rfl) :
    PE X (.Call (.Attribute o name apos) (e :: es) [] cpos) (tBM K T r to t) := by
  subst h
  exact pe_bm pa slot hty hm ho ha hbase hfew hline hs hplain
theorem pbm0 (K : PySem.W.Frag) (pa : PlainAttrs T) (slot : Slot T name id) (hty : typeOf (.builtin id) = pure (.type "method_descriptor")) (hm : MtR X id r) (ho : PE X o to) (h : X.K = K := by rfl)
    (hbase : attributeBase o name X.env (eval o X.env) = eval o X.env := by rfl) (hline : (apos.endLine == cpos.line) = true := by rfl) : PE X (.Call (.Attribute o name apos) [] [] cpos) (tBM0 K T r to) := by
  subst h
  exact pe_bm0 pa slot hty hm ho hbase hline
theorem pjoin (K : PySem.W.Frag) {apos cpos : Pos} {o e : Expr} {to : TE} {t : TA} (ho : PE X o to) (ha : PA X [e] t) (h : X.K = K := by rfl)
    (hbase : attributeBase o "join" X.env (eval o X.env) = eval o X.env := by rfl)
    (hfew : ((backTo cpos (starEach [e] X.env)).all (fun x => !x.1) && (backToKw cpos (keywordEach [] X.env)).all (fun x => x.1.isSome)
      && decide ([e].length + ([] : List Keyword).length + (if ([] : List Keyword).isEmpty then 0 else 1) < 30)) = true := by rfl)
    (hline : (apos.endLine == cpos.line) = true := by rfl) (hs : starEach [e] X.env = (false, eval e X.env) :: starEach [] X.env := by rfl) (hplain : (backTo cpos (starEach [] X.env)).any (·.1) = false := by rfl) :
    PE X (.Call (.Attribute o "join" apos) [e] [] cpos) (tBM K "str" (rJoin K) to t) :=
  pbm K PySem.F.plainAttrs_str PySem.F.slot_str_join PySem.F.type_str_join (joinQ K h) ho ha h hbase hfew hline hs hplain
end

/-! ### data that never changes: tuples of tuples of plain values -/
mutual
inductive Im (H : Hp) : V → PyData → Prop
  | non : Im H .non .none
  | bl (b : Bool) : Im H (.bl b) (.bool b)
  | int (i : Int) : Im H (.int i) (.int i)
  | str (x : Str) : Im H (.str x) (.str x)
  | tup {a : Addr} {xs : List V} {ds : List PyData} : H a = some (.tup xs) → ImAll H xs ds → Im H (.ref a) (.tuple ds)
inductive ImAll (H : Hp) : List V → List PyData → Prop
  | nil : ImAll H [] []
  | cons {v : V} {vs : List V} {d : PyData} {ds : List PyData} : Im H v d → ImAll H vs ds → ImAll H (v :: vs) (d :: ds)
end
/-- the tuples stand -/
def TupS (H H' : Hp) : Prop := ∀ a xs, H a = some (.tup xs) → H' a = some (.tup xs)
mutual
theorem Im.mono {H H' : Hp} (k : TupS H H') : ∀ (d : PyData) (v : V), Im H v d → Im H' v d
  | .none, _, h => by cases h; exact .non
  | .bool _, _, h => by cases h; exact .bl _
  | .int _, _, h => by cases h; exact .int _
  | .str _, _, h => by cases h; exact .str _
  | .list _, _, h => by cases h
  | .dict _, _, h => by cases h
  | .tuple ds, _, h => by
    cases h with
    | tup h1 h2 => exact .tup (k _ _ h1) (ImAll.mono k ds _ h2)
theorem ImAll.mono {H H' : Hp} (k : TupS H H') : ∀ (ds : List PyData) (vs : List V), ImAll H vs ds → ImAll H' vs ds
  | [], _, h => by cases h; exact .nil
  | d :: ds, _, h => by
    cases h with
    | cons h1 h2 => exact .cons (Im.mono k d _ h1) (ImAll.mono k ds _ h2)
end
mutual
theorem Im.dp {K : PySem.W.Frag} {H : Hp} : ∀ (d : PyData) (v : V), Im H v d → Dp K H v d
  | .none, _, h => by cases h; exact .non
  | .bool _, _, h => by cases h; exact .bl _
  | .int _, _, h => by cases h; exact .int _
  | .str _, _, h => by cases h; exact .str _
  | .list _, _, h => by cases h
  | .dict _, _, h => by cases h
  | .tuple ds, _, h => by
    cases h with
    | tup h1 h2 => exact .tup (SqT.of h1) (ImAll.dp ds _ h2)
theorem ImAll.dp {K : PySem.W.Frag} {H : Hp} : ∀ (ds : List PyData) (vs : List V), ImAll H vs ds → DpAll K H vs ds
  | [], _, h => by cases h; exact .nil
  | d :: ds, _, h => by
    cases h with
    | cons h1 h2 => exact .cons (Im.dp d _ h1) (ImAll.dp ds _ h2)
end
theorem Same.tups {H H' : Hp} (s : Same H H') : TupS H H' := fun a xs e => s a _ e
theorem ImAll.length {H : Hp} : ∀ {ds : List PyData} {vs : List V}, ImAll H vs ds → vs.length = ds.length
  | [], _, h => by cases h; rfl
  | d :: ds, _, h => by
    cases h with
    | cons h1 h2 => rw [List.length_cons, List.length_cons, ImAll.length h2]
theorem ImAll.get {H : Hp} : ∀ {ds : List PyData} {vs : List V} {i : Nat} {v : V}, ImAll H vs ds → vs[i]? = some v → ∃ d, ds[i]? = some d ∧ Im H v d
  | [], _, _, _, h, e => by cases h; simp at e
  | d :: ds, _, 0, _, h, e => by
    cases h with
    | cons h1 h2 =>
      rw [List.getElem?_cons_zero] at e
      cases e
      exact ⟨d, rfl, h1⟩
  | d :: ds, _, i + 1, v, h, e => by
    cases h with
    | cons h1 h2 =>
      rw [List.getElem?_cons_succ] at e
      obtain ⟨d', q1, q2⟩ := ImAll.get (i := i) (v := v) h2 e
      exact ⟨d', by rw [List.getElem?_cons_succ]; exact q1, q2⟩
theorem ImAll.snoc {H : Hp} {d : PyData} {v : V} (h : Im H v d) : ∀ {ds : List PyData} {vs : List V}, ImAll H vs ds → ImAll H (vs ++ [v]) (ds ++ [d])
  | [], _, q => by cases q; exact .cons h .nil
  | _ :: _, _, q => by
    cases q with
    | cons h1 h2 => exact .cons h1 (ImAll.snoc h h2)
theorem imInts {H : Hp} : ∀ r : List Int, ImAll H (r.map V.int) (r.map PyData.int)
  | [] => .nil
  | z :: r => .cons (.int z) (imInts r)
theorem imStrs {H : Hp} : ∀ r : List Str, ImAll H (r.map V.str) (r.map PyData.str)
  | [] => .nil
  | z :: r => .cons (.str z) (imStrs r)
theorem ImAll.ints {H : Hp} : ∀ {r : List Int} {vs : List V}, ImAll H vs (r.map PyData.int) → vs = r.map V.int
  | [], _, h => by cases h; rfl
  | z :: r, _, h => by
    cases h with
    | cons h1 h2 =>
      cases h1
      rw [ImAll.ints h2]; rfl
theorem ImAll.strs {H : Hp} : ∀ {r : List Str} {vs : List V}, ImAll H vs (r.map PyData.str) → vs = r.map V.str
  | [], _, h => by cases h; rfl
  | z :: r, _, h => by
    cases h with
    | cons h1 h2 =>
      cases h1
      rw [ImAll.strs h2]; rfl
theorem Im.tuple {H : Hp} {v : V} {ds : List PyData} (h : Im H v (.tuple ds)) : ∃ a xs, v = .ref a ∧ H a = some (.tup xs) ∧ ImAll H xs ds := by
  cases h with
  | tup h1 h2 => exact ⟨_, _, rfl, h1, h2⟩

/-! ### readings: two ways that meet -/
theorem tif_int {c : Prop} [Decidable c] {ta tb : TE} {σ : St} {H : Hp} {Q : VK} (C : Int → Prop) (hA : c → ∀ Q' : VK, (∀ z, C z → Q' (.int z) H) → ta σ H Q') (hB : ¬ c → ∀ Q' : VK, (∀ z, C z → Q' (.int z) H) → tb σ H Q')
    (h : ∀ z, C z → Q (.int z) H) : if c then ta σ H Q else tb σ H Q := by
  by_cases e : c
  · rw [if_pos e]; exact hA e Q h
  · rw [if_neg e]; exact hB e Q h
theorem tifS_join {c : Prop} [Decidable c] {t u : TS} {D : Ends} {σ : St} {H : Hp} (P : St → Hp → Prop) (hA : c → ∀ N : St → Hp → Prop, (∀ σ' H', P σ' H' → N σ' H') → t { D with nx := N } σ H)
    (hB : ¬ c → ∀ N : St → Hp → Prop, (∀ σ' H', P σ' H' → N σ' H') → u { D with nx := N } σ H) (h : ∀ σ' H', P σ' H' → D.nx σ' H') : if c then t D σ H else u D σ H := by
  by_cases e : c
  · rw [if_pos e]; exact hA e D.nx h
  · rw [if_neg e]; exact hB e D.nx h
theorem yes {σ : St} {H : Hp} {Q : Bool → Hp → Prop} (h : Q true H) : tYes σ H Q := h
theorem turnY {σ : St} {H : Hp} {A B : Hp → Prop} (h : A H) : tYes σ H (fun b H3 => if b = true then A H3 else B H3) := by
  show if true = true then A H else B H
  rw [if_pos rfl]; exact h
theorem same_upd {H : Hp} {a : Addr} {o : HO} (h : H a = none) : Same H (upd H a o) := fun b u e => by
  rw [upd_ne (ne_of_none e h)]; exact e

/-! ### all but one thing stands -/
def But (j : Addr) (H H' : Hp) : Prop := ∀ b o, b ≠ j → H b = some o → H' b = some o
theorem But.refl {j : Addr} {H : Hp} : But j H H := fun _ _ _ e => e
theorem But.trans {j : Addr} {H H1 H2 : Hp} (a : But j H H1) (b : But j H1 H2) : But j H H2 := fun c o n e => b c o n (a c o n e)
theorem But.of {j : Addr} {H H' : Hp} (s : Same H H') : But j H H' := fun b o _ e => s b o e
theorem But.new {j a : Addr} {H : Hp} {o : HO} (h : H a = none) : But j H (upd H a o) := .of (same_upd h)
/-- a thing of ours, made after H, is changed -/
theorem But.put {j a : Addr} {H H' : Hp} {o : HO} (b : But j H H') (h : H a = none) : But j H (upd H' a o) := fun c u n e => by
  rw [upd_ne (ne_of_none e h)]; exact b c u n e
theorem But.free {j a : Addr} {H H' : Hp} {o : HO} (b : But j H H') (hj : H' j = some o) (h : H' a = none) : H a = none := by
  cases e : H a with
  | none => rfl
  | some u =>
    have n : a ≠ j := fun z => by rw [z, hj] at h; cases h
    rw [b a u n e] at h; cases h
/-- a jug stands at j -/
def JugAt (H : Hp) (j : Addr) : Prop := ∃ a b c : Int, H j = some (.lst [.int a, .int b, .int c]) ∧ 0 ≤ a
theorem JugAt.upd {H : Hp} {j a : Addr} {o : HO} (h : JugAt H j) (n : H a = none) : JugAt (upd H a o) j := by
  obtain ⟨x, b, c, e, q⟩ := h
  exact ⟨x, b, c, by rw [upd_ne (ne_of_none e n)]; exact e, q⟩
theorem JugAt.ne {H : Hp} {j a : Addr} (h : JugAt H j) (n : H a = none) : j ≠ a := by
  obtain ⟨x, b, c, e, q⟩ := h
  exact ne_of_none e n
theorem JugAt.put {H : Hp} {j a : Addr} {o : HO} (h : JugAt H j) (n : j ≠ a) : JugAt (L2.upd H a o) j := by
  obtain ⟨x, b, c, e, q⟩ := h
  exact ⟨x, b, c, by rw [upd_ne n]; exact e, q⟩
theorem JugAt.same {H H' : Hp} {j : Addr} (h : JugAt H j) (s : Same H H') : JugAt H' j := by
  obtain ⟨x, b, c, e, q⟩ := h
  exact ⟨x, b, c, s _ _ e, q⟩
theorem But.tups {H H' : Hp} {j : Addr} (b : But j H H') (h : JugAt H j) : TupS H H' := fun a xs e => by
  obtain ⟨x, y, c, q, _⟩ := h
  exact b a _ (ne_of e q (by intro z; cases z)) e
theorem But.freeJ {j a : Addr} {H H' : Hp} (b : But j H H') (hj : JugAt H' j) (h : H' a = none) : H a = none := by
  obtain ⟨x, y, c, q, _⟩ := hj
  exact b.free q h
theorem TupS.trans {H H1 H2 : Hp} (a : TupS H H1) (b : TupS H1 H2) : TupS H H2 := fun p xs e => b p xs (a p xs e)
theorem TupS.lst {H : Hp} {D : Addr} {xs : List V} {o : HO} (h : H D = some (.lst xs)) : TupS H (upd H D o) := fun a ys e => by
  rw [upd_ne (ne_of e h (by intro z; cases z))]; exact e
theorem TupS.new {H : Hp} {D : Addr} {o : HO} (h : H D = none) : TupS H (upd H D o) := Same.tups (same_upd h)
/-- a written list of ints, at a place in it -/
theorem pick {xs : List Int} {d : Int} (h0 : 0 ≤ d) (h1 : d < xs.length) : ∃ z, z ∈ xs ∧ atI (xs.map V.int) d = some (.int z) := by
  obtain ⟨k, rfl⟩ : ∃ k : Nat, d = k := ⟨d.toNat, by omega⟩
  have hk : k < xs.length := by omega
  exact ⟨xs[k], List.getElem_mem hk, atI_nat (by rw [List.getElem?_map, List.getElem?_eq_getElem hk]; rfl)⟩
theorem pickV {xs : List V} {d : Int} (h0 : 0 ≤ d) (h1 : d < xs.length) : ∃ z, z ∈ xs ∧ atI xs d = some z := by
  obtain ⟨k, rfl⟩ : ∃ k : Nat, d = k := ⟨d.toNat, by omega⟩
  have hk : k < xs.length := by omega
  exact ⟨xs[k], List.getElem_mem hk, atI_nat (List.getElem?_eq_getElem hk)⟩

/-! ### councils as plain data -/
def dRow (r : List Int) : PyData := .tuple (r.map PyData.int)
def dWay (w : List (List Int)) : PyData := .tuple (w.map dRow)
def dWays (ws : List (List (List Int))) : PyData := .tuple (ws.map dWay)
def dMinds (ms : List Str) : PyData := .tuple (ms.map PyData.str)
def RowOk (n : Nat) (r : List Int) : Prop := r.length = n ∧ (∀ x ∈ r, 0 ≤ x ∧ x ≤ 1000000000) ∧ 0 < r.sum
def WayOk (n : Nat) (w : List (List Int)) : Prop := w.length = n ∧ ∀ r ∈ w, RowOk n r
def pool8 : List Str := ["ann", "bob", "cyd", "d2", "e", "z9999999", "abe", "x"]
/-- what the law draws: up to six minds of the pool, up to four ways -/
structure Drawn (ms : List Str) (ws : List (List (List Int))) : Prop where
  m1 : 1 ≤ ms.length
  m6 : ms.length ≤ 6
  nd : ms.Nodup
  pool : ∀ x ∈ ms, x ∈ pool8
  w1 : 1 ≤ ws.length
  w4 : ws.length ≤ 4
  way : ∀ w ∈ ws, WayOk ms.length w
  sm : ∀ w ∈ ws, ∀ r ∈ w, ∀ x ∈ r, x ≤ 7 ∨ x = 1000000000


/-! ### the sum of a tuple of ints -/
def rSumT (K : PySem.W.Frag) : List V → Hp → VK → Prop := fun vs H Q => ∃ (a : Addr) (ns : List Int), vs = [V.ref a] ∧ SqT K H a (ns.map V.int) ∧ Q (.int ns.sum) H
theorem sumT {X : Cx} (K : PySem.W.Frag) (hc : X.calm = true := by rfl) (h : X.K = K := by rfl) : CallR X (.builtin "sum") (rSumT K) := by
  subst h
  intro pins s σ H vs us Q I r h
  obtain ⟨a, ns, rfl, hs, q⟩ := h
  obtain ⟨its, rv, hl, _⟩ := I.tuple hs
  cases r with
  | cons r1 rr =>
    cases rr
    cases r1
    have hi := intsAre_of rv
    obtain ⟨xs, e⟩ := hi.allInts.items
    have hn : numsOf (intItems xs).toList = ns := by rw [← e]; exact hi.numsOf
    rw [nums_intItems] at hn
    rw [e] at hl
    refine PySem.W.ktm_sumG (I.ok.hd hc) hl fun h' tk t' hk => ?_
    rw [preSum_eq, List.take_of_length_le (by simp), hn]
    exact ⟨.int ns.sum, H, I.kept (t' := tk) hk, ⟨_, rfl⟩, q⟩

/-! ### a comprehension whose turns leave what stood: what it makes is told ahead -/
def PvS (H : Hp) (D : Addr) (fl : List V) (i : Nat) (H1 : Hp) : Prop := Same H H1 ∧ H1 D = some (.lst (fl.take i))
section
variable {H H1 H2 : Hp} {D : Addr} {fl : List V} {i : Nat} {y : V}
theorem pvs0 (hD : H D = none) : PvS H D fl 0 (upd H D (.lst [])) := ⟨same_upd hD, upd_same⟩
theorem pvs1 (hD : H D = none) (h : PvS H D fl i H1) (s : Same H1 H2) (hn : fl.length ≤ 1000) (hf : fl[i]? = some y) : ∃ acc : List V, H2 D = some (.lst acc) ∧ acc.length < sizeLine ∧
    PvS H D fl (i + 1) (upd H2 D (.lst (acc ++ [y]))) := by
  refine ⟨_, s D _ h.2, small1000 (by rw [List.length_take]; omega), fun b o e => ?_, ?_⟩
  · rw [upd_ne (ne_of_none e hD)]
    exact s b o (h.1 b o e)
  · rw [upd_same, List.take_succ, hf]
    rfl
theorem pvsE {n : Nat} (h : PvS H D fl n H1) (hn : fl.length = n) : Same H H1 ∧ H1 D = some (.lst fl) := by
  obtain ⟨a, b⟩ := h
  rw [← hn, List.take_length] at b
  exact ⟨a, b⟩
end
end U

namespace U
open PySem L2 PySem.Spec PyProof.Rows
/-! ### enumerate(t), t a tuple -/
abbrev tIt (t : Addr) : Obj := { cls := .type "tuple_iterator", data := .fields #[.ref t, .int 0 0] }
abbrev eOb (i : Addr) : Obj := { cls := .type "enumerate", data := .fields #[.none, .bool false, .ref i, rawInt 0, .none, .none] }
theorem enumT_new (t : Addr) (items : Array Value) : Meets (Builtin.«enumerate.__new__» ⟨[.type "enumerate", .ref t], []⟩) (fun _ R s => s.heap.IsTuple t items ∧
    R (.ok (.ret (.ref (s.heap.push (tIt t)).objs.size))) { s with heap := (s.heap.push (tIt t)).push (eOb s.heap.objs.size) }) :=
  Meets.of_wp fun prog w A R s h => by
    obtain ⟨hp, g, d, tk, os⟩ := s
    obtain ⟨ht, h⟩ := h
    have hsub := sub_enumerate
    have step : ∀ {A' : Around} {E Q : Value → Shared → Prop}, Q (.ref hp.objs.size) ⟨hp.push (tIt t), g, d, tk, os⟩ → wpAny (model prog w) A' (pyIter (.ref t)) Q E ⟨hp, g, d, tk, os⟩ := fun q => wpAny_pyIter_tuple ht q
    wp_walk using step
    refine wpAny_stack_any fun st => wpAny_pure ?_
    split
    · rename_i c _ _ _ _ _
      cases (c == Value.type "enumerate") <;> (wp_walk using step; exact ⟨_, rfl, h⟩)
    · wp_walk using step
      exact ⟨_, rfl, h⟩
theorem call_enumT {prog : Program} {w : World} {A : Around} {E : Value → Shared → Prop} {s : Shared} {t : Addr} {items : Array Value} {Q : Value → Shared → Prop} (ht : s.heap.IsTuple t items)
    (h : ∀ h', IsEnum h' (s.heap.objs.size + 1) s.heap.objs.size 0 .none → h'.IsTupleIter s.heap.objs.size t 0 → (∀ b o, s.heap.get? b = some o → h'.get? b = some o) → Q (.ref (s.heap.objs.size + 1)) { s with heap := h' }) :
    wpAny (model prog w) A (call (.type "enumerate") [.ref t]) Q E s := by
  refine callType_new F.called_enumerate (by decide) (F.typeCall_enumerate_1 _) (F.newCall_enumerate_1 _) (fun obj => F.args_object_init_2 obj _) F.entry_enumerate_new (enumT_new t items) ⟨ht, ?_⟩
  have hz : (s.heap.push (tIt t)).objs.size = s.heap.objs.size + 1 := Heap.size_push ..
  show _ ∧ _
  rw [hz]
  have he : IsEnum ((s.heap.push (tIt t)).push (eOb s.heap.objs.size)) (s.heap.objs.size + 1) s.heap.objs.size 0 .none := by
    have q := Heap.get?_push_size (s.heap.push (tIt t)) (o := eOb s.heap.objs.size) rfl
    rw [hz] at q
    exact q
  exact ⟨⟨_, he, rfl⟩, h _ he ⟨_, Heap.get?_push_of_some _ (Heap.get?_push_size _ rfl), rfl, rfl⟩ fun b o x => Heap.get?_push_of_some _ (Heap.get?_push_of_some _ x)⟩
/-- the tuple at a, each item in a new pair -/
def IteT (K : PySem.W.Frag) (a : Addr) : It where
  go := fun i H => ∃ (xs : List V) (x : V), SqT K H a xs ∧ xs[i]? = some x
  yld := fun i H v H' => ∃ (T : Addr) (x : V), v = .ref T ∧ H T = none ∧ H' = upd H T (.tup [.int (i : Nat), x]) ∧ ∀ xs : List V, SqT K H a xs → xs[i]? = some x
  stop := fun i H => ∃ xs : List V, SqT K H a xs ∧ xs.length = i
theorem turn_enumT {P : Program} {w : World} {K : PySem.W.Frag} {elts : List Expr} {kk : Nat} {tpos : Pos} (a e it : Addr) (hat : a ≠ it) :
    Turn P w K (.Tuple elts kk tpos) (IteT K a) [e, it] e (fun i h => (∃ old, IsEnum h e it ((i : Nat) : Int) old) ∧ h.IsTupleIter it a i ∧ e ≠ it ∧ e ≠ a) where
  mem := by simp
  obj := fun i h st b hb => by
    obtain ⟨⟨old, he⟩, ⟨o, ho, hc, hd⟩, _⟩ := st
    rcases (by simpa using hb : b = e ∨ b = it) with rfl | rfl
    · exact ⟨_, he, fun v q => nomatch q⟩
    · exact ⟨o, ho, fun v q => by rw [hd] at q; cases q⟩
  keep := fun i h h' st k => by
    obtain ⟨⟨old, he⟩, hi, h1, h2⟩ := st
    exact ⟨⟨old, k e (by simp) _ he⟩, hi.at fun o q => k it (by simp) o q, h1, h2⟩
  item := by
    intro X hP hw hK hc i pins s σ H E I hf st hg
    subst hP hw hK
    obtain ⟨⟨old, he⟩, hit, hne, hea⟩ := st
    obtain ⟨xs, x, hq, hx⟩ := hg
    obtain ⟨its, rv, p, hz⟩ := I.tuple hq
    obtain ⟨u, hu, ru⟩ := rv.get hx
    have D := Draws.tuple (prog := X.prog) (w := X.w) (A := X.A.in1) (I.ok.hd hc) it a hat its.toArray
    have hi : i < its.toArray.size := by
      have := (List.getElem?_eq_some_iff.mp hu).1
      simpa using this
    have hel : e < s.heap.objs.size := Heap.lt_size he
    have hil : it < s.heap.objs.size := by obtain ⟨_, q, _⟩ := hit; exact Heap.lt_size q
    refine wpAny_pyNext_enum_itemC D he ⟨hit, p⟩ hi hne (by simp [hne, hea]) fun y h' tk hy ho hst hT hsz hk => ?_
    have hyu : y = u := by
      have : its.toArray[i]? = some u := by simpa using hu
      rw [this] at hy
      exact (Option.some.inj hy).symm
    subst hyu
    refine ⟨_, rfl, wpAny_letOwnedTupleGo_enum (s := { s with heap := h', toks := tk + 1 }) ho fun h'' he' sb => ?_⟩
    have hT2 : h''.get? s.heap.objs.size = some { cls := .type "tuple", data := .seq #[.int i tk, y] } := (sb.2 _ (Nat.ne_of_gt hel)).trans hT
    have new : ObjOk X.prog X.w (upd H s.heap.objs.size (.tup [.int (i : Nat), x])) h'' s.heap.objs.size (.tup [.int (i : Nat), x]) :=
      ⟨by show 2 ≤ sizeLine; decide, [.int i tk, y], .cons ⟨_, rfl⟩ (.cons ru .nil), _, hT2, rfl, _, rfl⟩
    have I1 : Inv X pins σ (upd H s.heap.objs.size (.tup [.int (i : Nat), x])) { s with heap := h'', toks := tk + 1 } := by
      refine I.turnedNew (ch := [e, it]) (fun b ob hb q => ?_) hf (Nat.le_refl _) new
      have n1 : b ≠ e := fun z => hb (by simp [z])
      have n2 : b ≠ it := fun z => hb (by simp [z])
      exact (sb.2 b n1).trans (hk b ob n1 n2 q)
    refine ⟨.ref s.heap.objs.size, _, I1, rfl, ⟨_, x, rfl, I.hok.fresh (Nat.le_refl _), rfl, fun ys hy => by rw [I.tuple_inj hy hq]; exact hx⟩, ⟨⟨y, ?_⟩, hst.1.at fun o q => (sb.2 it (Ne.symm hne)).trans q, hne, hea⟩, fun b hb => ?_⟩
    · have e1 : ((i + 1 : Nat) : Int) = (i : Int) + 1 := by omega
      rw [e1]
      exact he'
    · have hb' : b < s.heap.objs.size := by
        rcases (by simpa using hb : b = e ∨ b = it) with rfl | rfl
        · exact hel
        · exact hil
      rw [upd_ne (Nat.ne_of_lt hb')]
      exact (hf b hb).1
  done := by
    intro X hP hw hK hc i pins s σ H E I hf st hg
    subst hP hw hK
    obtain ⟨⟨old, he⟩, hit, hne, hea⟩ := st
    obtain ⟨xs, hq, hx⟩ := hg
    obtain ⟨its, rv, p, hz⟩ := I.tuple hq
    have D := Draws.tuple (prog := X.prog) (w := X.w) (A := X.A.in1) (I.ok.hd hc) it a hat its.toArray
    have hl := rv.length
    obtain ⟨f0, f1, f2, f3, f4, f5⟩ := hf it (by simp)
    have en : its.toArray.size = i := by simp only [List.size_toArray]; omega
    subst en
    exact wpAny_pyNext_enum_endD D he ⟨hit, p⟩ fun h' eb => ⟨rfl, I.turned (t' := s.toks) (fun b o hb q => eb b o hb q) f0 f1 f3 f4 f5⟩
  self := fun A i s Q E st h => by
    obtain ⟨⟨_, he⟩, _⟩ := st
    exact wpAny_pyIter_enum he h
/-- a walk over enumerate(t) -/
def iEnumT (K : PySem.W.Frag) (ta : TA) : TI := fun σ H R => ta σ H fun vs H1 => ∃ (a : Addr) (xs : List V), vs = [.ref a] ∧ SqT K H1 a xs ∧ R (IteT K a) H1
theorem pi_enumT {X : Cx} (K : PySem.W.Frag) {e : Expr} {ta : TA} {p pos tpos : Pos} {elts : List Expr} {kk : Nat} (hg : Gl X "enumerate") (hm : X.mg "enumerate" = none) (ha : PA X [e] ta) (hK : X.K = K := by rfl) (hs : starEach [e] X.env = [(false, eval e X.env)] := by rfl) :
    PI X (.Tuple elts kk tpos) (.Call (.Name "enumerate" p) [e] [] pos) (iEnumT K ta) := by
  subst hK
  constructor
  intro pins s σ H R I h
  refine Call_ (ld_blt I hg hm boot_enumerate (callWith_type1 (thn (ha.run pos pins s σ H _ I h) fun us s1 ⟨vs, H1, I1, r1, a, xs, ex, hq, q⟩ => ?_) hs rfl))
  subst ex
  cases r1 with
  | cons r rr =>
    cases rr
    cases r
    obtain ⟨its, rv, p', hz⟩ := I1.tuple hq
    have hal : a < s1.heap.objs.size := p'.lt
    refine call_enumT p' fun h' he hit hk => wpAny_pyIter_enum he ?_
    have I2 : Inv X pins σ H1 { s1 with heap := h' } := I1.kept (t' := s1.toks) hk
    refine ⟨s1.heap.objs.size + 1, [s1.heap.objs.size + 1, s1.heap.objs.size], _, _, H1, rfl, I2, turn_enumT a (s1.heap.objs.size + 1) s1.heap.objs.size (Nat.ne_of_lt hal), ⟨⟨.none, he⟩, hit, Nat.succ_ne_self _, Nat.ne_of_gt (Nat.lt_succ_of_lt hal)⟩, fun b hb => ?_, q⟩
    have hle : s1.heap.objs.size ≤ b := by
      rcases (by simpa using hb : b = s1.heap.objs.size + 1 ∨ b = s1.heap.objs.size) with rfl | rfl
      · exact Nat.le_add_right _ _
      · exact Nat.le_refl _
    exact I1.fpOk hle (I1.hok.fresh hle)
theorem walk_enumT {K : PySem.W.Frag} {a : Addr} {xs : List V} : Walk (IteT K a) xs.length (fun H => SqT K H a xs) (fun i H v H' => ∃ (T : Addr) (x : V), v = .ref T ∧ H T = none ∧ H' = upd H T (.tup [.int (i : Nat), x]) ∧ xs[i]? = some x) where
  goes := fun i H hi hq => ⟨xs, xs[i], hq, by rw [List.getElem?_eq_getElem hi]⟩
  stops := fun H hq => ⟨xs, hq, rfl⟩
  yields := fun i H v H' hi hq ⟨T, x, h1, h2, h3, h4⟩ => ⟨T, x, h1, h2, h3, h4 xs hq⟩
end U

namespace U
open PySem L2 PySem.Spec PyProof.Rows
/-! ### defs that show data (repr asks that no repr is under way): a promise that holds where no guard stands -/
structure FnG (P : Program) (w : World) (K : PySem.W.Frag) (mg : Str → Option Value) (base : Heap) (CX : CXT) (k : Nat) (f : Addr) (fd : FuncData) (ps : List Str) (sp : Sp) : Prop where
  len : ∀ vs H Q E, sp vs H Q E → vs.length = ps.length
  run : ∀ (A : Around) (outer : List Env) (s : Shared) (H : Hp) (args : Args) (us : List Value) (vs : List V) (Q : VK) (E : XK), A.guards = some [] → Room k A → Env0 P w K mg base A outer s H →
    BindsTo s fd args (ps.zip us) → Vals vs us → sp vs H Q E → codeAny (model P w) A (.call (.ref f) args) (CR CX outer P w H s Q E) s
theorem FnG.of {P : Program} {w : World} {K : PySem.W.Frag} {mg : Str → Option Value} {base : Heap} {CX : CXT} {k : Nat} {f : Addr} {fd : FuncData} {ps : List Str} {sp : Sp} (F : FnOk P w K mg base CX k f fd ps sp) : FnG P w K mg base CX k f fd ps sp :=
  ⟨F.len, fun A outer s H args us vs Q E _ hr e0 hb r h => F.run A outer s H args us vs Q E hr e0 hb r h⟩
theorem fnG_of {P : Program} {w : World} {K : PySem.W.Frag} {mg : Str → Option Value} {base : Heap} {CX : CXT} {x qual : Str} {st : Stmt} {f : Addr} {fd : FuncData} {N ps : List Str} {k : Nat} {sp : Sp} (F : Fun K x qual st f fd) (S : FnScope N ps (defScope st))
    (len : ∀ vs H Q E, sp vs H Q E → vs.length = ps.length)
    (body : ∀ (cdv : Value) (A : Around) (outer : List Env) (s : Shared) (H : Hp) (vs : List V) (Q : VK) (E : XK), (A.deeper (envOfC qual (defScope st) s.heap.objs.size f cdv)).guards = some [] →
      Room k (A.deeper (envOfC qual (defScope st) s.heap.objs.size f cdv)) → sp vs H Q E →
      ∃ t, PSs (cxOf CX P w K mg base N qual (defScope st) f cdv A outer s H E) (defBody st) t ∧ t { nx := fun _ H' => Q .non H', rt := Q } (start N vs) H) : FnG P w K mg base CX (k + 1) f fd ps sp := by
  obtain ⟨oc, od, kV, doc, pm, an, cdv, ct, osl, rfl, lk, hcd⟩ := F.ex
  constructor
  · exact len
  intro A outer s H args us vs Q E hgd hr e0 hb r hsp
  have X0 : K.In s.heap := e0.mod.kin.keeps fun b o e => (e0.bs b o e).1
  have L0 : s.heap.NoLimit := e0.mod.nolimit.keeps fun b o e => (e0.bs b o e).1
  have kinds : ∀ y ∈ ps.zip us, (defScope st).names.lookup y.1 = some .local ∨ ((defScope st).names.lookup y.1 = some .cell ∧ ((cellsFrom (s.heap.objs.size + 1) (defScope st).names []).lookup y.1).isSome = true) := by
    rintro ⟨n, v⟩ hy
    rcases S.par n (List.of_mem_zip hy).1 with q | q
    · exact Or.inl q
    · exact Or.inr ⟨q, PySem.W.cellsFrom_some _ _ _ (Or.inl q)⟩
  refine codeAny_call_function hr.depth (X0 _ _ lk) rfl S.co S.gen rfl (PySem.W.codeRec_of X0 hcd) (hb _ _ _ _ ?_)
  refine wpAny_newFunctionEnv_cells S.kind kinds fun env he s1 x => ?_
  subst he
  refine ⟨L0.keeps x.toInCall.keep, codeAny_func ?_⟩
  obtain ⟨t, ht, hq⟩ := body cdv A outer s H vs Q E hgd (hr.deeper _) hsp
  have I := inv_start (CX := CX) (E := E) S hr.hd e0 (len _ _ _ _ hsp) r x
  refine wpAny_mono (ht.run [] s1 (start N vs) H _ I hq) (fun fl s' hs => ?_) fun e s' hs => hs
  cases fl with
  | ret u =>
    obtain ⟨v, σ', H', J, rv, q⟩ := hs
    exact ⟨v, H', J.os, J.bare, J.base, J.hok, rv, q⟩
  | next =>
    obtain ⟨σ', H', J, q⟩ := hs
    exact ⟨V.non, H', J.os, J.bare, J.base, J.hok, rfl, q⟩
  | brk =>
    obtain ⟨_, _, _, q⟩ := hs
    exact q.elim
  | cont =>
    obtain ⟨_, _, _, q⟩ := hs
    exact q.elim
/-- the same where nothing is raised out of it -/
theorem fnG0 {P : Program} {w : World} {K : PySem.W.Frag} {mg : Str → Option Value} {base : Heap} {x qual : Str} {st : Stmt} {f : Addr} {fd : FuncData} {N ps : List Str} {k : Nat} {sp : Sp} (F : Fun K x qual st f fd) (S : FnScope N ps (defScope st))
    (len : ∀ vs H Q E, sp vs H Q E → vs.length = ps.length)
    (body : ∀ (cdv : Value) (A : Around) (outer : List Env) (s : Shared) (H : Hp) (vs : List V) (Q : VK) (E : XK), (A.deeper (envOfC qual (defScope st) s.heap.objs.size f cdv)).guards = some [] →
      Room k (A.deeper (envOfC qual (defScope st) s.heap.objs.size f cdv)) → sp vs H Q E →
      ∃ t, PSs (cxOf CX0 P w K mg base N qual (defScope st) f cdv A outer s H E).nox (defBody st) t ∧ t { nx := fun _ H' => Q .non H', rt := Q } (start N vs) H) : FnG P w K mg base CX0 (k + 1) f fd ps sp :=
  fnG_of F S len fun cdv A outer s H vs Q E hg hr h => by
    obtain ⟨t, h1, h2⟩ := body cdv A outer s H vs Q E hg hr h
    exact ⟨t, h1.nox, h2⟩
structure DefG (P : Program) (w : World) (K : PySem.W.Frag) (mg : Str → Option Value) (base : Heap) (k : Nat) (x : Str) (ps : List Str) (sp : Sp) : Prop where
  ex : ∃ (f : Addr) (fd : FuncData), FnG P w K mg base CX0 k f fd ps sp ∧ mg x = some (.ref f) ∧ PySem.W.keepIn K (.ref f) = true ∧ Binds K fd ps []
section
variable {X : Cx}
theorem pe_fnG {k j : Nat} {x : Str} {ps : List Str} {sp : Sp} {e : Expr} {es : List Expr} {t : TA} {p pos : Pos} (D : DefG X.prog X.w X.K X.mg X.base k x ps sp) (hgd : X.A.guards = some []) (hr : Room j X.A) (hk : k ≤ j)
    (ha : PA X (e :: es) t) (hg : Gl X x := by rfl) (hdb : (x == ("__debug__" : Str)) = false := by decide) (he : starEach (e :: es) X.env = (false, eval e X.env) :: starEach es X.env := by rfl) (hpl : (backTo pos (starEach es X.env)).any (·.1) = false := by rfl) :
    PE X (.Call (.Name x p) (e :: es) [] pos) (tCall sp [] E0 t) := by
  obtain ⟨f, fd, F, hm, hkp, hb⟩ := D.ex
  constructor
  intro pins s σ H Q I h
  refine wpAny_Call_Name_kw (ld_glob I hg hm ?_ hdb)
  refine PySem.W.callWith_K (h₀ := X.base) I.ok.mod.kin hkp (thn (ha.run pos pins s σ H _ I h) fun us s1 hh => ?_) he hpl
  obtain ⟨vs, H1, I1, r, q⟩ := hh
  refine ⟨I1.kIn, ?_⟩
  rw [List.append_nil] at q
  have hl : us.length = ps.length := by rw [← r.length]; exact F.len _ _ _ _ q
  have hbd := hb s1 us I1.kIn (by rw [List.append_nil]; exact hl)
  rw [List.append_nil] at hbd
  refine wpAny_call (codeAny_mono (F.run X.A X.stack s1 H1 ⟨us, []⟩ us vs Q E0 hgd (hr.mono hk) I1.env0 hbd r q) fun rr s' hq => ?_)
  cases rr with
  | error e => exact (show False from hq).elim
  | ok fl =>
    cases fl with
    | ret u => exact I1.after hq
    | next => exact (show False from hq).elim
    | brk => exact (show False from hq).elim
    | cont => exact (show False from hq).elim
end
/-- the law's own call, by such a promise -/
theorem lawG {P : Program} {w : World} {K : PySem.W.Frag} {mg mb : Str → Option Value} {k : Nat} {fa a : Addr} {fd : FuncData} {x : Str} {sp : Sp} {s₁ : Shared} {vs : List Value} {ns : List Int}
    (KX : K.In s₁.heap) (hns : s₁.heap.Ns mainGlobals mg) (hb : s₁.heap.Ns builtinsNs mb) (hbb : ∀ x : Str, x ≠ "__name__" → mb x = bootBuiltins x) (hlim : s₁.heap.NoLimit) (hg : s₁.gens = #[])
    (ha : s₁.heap.get? a = some { cls := .type "list", data := .seq vs.toArray }) (hi : IntsAre vs ns) (hl : ns.length ≤ sizeLine) (hr : Room k callerA)
    (F : ∀ base : Heap, K.In base → base.Ns mainGlobals mg → FnG P w K mg base CX0 k fa fd [x] sp) (hbind : ∀ (s : Shared) (u : Value), BindsTo s fd ⟨[u], []⟩ [(x, u)])
    (hsp : ∀ H : Hp, SqL K H a (ns.map V.int) → sp [.ref a] H (fun v _ => v = .bl true) fun _ _ _ => False) :
    codeAny (model P w) callerA (.call (.ref fa) ⟨[.ref a], []⟩) (fun r s' => r = .ok (.ret (.bool true)) ∧ OldK s₁.heap s'.heap ∧ s'.os = s₁.os ∧ AllBare s'.gens) s₁ := by
  have rv := vals_ints hi
  have lenV := hi.length
  obtain ⟨H, hOnly, hSq, hOk, hAt, hNo⟩ : ∃ H : Hp, (∀ b, H b = none ∨ ∃ o xs, H b = some (.frz o (.lst xs))) ∧ SqL K H a (ns.map V.int) ∧ HOk P w H s₁.heap ∧ (∀ b u, H b = some u → b = a) ∧ (∀ u, H a = some u → K.lookup a = none) := by
    cases hk : K.lookup a with
    | some o =>
      have e := KX a o hk
      rw [ha] at e
      cases e
      exact ⟨fun _ => none, fun _ => Or.inl rfl, Or.inr ⟨_, vs.toArray, _, hk, rfl, rfl, rfl, by rw [List.size_toArray, lenV]; exact hl, by simpa using rv⟩, fun b u z => (nomatch z), fun b u z => (nomatch z), fun u z => (nomatch z)⟩
    | none =>
      refine ⟨upd (fun _ => none) a (.frz { cls := .type "list", data := .seq vs.toArray } (.lst (ns.map V.int))), fun b => ?_, Or.inl (Or.inr ⟨_, upd_same⟩), fun b u z => ?_, fun b u z => ?_, fun _ _ => rfl⟩
      · by_cases e : b = a
        · rw [e, upd_same]; exact Or.inr ⟨_, _, rfl⟩
        · rw [upd_ne e]; exact Or.inl rfl
      · by_cases e : b = a
        · rw [e, upd_same] at z
          cases z
          rw [e]
          exact ⟨ha, by rw [List.length_map]; exact hl, vs, _, rv, ha⟩
        · rw [upd_ne e] at z; cases z
      · by_cases e : b = a
        · exact e
        · rw [upd_ne e] at z; cases z
  have free : ∀ {b : Addr} {o : Obj}, s₁.heap.get? b = some o → (∀ n m, o.data ≠ .seq n m) → H b = none := fun {b o} e d => by
    cases q : H b with
    | none => rfl
    | some u =>
      have eb := hAt b u q
      rw [eb, ha] at e
      cases e
      exact absurd rfl (d _ _)
  have nsH : ∀ {b : Addr} {m : Str → Option Value}, s₁.heap.Ns b m → (hidT s₁.heap H).Ns b m := fun {b m} ⟨o, es, ep, e, d, r⟩ => ⟨o, es, ep, hidT_get e (free e fun n m z => by rw [d] at z; cases z), d, r⟩
  have kH : K.In (hidT s₁.heap H) := fun b o e => hidT_get (KX b o e) (by
    cases q : H b with
    | none => rfl
    | some u =>
      have eb := hAt b u q
      rw [eb] at e q
      rw [hNo u q] at e
      cases e)
  obtain ⟨mc, l1, l2⟩ := hlim
  have e0 : Env0 P w K mg (hidT s₁.heap H) callerA [] s₁ H :=
    { frames := rfl, mod := { kin := kH, glob := nsH hns, blt := ⟨mb, nsH hb, hbb⟩, nolimit := ⟨mc, nsH l1, l2⟩ }, bs := fun b o e => of_hidT e, bsz := Nat.le_of_eq (hidT_size _ _), funs := trivial, frf := fun b z => (nomatch z), hok := hOk, bare := .of_eq hg }
  refine codeAny_mono ((F _ kH (nsH hns)).run callerA [] s₁ H ⟨[.ref a], []⟩ [.ref a] [.ref a] _ _ rfl hr e0 (hbind s₁ (.ref a)) (.cons rfl .nil) (hsp H hSq)) fun r s' h => ?_
  cases r with
  | error e => exact (show False from h).elim
  | ok fl =>
    cases fl with
    | next => exact (show False from h).elim
    | brk => exact (show False from h).elim
    | cont => exact (show False from h).elim
    | ret u =>
      obtain ⟨v, H', os, bare, un, hok', r', q⟩ := h
      obtain rfl : v = .bl true := q
      obtain rfl : u = Value.bool true := r'
      refine ⟨rfl, OldK.of_keep fun b o e => ?_, os, bare⟩
      cases q : H b with
      | none => exact un.keep b o e q (fun z => nomatch z) (fun z => nomatch z)
      | some u =>
        rcases hOnly b with z | ⟨ob, xs, z⟩
        · rw [q] at z; cases z
        · have g1 := (hOk b _ z).1
          have g2 := (hok' b _ (un.frzs b ob _ z)).1
          rw [g1] at e
          cases e
          exact g2
theorem walkG {l : PySem.W.OpenLaw} {n k : Nat} {q : Program} {loose : List Str} {XP : (Str → Option Value) → Heap → Prop} {YP : World → Heap → Prop} {d : DefRec} {K : Params → PySem.W.Frag} {sp : PySem.W.Frag → Sp} {x : Str}
    (hn : l.most = some n) (hn2 : n ≤ sizeLine) (hdf : d.params.defaults = []) (hr : Room k callerA) (hY : ∀ (w : World) (h : Heap), YP w h → (K w.params).In h)
    (F : ∀ (w : World) (mg : Str → Option Value) (fa : Addr) (h : Heap), (K w.params).In h → h.Ns mainGlobals mg → mg d.name = some (.ref fa) →
      ∃ fd : FuncData, (∀ (s : Shared) (u : Value), BindsTo s fd ⟨[u], []⟩ [(x, u)]) ∧ ∀ base : Heap, (K w.params).In base → base.Ns mainGlobals mg → FnG l.prog w (K w.params) mg base CX0 k fa fd [x] (sp (K w.params)))
    (hsp : ∀ (K : PySem.W.Frag) (H : Hp) (a : Addr) (ns : List Int), ns.length ≤ n → SqL K H a (ns.map V.int) → sp K [.ref a] H (fun v _ => v = .bl true) fun _ _ _ => False) :
    PySem.W.WalkO q loose XP YP l.row.toRowW d [] (fun f vs => PySem.call f vs) := by
  refine Att.attach_call hn hdf fun w s₀ s₁ mg mb fa o pm cd doc a vs ns G Y ho hd hcd hmg hobj hints hlen hg => ?_
  obtain ⟨fd, hb, hF⟩ := F w mg fa _ (hY w _ Y) G.T.g hmg
  exact lawG (hY w _ Y) G.T.g G.T.b G.T.builtins G.T.nolimit hg hobj hints (Nat.le_trans hlen hn2) hr hF hb fun H hS => hsp _ H a ns hlen hS
end U

namespace U
open PySem L2 PySem.Spec PyProof.Rows PySem.W
/-! ### an own object asked by a built-in: len, str, truth, ==, != -/
/-- a def of the class run at some place within the frame -/
theorem run_at {X : Cx} {A : Around} {k : Nat} {f : Addr} {fd : FuncData} {ps : List Str} {sp : Sp} {pins : List (Addr × Obj)} {σ : L2.St} {H : Hp} {s : Shared} {Q : VK} {us : List Value} {vs : List V} {E : Value → Shared → Prop}
    (F : FnOk X.prog X.w X.K X.mg X.base CX0 k f fd ps sp) (hb : Binds X.K fd ps []) (hr : Room k A) (hf : A.frames = X.A.frames) (I : Inv X pins σ H s) (r : Vals vs us) (h : sp vs H Q E0) :
    wpAny (model X.prog X.w) A (call (.ref f) us) (EP X pins σ Q) E s := by
  have e0 : Env0 X.prog X.w X.K X.mg X.base A X.stack s H := by
    have e := I.env0
    exact { frames := hf.trans e.frames, mod := e.mod, bs := e.bs, bsz := e.bsz, funs := e.funs, frf := e.frf, hok := e.hok, bare := e.bare }
  have hl : us.length = ps.length := by rw [← r.length]; exact F.len _ _ _ _ h
  have hbd := hb s us I.kIn (by rw [List.append_nil]; exact hl)
  rw [List.append_nil] at hbd
  refine wpAny_call (codeAny_mono (F.run A X.stack s H ⟨us, []⟩ us vs Q E0 hr e0 hbd r h) fun rr s' hq => ?_)
  cases rr with
  | error e => exact (show False from hq).elim
  | ok fl =>
    cases fl with
    | ret u => exact I.after hq
    | next => exact (show False from hq).elim
    | brk => exact (show False from hq).elim
    | cont => exact (show False from hq).elim
/-- a special method of the class at C: the def at f with its promise -/
structure SpM (X : Cx) (C : Addr) (m : Str) (k : Nat) (sp : Sp) : Prop where
  ex : ∃ (f : Addr) (fd : FuncData) (ps : List Str), FnOk X.prog X.w X.K X.mg X.base CX0 k f fd ps sp ∧ findIn X.K (.ref C) m = some (some (.ref f)) ∧ isFn X.K (.ref f) = true ∧ Binds X.K fd ps []
theorem ref1 (a : Addr) : Vals [V.ref a] [Value.ref a] := .cons (show RelV (V.ref a) (Value.ref a) from rfl) .nil
theorem ref2 (a b : Addr) : Vals [V.ref a, V.ref b] [Value.ref a, Value.ref b] := .cons (show RelV (V.ref a) (Value.ref a) from rfl) (ref1 b)
section
variable {X : Cx} {C : Addr} {k j : Nat} {sp : Sp}
theorem inst_of {pins : List (Addr × Obj)} {σ : L2.St} {H : Hp} {s : Shared} {a dx : Addr} {fs : List (Str × V)} (I : Inv X pins σ H s) (ea : H a = some (.ins C dx fs)) : ∃ od, InstAt s.heap a (instObj C dx) C (some od) := by
  obtain ⟨mA, J, _⟩ := ins_get I.hok ea
  obtain ⟨od, J, _⟩ := J.look
  exact ⟨od, J⟩
/-- len(o) -/
def rLenI (C : Addr) (sp : Sp) : List V → Hp → VK → Prop := fun xs H Q => ∃ (a dx : Addr) (fs : List (Str × V)), xs = [.ref a] ∧ H a = some (.ins C dx fs) ∧ sp [.ref a] H (fun v H' => ∃ n : Int, v = .int n ∧ 0 ≤ n ∧ n < 9223372036854775808 ∧ Q (.int n) H') E0
theorem lenI (S : SpM X C "__len__" k sp) (hr : Room j X.A) (hk : k + 1 ≤ j) : CallR X (.builtin "len") (rLenI C sp) := by
  intro pins s σ H xs us Q I r h
  obtain ⟨a, dx, fs, rfl, ea, h⟩ := h
  obtain rfl := Vals.ref1 r
  obtain ⟨f, fd, ps, F, hs, hf, hb⟩ := S.ex
  obtain ⟨od, J⟩ := inst_of I ea
  obtain ⟨m, hF⟩ := I.fr
  refine len_K hF I.ok.mod.kin J hs hf (wpAny_mono (run_at F hb (hr.mono hk).in1 rfl I (ref1 a) h) (fun u s' hq => ?_) fun _ _ e => e)
  obtain ⟨v, H', I', rv, n, rfl, h0, h1, q⟩ := hq
  obtain ⟨t, rfl⟩ := rv
  exact ⟨⟨h0, by omega⟩, .int n, H', I'.tok _, ⟨_, rfl⟩, q⟩
/-- str(o) -/
def rStrI (C : Addr) (sp : Sp) : List V → Hp → VK → Prop := fun xs H Q => ∃ (a dx : Addr) (fs : List (Str × V)), xs = [.ref a] ∧ H a = some (.ins C dx fs) ∧ sp [.ref a] H (fun v H' => ∃ z : Str, v = .str z ∧ Q (.str z) H') E0
theorem strI (S : SpM X C "__str__" k sp) (hr : Room j X.A) (hk : k + 2 ≤ j) : CallR X (.type "str") (rStrI C sp) := by
  intro pins s σ H xs us Q I r h
  obtain ⟨a, dx, fs, rfl, ea, h⟩ := h
  obtain rfl := Vals.ref1 r
  obtain ⟨f, fd, ps, F, hs, hf, hb⟩ := S.ex
  obtain ⟨od, J⟩ := inst_of I ea
  have r2 : Room k X.A.in1.in1 := ((hr.mono hk).in1).in1
  refine kso_call r2.units0 I.kIn J hs hf (wpAny_mono (run_at F hb r2 rfl I (ref1 a) h) (fun u s' hq => ?_) fun _ _ e => e)
  obtain ⟨v, H', I', rv, z, rfl, q⟩ := hq
  obtain ⟨t, rfl⟩ := rv
  exact ⟨.str z, H', I', ⟨t, rfl⟩, q⟩
/-- a == b, a an own object, b such a one too (its == says so) -/
def rEqI (C : Addr) (sp : Sp) : R2 := fun x y H Q => ∃ (a b dx dy : Addr) (fs gs : List (Str × V)), x = .ref a ∧ y = .ref b ∧ H a = some (.ins C dx fs) ∧ H b = some (.ins C dy gs) ∧ sp [.ref a, .ref b] H (fun v H' => ∃ c : Bool, v = .bl c ∧ Q (.bl c) H') E0
theorem eqI (S : SpM X C "__eq__" k sp) (hr : Room j X.A) (hk : k ≤ j) : OpR X (compareOp .Eq) (rEqI C sp) := by
  intro pins s σ H x y v u Q I rx ry h
  obtain ⟨a, b, dx, dy, fs, gs, rfl, rfl, ea, eb, h⟩ := h
  cases rx
  cases ry
  obtain ⟨f, fd, ps, F, hs, hf, hb⟩ := S.ex
  obtain ⟨od, J⟩ := inst_of I ea
  obtain ⟨od', J'⟩ := inst_of I eb
  obtain ⟨m, hF⟩ := I.fr
  have r2 : Room k X.A := hr.mono hk
  show wpAny (model X.prog X.w) X.A (richCompare .Eq (.ref a) (.ref b)) (EP X pins σ Q) X.xe s
  refine cmp_K (op := .Eq) (tb := .ref C) r2.units0 hF I.ok.mod.kin J J'.type (by simp [notFirst]) hs hf (wpAny_mono (run_at F hb r2 rfl I (ref2 a b) h) (fun w s' hq => ?_) fun _ _ e => e)
  obtain ⟨z, H', I', rz, c, rfl, q⟩ := hq
  cases rz
  exact ⟨.bl c, H', I', rfl, q⟩
end
/-! truth by an own __len__ -/
section
variable {prog : Program} {w : World} {A : Around} {E : Value → Shared → Prop} {s : Shared} {K : Frag} {x C f : Addr} {ox : Obj} {od : Option Obj}
theorem lenBody {Q : Value → Shared → Prop} (X : K.In s.heap) (I : InstAt s.heap x ox C od) (hs : findIn K (.ref C) "__len__" = some (some (.ref f))) (hf : isFn K (.ref f) = true)
    (h : wpAny (model prog w) A (call (.ref f) [.ref x]) (PySem.W.LenBack Q) E s) : wpAny (model prog w) A (Builtin.«len» ⟨[.ref x], []⟩) (fun fin s' => ∃ r, fin = .done (.ret r) ∧ Q r s') E s := by
  unfold Builtin.«len»
  refine wpAny_bind (m := oneArg "len" _) (wpAny_pure ?_)
  refine wpAny_bind (m := callSpecial? (.ref x) (Str.ofString "__len__")) (special_fn X I hs (beq_iff_eq.mp hf) (wpAny_mono h (fun r s' hr => ?_) fun _ _ y => y))
  cases r <;> first | exact hr.elim | skip
  rename_i n u
  obtain ⟨⟨h0, h1⟩, hq⟩ := hr
  refine wpAny_bind (wpAny_holding (wpAny_pure ?_))
  refine wpAny_bind (wpAny_letGo ?_)
  show wpAny _ _ (if n < 0 then _ else _) _ _ _
  rw [if_neg (by omega)]
  show wpAny _ _ (if n ≥ 2 ^ 63 then _ else _) _ _ _
  rw [if_neg (by omega)]
  exact wpAny_bind (wpAny_mkInt (wpAny_pure ⟨_, rfl, hq⟩))
def TruBack (Q : Bool → Shared → Prop) (v : Value) (s' : Shared) : Prop := ∃ (n : Int) (t : Tok), v = .int n t ∧ 0 ≤ n ∧ n < 9223372036854775808 ∧ Q (n != 0) { s' with toks := s'.toks + 1 }
theorem truthLen {Q : Bool → Shared → Prop} (X : K.In s.heap) (I : InstAt s.heap x ox C od) (hb : findIn K (.ref C) "__bool__" = some none) (hs : findIn K (.ref C) "__len__" = some (some (.ref f))) (hf : isFn K (.ref f) = true)
    (h : wpAny (model prog w) A.in1 (call (.ref f) [.ref x]) (TruBack Q) E s) : wpAny (model prog w) A (truthy (.ref x)) Q E s := by
  have key : wpAny (model prog w) A (runValue (.builtin "len" ⟨[.ref x], []⟩)) (fun r s' => ∃ (n : Int) (t : Tok), r = .int n t ∧ Q (n != 0) s') E s := by
    refine wpAny_runValue (codeAny_builtin entry_len ?_)
    rw [Around.under_plainId plain_len _]
    refine wpAny_mono (lenBody (Q := fun r s' => ∃ (n : Int) (t : Tok), r = .int n t ∧ Q (n != 0) s') X I hs hf (wpAny_mono h (fun v s' hv => ?_) fun _ _ e => e)) (fun fin s' h' => ?_) fun _ _ e => e
    · obtain ⟨n, t, rfl, h0, h1, q⟩ := hv
      exact ⟨⟨h0, by omega⟩, n, _, rfl, q⟩
    · obtain ⟨r, rfl, q⟩ := h'
      exact q
  unfold truthy
  refine wpAny_bind (m := callSpecial? (.ref x) (Str.ofString "__bool__")) (wpAny_bind (wpAny_bind (I.type.here ((looks_findIn X hb).here (wpAny_pure ?_)))))
  refine wpAny_bind (wpAny_bind (I.type.here ((looks_findIn X hs).here ?_)))
  show wpAny _ _ (if (some (Value.ref f)).isNone = true then _ else _) _ _ _
  rw [if_neg (by simp)]
  refine wpAny_bind (wpAny_mono key (fun r s' h' => ?_) fun _ _ e => e)
  obtain ⟨n, t, rfl, q⟩ := h'
  exact wpAny_pure q
theorem boolOf {Q : Value → Shared → Prop} (h : wpAny (model prog w) A.in1.in1 (truthy (.ref x)) (fun b s' => Q (.bool b) s') E s) : wpAny (model prog w) A (call (.type "bool") [.ref x]) Q E s := by
  refine callType_codes (T := "bool") (Bi := Builtin.«object.__init__») (Q₁ := fun r s₁ => ∃ b : Bool, r = .bool b ∧ Q r s₁) PySem.F.called_bool (PySem.F.typeCall_bool_1 _) PySem.F.entry_object_init ?_ ?_
  · refine codeAny_of_tree ?_
    show wpAny _ A.in1.in1 (do checkBuiltinCall "bool.__new__" ⟨[.type "bool", .ref x], []⟩; again (.builtin "bool.__new__" ⟨[.type "bool", .ref x], []⟩)) _ _ s
    refine wpAny_bind (wpAny_of_eq (PySem.F.newCall_bool_1 _) (wpAny_pure ⟨plainId_quiet (by decide +kernel) _, codeAny_builtin PySem.F.entry_bool_new ?_⟩))
    rw [Around.under_plainId (by decide +kernel) _]
    have f1 := F.conv_sub_bool
    obtain ⟨hp, g, d, tk, os⟩ := s
    unfold Builtin.«bool.__new__»
    repeat (first | (with_reducible refine wpAny_mono h (fun b s' hq => ?_) (fun e s' he => ?_)) | wp_step)
    · exact ⟨b, rfl, hq⟩
    · exact he
  · rintro obj s₁ ⟨b, rfl, hq⟩
    exact ⟨PySem.typeIs_bool _ _, PySem.F.args_object_init_2 _ _, object_init_meets PySem.F.called_bool.init.lookup PySem.F.called_bool.made F.newNe_bool prog w A.in1 _ s₁ ⟨PySem.typeIs_bool _ _, rfl, hq⟩⟩
/-! != by an own == -/
theorem ifB {M : Model} {name : Str} {id : String} {args : List Value} {Q : Option Value → Shared → Prop} (X : K.In s.heap) (I : InstAt s.heap x ox C od) (hs : findIn K (.ref C) name = some (some (.builtin id)))
    (hb : ∀ self, bindSpecial (.builtin id) self = pure (.builtin id, [self])) (h : wpAny M A (call (.builtin id) (.ref x :: args)) (fun v => Q (some v)) E s) : wpAny M A (callSpecialIfBound? (.ref x) name args) Q E s := by
  simp only [callSpecialIfBound?, bindSpecialIfBound?]
  have fin : wpAny M A (call (.builtin id) ([.ref x] ++ args) >>= fun v => pure (some v)) Q E s := wpAny_bind (wpAny_mono h (fun _ _ q => wpAny_pure q) fun _ _ q => q)
  refine wpAny_holding (wpAny_bind (wpAny_bind (wpAny_bind (I.type.here ((looks_findIn X hs).here ?_)))))
  refine wpAny_bind (wpAny_askSetting (wpAny_ite ?_))
  split
  · exact wpAny_bind ((Looks.of_pure (hb _)).here (wpAny_pure (by exact fin)))
  · exact wpAny_tryCatch (wpAny_bind ((Looks.of_pure (hb _)).here (wpAny_pure (by exact fin))))
theorem neBody {b : Value} {Q : Fin → Shared → Prop} (hu : A.units < cLine) (X : K.In s.heap) (I : InstAt s.heap x ox C od) (hs : findIn K (.ref C) "__eq__" = some (some (.ref f))) (hf : isFn K (.ref f) = true)
    (h : wpAny (model prog w) A (call (.ref f) [.ref x, b]) (fun v s' => ∃ c : Bool, v = .bool c ∧ Q (.done (.ret (.bool (!c)))) s') E s) : wpAny (model prog w) A (Builtin.«object.__ne__» ⟨[.ref x, b], []⟩) Q E s := by
  unfold Builtin.«object.__ne__»
  repeat (first
    | with_reducible refine wpAny_cRoomFor hu ?_
    | (refine wpAny_bind (m := callSpecialIfBound? (.ref x) (Str.ofString "__eq__") [b]) (ifBound_K X I hs hf (wpAny_mono h (fun r s' hr => ?_) fun _ _ e => e)))
    | wp_step)
  obtain ⟨c, rfl, hq⟩ := hr
  repeat (first | exact hq | exact wpAny_pure hq | exact wpAny_truthy_bool hq | (refine wpAny_bind (m := truthy (.bool _)) (wpAny_truthy_bool ?_)) | wp_step)
theorem neK {b tb : Value} {Q : Value → Shared → Prop} (hu : A.units + 1 < cLine) (X : K.In s.heap) (I : InstAt s.heap x ox C od) (hb : Looks (model prog w) s.heap (typeOf b) tb) (hn : notFirst K C tb = true)
    (hne : findIn K (.ref C) "__ne__" = some (some (.builtin "object.__ne__"))) (hm : mroIn K C (.type "object") = some true) (hs : findIn K (.ref C) "__eq__" = some (some (.ref f))) (hf : isFn K (.ref f) = true)
    (h : wpAny (model prog w) A.in1 (call (.ref f) [.ref x, b]) (fun v s' => ∃ c : Bool, v = .bool c ∧ Q (.bool (!c)) s') E s) : wpAny (model prog w) A (richCompare .NotEq (.ref x) b) Q E s := by
  have one : wpAny (model prog w) A (tryCompare (.ref x) (cmpInfo .NotEq).2.1 b) (fun r s' => ∃ v, r = some v ∧ Q v s') E s := by
    unfold tryCompare
    refine wpAny_bind (ifB X I hne PySem.F.slot_tuple_iterator_ne.bind (wpAny_call (codeAny_call_builtin PySem.F.slot_tuple_iterator_ne.plain PySem.F.cmpEntry_ne
      (check_slot PySem.F.cmpKind_ne PySem.F.cmpSplit_ne (I.type.andThen (looks_mroIn X hm)) (PySem.F.cmpArgs_ne _ _) (neBody (A := A.in1) (by show A.units + 1 < cLine; exact hu) X I hs hf (wpAny_mono h (fun v s' hv => ?_) fun _ _ e => e))))))
    obtain ⟨c, rfl, hq⟩ := hv
    exact ⟨c, rfl, wpAny_pure ⟨_, rfl, hq⟩⟩
  unfold richCompare
  simp only [oneThing_ref]
  refine wpAny_holding (wpAny_bind (wpAny_cRoomFor (Nat.lt_of_succ_lt hu) ?_))
  refine wpAny_bind (I.type.here (wpAny_bind (hb.here ?_)))
  split
  · rename_i q
    have e : subIn K tb (.ref C) = some false := by
      rcases Bool.or_eq_true_iff.mp hn with e | e
      · rw [beq_iff_eq.mp e] at q; simp at q
      · exact beq_iff_eq.mp e
    refine wpAny_bind ((looks_subIn X e).here ?_)
    simp only [Bool.false_eq_true, if_false]
    refine wpAny_bind (wpAny_mono one (fun r s' z => ?_) fun _ _ e => e)
    obtain ⟨v, rfl, z⟩ := z
    exact wpAny_pure z
  · refine wpAny_bind (wpAny_pure ?_)
    simp only [Bool.false_eq_true, if_false]
    refine wpAny_bind (wpAny_mono one (fun r s' z => ?_) fun _ _ e => e)
    obtain ⟨v, rfl, z⟩ := z
    exact wpAny_pure z
end
section
variable {X : Cx} {C : Addr} {k j : Nat} {sp : Sp}
/-- a != b -/
def rNeI (C : Addr) (sp : Sp) : R2 := fun x y H Q => ∃ (a b dx dy : Addr) (fs gs : List (Str × V)), x = .ref a ∧ y = .ref b ∧ H a = some (.ins C dx fs) ∧ H b = some (.ins C dy gs) ∧ sp [.ref a, .ref b] H (fun v H' => ∃ c : Bool, v = .bl c ∧ Q (.bl (!c)) H') E0
theorem neI (S : SpM X C "__eq__" k sp) (hne : findIn X.K (.ref C) "__ne__" = some (some (.builtin "object.__ne__"))) (hm : mroIn X.K C (.type "object") = some true) (hr : Room j X.A) (hk : k + 1 ≤ j) : OpR X (compareOp .NotEq) (rNeI C sp) := by
  intro pins s σ H x y v u Q I rx ry h
  obtain ⟨a, b, dx, dy, fs, gs, rfl, rfl, ea, eb, h⟩ := h
  cases rx
  cases ry
  obtain ⟨f, fd, ps, F, hs, hf, hb⟩ := S.ex
  obtain ⟨od, J⟩ := inst_of I ea
  obtain ⟨od', J'⟩ := inst_of I eb
  have r2 : Room k X.A.in1 := (hr.mono hk).in1
  show wpAny (model X.prog X.w) X.A (richCompare .NotEq (.ref a) (.ref b)) (EP X pins σ Q) X.xe s
  refine neK (tb := .ref C) r2.units0 I.kIn J J'.type (by simp [notFirst]) hne hm hs hf (wpAny_mono (run_at F hb r2 rfl I (ref2 a b) h) (fun w s' hq => ?_) fun _ _ e => e)
  obtain ⟨z, H', I', rz, c, rfl, q⟩ := hq
  cases rz
  exact ⟨c, rfl, .bl (!c), H', I', rfl, q⟩
/-- bool(o) by an own __len__ -/
def rBoolI (C : Addr) (sp : Sp) : List V → Hp → VK → Prop := fun xs H Q => ∃ (a dx : Addr) (fs : List (Str × V)), xs = [.ref a] ∧ H a = some (.ins C dx fs) ∧ sp [.ref a] H (fun v H' => ∃ n : Int, v = .int n ∧ 0 ≤ n ∧ n < 9223372036854775808 ∧ Q (.bl (n != 0)) H') E0
theorem boolI (S : SpM X C "__len__" k sp) (hnb : findIn X.K (.ref C) "__bool__" = some none) (hr : Room j X.A) (hk : k + 3 ≤ j) : CallR X (.type "bool") (rBoolI C sp) := by
  intro pins s σ H xs us Q I r h
  obtain ⟨a, dx, fs, rfl, ea, h⟩ := h
  obtain rfl := Vals.ref1 r
  obtain ⟨f, fd, ps, F, hs, hf, hb⟩ := S.ex
  obtain ⟨od, J⟩ := inst_of I ea
  have r2 : Room k X.A.in1.in1.in1 := (((hr.mono hk).in1).in1).in1
  refine boolOf (truthLen I.kIn J hnb hs hf (wpAny_mono (run_at F hb r2 rfl I (ref1 a) h) (fun u s' hq => ?_) fun _ _ e => e))
  obtain ⟨v, H', I', rv, n, rfl, h0, h1, q⟩ := hq
  obtain ⟨t, rfl⟩ := rv
  exact ⟨n, t, rfl, h0, h1, .bl (n != 0), H', I'.tok _, rfl, q⟩
end

/-! ### a class held by a local name, called; a classmethod called by keyword -/
section
variable {X : Cx} {C f : Addr} {fd : FuncData} {ps : List Str} {sp : Sp} {k j : Nat}
/-- x(e, ..), the class at C in slot i -/
def tMakeL (C : Addr) (i : Nat) (sp : Sp) (t : TA) : TE := fun σ H Q => σ[i]? = some (some (.ref C)) ∧ t σ H fun vs H1 => ∀ (x dx : Addr), H1 x = none → H1 dx = none → dx ≠ x →
  sp (.ref x :: (vs ++ [])) (upd (upd H1 dx (.own x)) x (.ins C dx [])) (fun v H2 => v = .non ∧ Q (.ref x) H2) E0
theorem pe_makeL {i : Nat} {x : Str} {e : Expr} {es : List Expr} {t : TA} {p pos : Pos} (M : Mk X.K C f) (F : FnOk X.prog X.w X.K X.mg X.base CX0 k f fd ps sp) (hr : Room j X.A) (hk : k + 1 ≤ j) (hb : Binds X.K fd ps [])
    (ha : PA X (e :: es) t) (hN : X.N[i]? = some x := by rfl) (hv : Vis X.env.scope x := by first | exact Or.inl rfl | exact Or.inr (Or.inl rfl) | exact Or.inr (Or.inr rfl)) (hd : (x == ("__debug__" : Str)) = false := by decide) (hcd : (x == ("__classdict__" : Str)) = false := by decide)
    (he : starEach (e :: es) X.env = (false, eval e X.env) :: starEach es X.env := by rfl) (hpl : (backTo pos (starEach es X.env)).any (·.1) = false := by rfl) :
    PE X (.Call (.Name x p) (e :: es) [] pos) (tMakeL C i sp t) := by
  constructor
  intro pins s σ H Q I h
  obtain ⟨hs, h⟩ := h
  refine wpAny_Call_Name_kw (thn ((pe_var (pos := p) hN hv hd hcd).run pins s σ H (fun v H' => v = .ref C ∧ H' = H) I ⟨_, hs, rfl, rfl⟩) fun u s0 hu => ?_)
  obtain ⟨v, H0, I0, rv, rfl, rfl⟩ := hu
  obtain rfl : u = Value.ref C := rv
  refine PySem.W.callWith_K (h₀ := X.base) I0.ok.mod.kin M.kp (thn (ha.run pos pins s0 σ _ _ I0 h) fun us s1 hh => ?_) he hpl
  obtain ⟨vs, H1, I1, r, q⟩ := hh
  exact ⟨I1.kIn, run_make M F (hr.mono hk) hb .nil pass0 I1 r q⟩
/-- C.m(k = e, ..), a classmethod -/
def tCMethK (C : Addr) (n : Nat) (sp : Sp) (gV : List V → List V → List V) (ta : TE) (tk : TA) : TE := fun σ H Q => ta σ H fun x H1 => x = .ref C ∧ tk σ H1 fun zs H2 => zs.length = n ∧ sp (gV [.ref C] zs) H2 Q E0
theorem pe_cmethK {p g : Addr} {mc : Value} {ks : List Str} {gL : List Value → List Value → List Value} {gV : List V → List V → List V} {o : Expr} {m : Str} {kws : List Keyword} {pos apos : Pos} {ta : TE} {tk : TA} {pl : Sem Bool} (he : PE X o ta) (r : ClX.CRead X.K C mc) (c : ClX.CMet X.K C mc m p g)
    (F : FnOk X.prog X.w X.K X.mg X.base CX0 k g fd ps sp) (hr : Room j X.A) (hk : k ≤ j) (hb : KBn X.K fd ps 1 ks gL gV) (hkw : PK X kws tk)
    (hall : (backToKw pos (keywordEach kws X.env)).all (·.1.isSome) = true := by rfl) (hks : (backToKw pos (keywordEach kws X.env)).filterMap (·.1) = ks := by rfl)
    (hpl : ((backTo pos (starEach [] X.env)).any (·.1) || (backToKw pos (keywordEach kws X.env)).any (·.1.isNone)) = false := by rfl)
    (ht : eval (.Call (.Attribute o m apos) [] kws pos) X.env = (eval o X.env >>= fun ov => standAt apos.atName >>= fun _ => holding [ov] (getMethod ov m pl) >>= fun fx => callWith pos fx.1 fx.2 (backTo pos (starEach [] X.env)) (backToKw pos (keywordEach kws X.env))) := by rfl) :
    PE X (.Call (.Attribute o m apos) [] kws pos) (tCMethK C ks.length sp gV ta tk) := by
  constructor
  intro pins s σ H Q I h
  refine PySem.W.methodCall_KW (pl := pl) (thn (he.run pins s σ H _ I h) fun u s1 hh => ?_) ht
  obtain ⟨x, H1, I1, rx, rfl, q⟩ := hh
  obtain rfl : u = Value.ref C := rx
  refine ClX.getmethcm_ok I1 r c fun s2 I2 => ?_
  have fin : wpAny (model X.prog X.w) X.A (evalAll ((backToKw pos (keywordEach kws X.env)).map (·.2))) (fun ws s3 => PySem.W.MethP X.K s1.heap.objs.size g (.ref C) s3.heap ∧
      wpAny (model X.prog X.w) X.A (call (.ref s1.heap.objs.size) ([] ++ []) (((backToKw pos (keywordEach kws X.env)).filterMap (·.1)).zip ws)) (EP X pins σ Q) X.xe s3) X.xe s2 := by
    refine thn (hkw.run pos _ s2 σ H1 _ I2 q) fun ws s3 hh => ?_
    obtain ⟨zs, H2, I3, rz, hl, q2⟩ := hh
    refine ⟨⟨ClX.pin_at I3, I3.kIn⟩, ?_⟩
    rw [hks]
    have r1 : Vals [V.ref C] [Value.ref C] := ref1 C
    have e2 : ws.length = ks.length := rz.length.symm.trans hl
    have hz : wpAny (model X.prog X.w) X.A (call (.ref s1.heap.objs.size) [] (ks.zip ws)) (EP X ((s1.heap.objs.size, PySem.W.methodObj (.ref g) (.ref C)) :: pins) σ Q) X.xe s3 := by
      refine wpAny_call (PySem.W.method_call (ClX.pin_at I3) (codeAny_mono (F.run X.A X.stack s3 H2 ⟨[.ref C], ks.zip ws⟩ (gL [.ref C] ws) (gV [.ref C] zs) Q E0 (hr.mono hk) I3.env0 (hb.to _ [.ref C] ws I3.kIn rfl e2) (hb.rel r1 rz) q2) fun rr s' hq => ?_))
      cases rr with
      | error e => exact (show False from hq).elim
      | ok fl =>
        cases fl with
        | ret u => exact I3.after hq
        | next => exact (show False from hq).elim
        | brk => exact (show False from hq).elim
        | cont => exact (show False from hq).elim
    exact thn hz fun _ _ y => ClX.unpinE y
  exact PySem.W.callWith_of hpl (PySem.W.keeps_M c.fi) (PyProof.Rows.evalArgs_kw2_nil hall fin)
end
end U

namespace U
open PySem L2
/-! ### what plain data shows -/
structure Sh (d : PyData) (b n : Nat) : Prop where
  lay : d.canLay0 = true
  shw : d.showable = true
  lv : d.leavesShort 13 = true
  bk : d.bulk ≤ b
  dp : d.depth ≤ n
structure ShA (ds : List PyData) (b n : Nat) : Prop where
  lay : PyData.canLayAll0 ds = true
  shw : PyData.showableAll ds = true
  lv : PyData.leavesShortAll 13 ds = true
  bk : PyData.bulkAll ds ≤ b
  dp : PyData.depthAll ds ≤ n
theorem Sh.mono {d : PyData} {b n c m : Nat} (h : Sh d b n) (hb : b ≤ c) (hn : n ≤ m) : Sh d c m := ⟨h.lay, h.shw, h.lv, Nat.le_trans h.bk hb, Nat.le_trans h.dp hn⟩
theorem ShA.mono {ds : List PyData} {b n c m : Nat} (h : ShA ds b n) (hb : b ≤ c) (hn : n ≤ m) : ShA ds c m := ⟨h.lay, h.shw, h.lv, Nat.le_trans h.bk hb, Nat.le_trans h.dp hn⟩
theorem Sh.none : Sh .none 0 0 := ⟨by simp only [PyData.canLay0], by simp only [PyData.showable], by simp only [PyData.leavesShort], by simp only [PyData.bulk]; exact Nat.le_refl 0, by simp only [PyData.depth]; exact Nat.le_refl 0⟩
theorem Sh.bool (b : Bool) : Sh (.bool b) 0 0 := ⟨by simp only [PyData.canLay0], by simp only [PyData.showable], by simp only [PyData.leavesShort], by simp only [PyData.bulk]; exact Nat.le_refl 0, by simp only [PyData.depth]; exact Nat.le_refl 0⟩
theorem log_lt {i : Int} (h : i.natAbs < 10 ^ 12) : i.natAbs.log2 < 1920 := by
  by_cases z : i.natAbs = 0
  · rw [z]; decide
  · refine (Nat.log2_lt z).mpr (Nat.lt_of_lt_of_le h ?_)
    exact Nat.le_trans (by decide : 10 ^ 12 ≤ 2 ^ 40) (Nat.pow_le_pow_right (by decide) (by decide))
theorem Sh.int {i : Int} (h : i.natAbs < 10 ^ 12) : Sh (.int i) 0 0 := ⟨by simp only [PyData.canLay0], by simp only [PyData.showable]; exact decide_eq_true (log_lt h), by simp only [PyData.leavesShort]; exact decide_eq_true (PyData.shown_int_le h), by simp only [PyData.bulk]; exact Nat.le_refl 0, by simp only [PyData.depth]; exact Nat.le_refl 0⟩
theorem Sh.str {x : Str} {b : Nat} (h : ∀ c ∈ x.cps.toList, c < 128) (hb : x.length ≤ b) : Sh (.str x) b 0 := by
  refine ⟨?_, by simp only [PyData.showable], ?_, by simp only [PyData.bulk]; exact hb, by simp only [PyData.depth]; exact Nat.le_refl 0⟩
  · simp only [PyData.canLay0]
    show x.cps.all (· < 0x110000) = true
    rw [← Array.all_toList]
    exact List.all_eq_true.mpr fun c hc => decide_eq_true (by have := h c hc; omega)
  · simp only [PyData.leavesShort]
    refine List.all_eq_true.mpr fun c hc => decide_eq_true ?_
    have := h c hc
    have e : (16 : Nat) ^ 8 = 4294967296 := by decide
    omega
theorem ShA.nil : ShA [] 0 0 := ⟨by simp only [PyData.canLayAll0], by simp only [PyData.showableAll], by simp only [PyData.leavesShortAll], by simp only [PyData.bulkAll]; exact Nat.le_refl 0, by simp only [PyData.depthAll]; exact Nat.le_refl 0⟩
theorem ShA.cons {d : PyData} {ds : List PyData} {b c n m : Nat} (h : Sh d b n) (g : ShA ds c m) : ShA (d :: ds) (b + 1 + c) (max n m) := by
  refine ⟨?_, ?_, ?_, ?_, ?_⟩
  · simp only [PyData.canLayAll0]; rw [h.lay, g.lay]; rfl
  · simp only [PyData.showableAll]; rw [h.shw, g.shw]; rfl
  · simp only [PyData.leavesShortAll]; rw [h.lv, g.lv]; rfl
  · simp only [PyData.bulkAll]
    have := h.bk
    have := g.bk
    omega
  · simp only [PyData.depthAll]
    have := h.dp
    have := g.dp
    omega
theorem ShA.map {α : Type} {f : α → PyData} {c n : Nat} : ∀ {l : List α}, (∀ x ∈ l, Sh (f x) c n) → ShA (l.map f) (l.length * (c + 1)) n
  | [], _ => ShA.nil.mono (Nat.zero_le _) (Nat.zero_le _)
  | x :: l, h => by
    have g := ShA.cons (h x List.mem_cons_self) (ShA.map fun y hy => h y (List.mem_cons_of_mem _ hy))
    exact g.mono (by rw [List.length_cons, Nat.succ_mul]; omega) (by omega)
theorem Sh.tup {ds : List PyData} {b n : Nat} (h : ShA ds b n) : Sh (.tuple ds) b (n + 1) := by
  refine ⟨?_, ?_, ?_, ?_, ?_⟩
  · simp only [PyData.canLay0]; exact h.lay
  · simp only [PyData.showable]; exact h.shw
  · simp only [PyData.leavesShort]; exact h.lv
  · simp only [PyData.bulk]; exact h.bk
  · simp only [PyData.depth]
    have := h.dp
    omega
theorem Sh.lst {ds : List PyData} {b n : Nat} (h : ShA ds b n) : Sh (.list ds) b (n + 1) := by
  refine ⟨?_, ?_, ?_, ?_, ?_⟩
  · simp only [PyData.canLay0]; exact h.lay
  · simp only [PyData.showable]; exact h.shw
  · simp only [PyData.leavesShort]; exact h.lv
  · simp only [PyData.bulk]; exact h.bk
  · simp only [PyData.depth]
    have := h.dp
    omega
/-- repr(x), x plain data -/
def rRepr (K : PySem.W.Frag) : List V → Hp → VK → Prop := fun xs H Q => ∃ (v : V) (d : PyData) (b n : Nat), xs = [v] ∧ Dp K H v d ∧ Sh d b n ∧ b ≤ 1048576 ∧ n ≤ 60 ∧ Q (.str d.shown) H
theorem reprD {X : Cx} (K : PySem.W.Frag) (hg : X.A.guards = some []) (hu : X.A.units + 64 < cLine) (h : X.K = K := by rfl) : CallR X (.builtin "repr") (rRepr K) := by
  subst h
  intro pins s σ H xs us Q I r h
  obtain ⟨v, d, b, n, rfl, hd, sh, hb, hn, q⟩ := h
  cases r with
  | cons ru rr =>
    cases rr
    have fits : d.shown.length ≤ sizeLine := PyData.shown_fits_bulk (B := 13) (by decide) (by decide) sh.lv (Nat.le_trans sh.bk (Nat.le_trans hb (by decide)))
    cases hd with
    | non => cases ru; exact P.repr_of_none ⟨.str _, H, I.tok _, ⟨_, rfl⟩, by simpa only [PyData.shown] using q⟩
    | bl c => cases ru; exact P.repr_of_bool ⟨.str _, H, I.tok _, ⟨_, rfl⟩, by simpa only [PyData.shown] using q⟩
    | int i =>
      obtain ⟨t, rfl⟩ := ru
      have g := sh.shw
      simp only [PyData.showable] at g
      exact P.repr_of_int (of_decide_eq_true g) ⟨.str _, H, I.tok _, ⟨_, rfl⟩, by simpa only [PyData.shown] using q⟩
    | str x =>
      obtain ⟨t, rfl⟩ := ru
      exact P.repr_of_str ⟨.str _, H, I.tok _, ⟨_, rfl⟩, by simpa only [PyData.shown] using q⟩ (by simpa only [PyData.shown] using fits)
    | lst hs ha =>
      cases ru
      obtain ⟨as, rd⟩ := Dp.reads I _ _ _ (.lst hs ha) (show RelV (V.ref _) (Value.ref _) from rfl)
      exact repr_of_reads' rd sh.shw (PyData.noDict_hsm (PyData.hasDict_of_canLay _ sh.lay)) hg (by have := sh.dp; omega) (fun b o e => e) (fun h' u tk k => ⟨.str _, H, I.kept (t' := tk) k, ⟨_, rfl⟩, q⟩) fits
    | tup hs ha =>
      cases ru
      obtain ⟨as, rd⟩ := Dp.reads I _ _ _ (.tup hs ha) (show RelV (V.ref _) (Value.ref _) from rfl)
      exact repr_of_reads' rd sh.shw (PyData.noDict_hsm (PyData.hasDict_of_canLay _ sh.lay)) hg (by have := sh.dp; omega) (fun b o e => e) (fun h' u tk k => ⟨.str _, H, I.kept (t' := tk) k, ⟨_, rfl⟩, q⟩) fits
/-! ### own classes, in bundles -/
/-- a special method of the class at C -/
structure SpN (P : Program) (w : World) (K : PySem.W.Frag) (mg : Str → Option Value) (base : Heap) (C : Addr) (m : Str) (k : Nat) (sp : Sp) : Prop where
  ex : ∃ (f : Addr) (fd : FuncData) (ps : List Str), FnOk P w K mg base CX0 k f fd ps sp ∧ PySem.W.findIn K (.ref C) m = some (some (.ref f)) ∧ PySem.W.isFn K (.ref f) = true ∧ Binds K fd ps []
/-- a property -/
structure GetN (P : Program) (w : World) (K : PySem.W.Frag) (mg : Str → Option Value) (base : Heap) (C : Addr) (m : Str) (k : Nat) (sp : Sp) : Prop where
  ex : ∃ (p g : Addr) (fd : FuncData) (ps : List Str), PropOf K C m p g ∧ FnOk P w K mg base CX0 k g fd ps sp ∧ Binds K fd ps []
/-- the class made, by position and by keyword -/
structure MkN (P : Program) (w : World) (K : PySem.W.Frag) (mg : Str → Option Value) (base : Heap) (x : Str) (C : Addr) (k : Nat) (ps : List Str) (sp : Sp) (ks : List Str) (gL : List Value → List Value → List Value) (gV : List V → List V → List V) : Prop where
  ex : ∃ (f : Addr) (fd : FuncData), Mk K C f ∧ FnOk P w K mg base CX0 k f fd ps sp ∧ Binds K fd ps [] ∧ KBn K fd ps 1 ks gL gV
  gC : mg x = some (.ref C)
/-- a classmethod, by position and by keyword -/
structure CmN (P : Program) (w : World) (K : PySem.W.Frag) (mg : Str → Option Value) (base : Heap) (C : Addr) (m : Str) (k : Nat) (ps : List Str) (sp : Sp) (ks : List Str) (gL : List Value → List Value → List Value) (gV : List V → List V → List V) : Prop where
  ex : ∃ (p g : Addr) (fd : FuncData) (mc : Value), ClX.CRead K C mc ∧ ClX.CMet K C mc m p g ∧ FnOk P w K mg base CX0 k g fd ps sp ∧ Binds K fd ps [] ∧ KBn K fd ps 1 ks gL gV
theorem fun_kb {K : PySem.W.Frag} {x qual : Str} {st : Stmt} {f : Addr} {fd : FuncData} {ps ks : List Str} {n : Nat} {gL : List Value → List Value → List Value} {gV : List V → List V → List V} (F : Fun K x qual st f fd)
    (h : ∀ (kV doc pm : Value) (an : Option Addr) (cdv ct : Value) (us ws : List Value), us.length = n → ws.length = ks.length → bindArgs (PySem.W.fnOf x qual (defArgs st) (defBody st) (defScope st) .none kV doc pm an cdv ct) ⟨us, ks.zip ws⟩ = pure (ps.zip (gL us ws)))
    (hrel : ∀ {vs : List V} {us : List Value} {zs : List V} {ws : List Value}, Vals vs us → Vals zs ws → Vals (gV vs zs) (gL us ws)) : KBn K fd ps n ks gL gV := by
  obtain ⟨oc, od, kV, doc, pm, an, cdv, ct, osl, rfl, lk, hcd⟩ := F.ex
  exact ⟨fun s us ws _ h1 h2 => .of_eq (h kV doc pm an cdv ct us ws h1 h2), hrel⟩
section
variable {X : Cx} {C : Addr} {k j : Nat} {sp : Sp} {m x : Str} {ps ks : List Str} {gL : List Value → List Value → List Value} {gV : List V → List V → List V} {e o : Expr} {es : List Expr} {kws : List Keyword} {p pos apos : Pos} {t : TA} {ta : TE} {tk : TA} {pl : Sem Bool}
theorem SpN.at (S : SpN X.prog X.w X.K X.mg X.base C m k sp) : SpM X C m k sp := ⟨S.ex⟩
theorem pe_prp (G : GetN X.prog X.w X.K X.mg X.base C m k sp) (c : Cls X.K C) (hr : Room j X.A) (hk : k + 1 ≤ j) (he : PE X e ta) (hab : attributeBase e m X.env (eval e X.env) = eval e X.env := by rfl) : PE X (.Attribute e m pos) (tProp C sp [] E0 ta) := by
  obtain ⟨p, g, fd, ps, hp, F, hb⟩ := G.ex
  exact pe_prop he c hp F (hr.mono hk) hb .nil pass0 hab
theorem pe_mk (M : MkN X.prog X.w X.K X.mg X.base x C k ps sp ks gL gV) (hr : Room j X.A) (hk : k + 1 ≤ j) (ha : PA X (e :: es) t) (hg : Gl X x := by rfl) (hdb : (x == ("__debug__" : Str)) = false := by decide)
    (he : starEach (e :: es) X.env = (false, eval e X.env) :: starEach es X.env := by rfl) (hpl : (backTo pos (starEach es X.env)).any (·.1) = false := by rfl) : PE X (.Call (.Name x p) (e :: es) [] pos) (tMake C sp [] E0 t) := by
  obtain ⟨⟨f, fd, m, F, hb, _⟩, gC⟩ := M
  exact pe_make m F (hr.mono hk) hg gC hb .nil pass0 ha hdb he hpl
theorem pe_mkK (M : MkN X.prog X.w X.K X.mg X.base x C k ps sp ks gL gV) (hr : Room j X.A) (hk : k + 1 ≤ j) (hkw : PK X kws tk) (hg : Gl X x := by rfl)
    (hall : (backToKw pos (keywordEach kws X.env)).all (·.1.isSome) = true := by rfl) (hks : (backToKw pos (keywordEach kws X.env)).filterMap (·.1) = ks := by rfl) (hdb : (x == ("__debug__" : Str)) = false := by decide)
    (hpl : ((backTo pos (starEach [] X.env)).any (·.1) || (backToKw pos (keywordEach kws X.env)).any (·.1.isNone)) = false := by rfl) : PE X (.Call (.Name x p) [] kws pos) (tMakeK C 0 ks.length sp gV E0 tNil tk) := by
  obtain ⟨⟨f, fd, m, F, _, hb⟩, gC⟩ := M
  exact pe_makeK0 m F (hr.mono hk) hg gC hb pass0 hkw hall hks hdb hpl
theorem pe_cm (M : CmN X.prog X.w X.K X.mg X.base C m k ps sp ks gL gV) (hr : Room j X.A) (hk : k ≤ j) (he : PE X o ta) (ha : PA X (e :: es) t)
    (hst : starEach (e :: es) X.env = (false, eval e X.env) :: starEach es X.env := by rfl) (hpl : (backTo pos (starEach es X.env)).any (·.1) = false := by rfl)
    (ht : eval (.Call (.Attribute o m apos) (e :: es) [] pos) X.env = (eval o X.env >>= fun ov => standAt apos.atName >>= fun _ => holding [ov] (getMethod ov m pl) >>= fun fx => callWith pos fx.1 fx.2 (backTo pos (starEach (e :: es) X.env)) (backToKw pos (keywordEach [] X.env))) := by rfl) :
    PE X (.Call (.Attribute o m apos) (e :: es) [] pos) (ClX.tCMeth C (fun vs H Q E => sp (vs ++ []) H Q E) E0 ta t) := by
  obtain ⟨p, g, fd, mc, r, c, F, hb, _⟩ := M.ex
  exact ClX.pe_cmeth (pl := pl) he r c (F.raw hb .nil) (hr.mono hk) pass0 ha hst hpl ht
theorem pe_cmK (M : CmN X.prog X.w X.K X.mg X.base C m k ps sp ks gL gV) (hr : Room j X.A) (hk : k ≤ j) (he : PE X o ta) (hkw : PK X kws tk)
    (hall : (backToKw pos (keywordEach kws X.env)).all (·.1.isSome) = true := by rfl) (hks : (backToKw pos (keywordEach kws X.env)).filterMap (·.1) = ks := by rfl)
    (hpl : ((backTo pos (starEach [] X.env)).any (·.1) || (backToKw pos (keywordEach kws X.env)).any (·.1.isNone)) = false := by rfl)
    (ht : eval (.Call (.Attribute o m apos) [] kws pos) X.env = (eval o X.env >>= fun ov => standAt apos.atName >>= fun _ => holding [ov] (getMethod ov m pl) >>= fun fx => callWith pos fx.1 fx.2 (backTo pos (starEach [] X.env)) (backToKw pos (keywordEach kws X.env))) := by rfl) :
    PE X (.Call (.Attribute o m apos) [] kws pos) (tCMethK C ks.length sp gV ta tk) := by
  obtain ⟨p, g, fd, mc, r, c, F, _, hb⟩ := M.ex
  exact pe_cmethK (pl := pl) he r c F hr hk hb hkw hall hks hpl ht
end
end U

namespace U
open PySem L2 PySem.Spec PyProof.Rows PySem.W
/-! ### t[::-1] of a tuple -/
section
variable {prog : Program} {w : World} {A : Around} {E : Value → Shared → Prop} {s : Shared}
theorem places_rev (n : Nat) : Builtin.Slice.slicePlaces ((n : Int) - 1) (-1) (-1) = n := by
  unfold Builtin.Slice.slicePlaces
  rw [if_neg (by decide)]
  by_cases h : (n : Int) - 1 > -1
  · rw [if_pos h]
    have e : ((n : Int) - 1 - -1 - 1) / (- -1) + 1 = (n : Int) := by
      rw [show (- -1 : Int) = 1 by decide, Int.ediv_one]; omega
    rw [e]; rfl
  · rw [if_neg h]
    have : n = 0 := by omega
    rw [this]; rfl
theorem applied_rev {sl : Addr} {vl vu vs : Value} {n : Nat} {Q : Int × Int × Nat → Shared → Prop} (hs : s.heap.IsSliceOf sl vl vu vs) (pl : IsPart vl none) (pu : IsPart vu none) (ps : IsPart vs (some (-1)))
    (h : Q ((n : Int) - 1, -1, n) s) : wpAny (model prog w) A (Builtin.Slice.sliceApplied (.ref sl) (pure (n : Int))) Q E s := by
  obtain ⟨os, g1, g2, g3⟩ := id hs
  unfold Builtin.Slice.sliceApplied Builtin.Slice.sliceFields
  refine wpAny_bind (wpAny_bind (wpAny_field g1 g3 (x := vl) rfl (wpAny_bind (wpAny_field g1 g3 (x := vu) rfl (wpAny_bind (wpAny_field g1 g3 (x := vs) rfl (wpAny_pure ?_)))))))
  refine wpAny_bind (HT.slicePart_ ps ?_)
  show wpAny _ _ (if ((-1 : Int) == 0) = true then _ else _) _ _ s
  rw [if_neg (by decide)]
  refine wpAny_bind (HT.slicePart_ pl (wpAny_bind (HT.slicePart_ pu (wpAny_bind (wpAny_pure ?_)))))
  have e : Builtin.Slice.sliceAdjust none none (-1) (n : Int) = ((n : Int) - 1, -1) := rfl
  show wpAny _ _ (pure (((n : Int) - 1), (-1 : Int), Builtin.Slice.slicePlaces ((n : Int) - 1) (-1) (-1))) _ _ s
  rw [places_rev]
  exact wpAny_pure h
theorem fm_congr {α β : Type} {f g : α → Option β} : ∀ {l : List α}, (∀ x ∈ l, f x = g x) → l.filterMap f = l.filterMap g
  | [], _ => rfl
  | x :: l, h => by
    rw [List.filterMap_cons, List.filterMap_cons, h x List.mem_cons_self, fm_congr fun y hy => h y (List.mem_cons_of_mem _ hy)]
theorem pick_rev (xs : Array Value) : ((List.range xs.size).filterMap fun (m : Nat) => xs[((xs.size : Int) - 1 + (m : Int) * -1).toNat]?).toArray = xs.toList.reverse.toArray := by
  have e : ((List.range xs.size).filterMap fun (m : Nat) => xs[((xs.size : Int) - 1 + (m : Int) * -1).toNat]?) = ((List.range xs.size).map fun k => xs.size - 1 - k).filterMap (xs[·]?) := by
    rw [List.filterMap_map]
    refine fm_congr fun m hm => ?_
    have := List.mem_range.mp hm
    have e : ((xs.size : Int) - 1 + (m : Int) * -1).toNat = xs.size - 1 - m := by omega
    rw [e]; rfl
  rw [e, krv_range, List.filterMap_reverse, krv_all]
theorem getItem_rev {t sl : Addr} {items : Array Value} {vl vu vs : Value} {Q : Value → Shared → Prop} (ht : IsTup s.heap t items) (hs : s.heap.IsSliceOf sl vl vu vs) (pl : IsPart vl none) (pu : IsPart vu none) (ps : IsPart vs (some (-1)))
    (h : Q (.ref s.heap.objs.size) { s with heap := s.heap.push { cls := .type "tuple", data := .seq items.toList.reverse.toArray } }) (hsz : items.size ≤ sizeLine) : wpAny (model prog w) A (getItem (.ref t) (.ref sl)) Q E s := by
  have room : sizeOk (.seq items.toList.reverse.toArray) := by
    show items.toList.reverse.toArray.size ≤ sizeLine
    rw [List.size_toArray, List.length_reverse, Array.length_toList]; exact hsz
  obtain ⟨os, g1, g2, g3⟩ := id hs
  have tys : s.TypeIs (.ref sl) "slice" := ⟨os, g1, g2⟩
  unfold getItem
  try with_reducible refine wpAny_holding ?_
  first | refine wpAny_bind (wpAny_pure ?_) | skip
  refine wpAny_bind (wpAny_sequenceKey ht.typeIs (by decide) ?_)
  refine wpAny_bind (wpAny_callSpecial?_slot (name := Str.ofString "__getitem__") ht.typeIs PyProof.Rows.slot_tuple_getitem (wpAny_call_entry PyProof.Rows.slot_tuple_getitem ht.typeIs entry_tuple_getitem ?_ (args_tuple_getitem _ _)))
  show wpAny _ _ (Builtin.Tuple.tupleItemsOf (.ref t) >>= _) _ _ s
  refine wpAny_bind (tupleItemsOf_ ht (wpAny_bind (wpAny_typeOf tys ?_)))
  rw [if_pos (by decide)]
  refine wpAny_bind (applied_rev hs pl pu ps ?_)
  have no : ¬ ((((items.size : Int) - 1 == 0) && ((-1 : Int) == 1) && (items.size == items.size)) = true) := fun q => by
    rw [show ((-1 : Int) == 1) = false from rfl, Bool.and_false, Bool.false_and] at q
    cases q
  show wpAny _ _ (if (((items.size : Int) - 1 == 0) && ((-1 : Int) == 1) && (items.size == items.size)) = true then _ else _) _ _ s
  rw [if_neg no, pick_rev]
  first
    | exact wpAny_bind (m := Builtin.Tuple.tupleExact _) (wpAny_newObj_type (wpAny_pure ⟨_, rfl, wpAny_pure h⟩) room)
    | exact wpAny_bind (m := Builtin.Tuple.tupleExact _) (wpAny_newObj_type (wpAny_bind (wpAny_pure (wpAny_pure ⟨_, rfl, wpAny_pure h⟩))) room)
    | exact wpAny_bind (wpAny_bind (m := Builtin.Tuple.tupleExact _) (wpAny_newObj_type (wpAny_pure ⟨_, rfl, wpAny_pure h⟩) room))
    | exact wpAny_bind (wpAny_bind (m := Builtin.Tuple.tupleExact _) (wpAny_newObj_type (wpAny_pure (wpAny_pure ⟨_, rfl, wpAny_pure h⟩)) room))
end
section
variable {X : Cx}
def tRevT (K : PySem.W.Frag) (te : TE) : TE := fun σ H Q => te σ H fun x H1 => ∃ a xs, x = .ref a ∧ SqT K H1 a xs ∧ ∀ p, H1 p = none → Q (.ref p) (upd H1 p (.tup xs.reverse))
theorem pe_revT (K : PySem.W.Frag) {e : Expr} {te : TE} {k : Nat} {p1 p2 p3 pos : Pos} (he : PE X e te) (hK : X.K = K := by rfl) : PE X (.Subscript e (.Slice none none (some (.UnaryOp .USub (.Constant (.int 1) k p1) p2)) p3) pos) (tRevT K te) := by
  subst hK
  constructor
  intro pins s σ H Q I h
  refine Subscript_ (thn (he.run pins s σ H _ I h) fun v s1 hh => ?_)
  obtain ⟨x, H1, I1, r1, a, xs, rfl, hx, q⟩ := hh
  cases r1
  have st : PO X (some (.UnaryOp .USub (.Constant (.int 1) k p1) p2)) (tPart (tUn (rU fun i => .int (-i)) (tC (.int 1)))) := po_some (pe_un un_neg pe_int)
  refine wpAny_Slice (thn (po_none.run pins s1 σ H1 (fun o H2 => o = none ∧ H2 = H1) I1 ⟨rfl, rfl⟩) fun vl s2 hl => ?_)
  obtain ⟨l, H2, I2, pl, rfl, rfl⟩ := hl
  refine thn (po_none.run pins s2 σ H2 (fun o H3 => o = none ∧ H3 = H2) I2 ⟨rfl, rfl⟩) fun vu s3 hl => ?_
  obtain ⟨u, H3, I3, pu, rfl, rfl⟩ := hl
  refine thn (st.run pins s3 σ H3 (fun o H4 => o = some (-1) ∧ H4 = H3) I3 ⟨1, rfl, -1, rfl, rfl, rfl⟩) fun vs s4 hl => ?_
  obtain ⟨o, H4, I4, ps, rfl, rfl⟩ := hl
  have I5 : Inv X pins σ H4 { s4 with heap := s4.heap.push { cls := .type "slice", data := .fields #[vl, vu, vs] } } := I4.kept (t' := s4.toks) fun b ob q => Heap.get?_push_of_some _ q
  obtain ⟨its, r, ht, hz⟩ := I5.tuple hx
  show wpAny (model X.prog X.w) X.A (subscriptTail e (.Slice none none (some (.UnaryOp .USub (.Constant (.int 1) k p1) p2)) p3) (.ref a) (.ref s4.heap.objs.size)) (EP X pins σ Q) X.xe { s4 with heap := s4.heap.push { cls := .type "slice", data := .fields #[vl, vu, vs] } }
  refine tail_any (ops := [.ref a, .ref s4.heap.objs.size]) ht.typeIs PyProof.Rows.slot_tuple_getitem.lookup ?_ (by with_unfolding_all rfl)
  refine getItem_rev ht (Heap.IsSliceOf.new _ vl vu vs) pl pu ps ?_ (by rw [List.size_toArray, ← r.length]; exact hz)
  refine ⟨.ref _, _, I5.laid (t' := s4.toks) (o := .tup xs.reverse) (fun b ob q => Heap.get?_push_of_some _ q) (Nat.le_refl _) ?_, rfl, q _ (I5.hok.fresh (Nat.le_refl _))⟩
  exact ⟨by rw [List.length_reverse]; exact hz, _, r.reverse, IsTup.new _ _⟩
end
end U

namespace U
open PySem L2 PySem.Spec PyProof.Rows PySem.W
/-! ### an own object held against a value of a built-in class -/
section
variable {prog : Program} {w : World} {A : Around} {E : Value → Shared → Prop} {s : Shared} {K : Frag} {x C : Addr} {ox dx : Addr} {od : Option Obj}
theorem int_own_eq (b : Int) (u : Tok) (l C dx : Addr) : Meets (Builtin.«int.__eq__» ⟨[.int b u, .ref l], []⟩) (fun _ R s => s.heap.get? l = some (instObj C dx) ∧ R (.ok (.ret .notImplemented)) s) :=
  .of_wp fun prog w A R s h => by obtain ⟨hp, g, d, tk, os⟩ := s; obtain ⟨hl, h⟩ := h; wp_walk using wpAny_loadPart' hl, wpAny_load hl; exact ⟨_, rfl, h⟩
theorem int_own_ne (b : Int) (u : Tok) (l C dx : Addr) : Meets (Builtin.«int.__ne__» ⟨[.int b u, .ref l], []⟩) (fun _ R s => s.heap.get? l = some (instObj C dx) ∧ R (.ok (.ret .notImplemented)) s) :=
  .of_wp fun prog w A R s h => by obtain ⟨hp, g, d, tk, os⟩ := s; obtain ⟨hl, h⟩ := h; wp_walk using wpAny_loadPart' hl, wpAny_load hl; exact ⟨_, rfl, h⟩
theorem bool_own_eq (b : Bool) (l C dx : Addr) : Meets (Builtin.«int.__eq__» ⟨[.bool b, .ref l], []⟩) (fun _ R s => s.heap.get? l = some (instObj C dx) ∧ R (.ok (.ret .notImplemented)) s) :=
  .of_wp fun prog w A R s h => by obtain ⟨hp, g, d, tk, os⟩ := s; obtain ⟨hl, h⟩ := h; wp_walk using wpAny_loadPart' hl, wpAny_load hl; exact ⟨_, rfl, h⟩
theorem bool_own_ne (b : Bool) (l C dx : Addr) : Meets (Builtin.«int.__ne__» ⟨[.bool b, .ref l], []⟩) (fun _ R s => s.heap.get? l = some (instObj C dx) ∧ R (.ok (.ret .notImplemented)) s) :=
  .of_wp fun prog w A R s h => by obtain ⟨hp, g, d, tk, os⟩ := s; obtain ⟨hl, h⟩ := h; wp_walk using wpAny_loadPart' hl, wpAny_load hl; exact ⟨_, rfl, h⟩
theorem str_own_eq (b : Str) (u : Tok) (l C dx : Addr) : Meets (Builtin.«str.__eq__» ⟨[.str b u, .ref l], []⟩) (fun _ R s => s.heap.get? l = some (instObj C dx) ∧ R (.ok (.ret .notImplemented)) s) :=
  .of_wp fun prog w A R s h => by obtain ⟨hp, g, d, tk, os⟩ := s; obtain ⟨hl, h⟩ := h; wp_walk using wpAny_loadPart' hl, wpAny_load hl; exact ⟨_, rfl, h⟩
theorem str_own_ne (b : Str) (u : Tok) (l C dx : Addr) : Meets (Builtin.«str.__ne__» ⟨[.str b u, .ref l], []⟩) (fun _ R s => s.heap.get? l = some (instObj C dx) ∧ R (.ok (.ret .notImplemented)) s) :=
  .of_wp fun prog w A R s h => by obtain ⟨hp, g, d, tk, os⟩ := s; obtain ⟨hl, h⟩ := h; wp_walk using wpAny_loadPart' hl, wpAny_load hl; exact ⟨_, rfl, h⟩
/-- what a list, a tuple, a dict says of a value of another class -/
theorem other_cls {T : String} {Q : Bool → Shared → Prop} (X : K.In s.heap) (J : PySem.W.InstAt s.heap x (instObj C dx) C od) (e : subIn K (.ref C) (.type T) = some false) (h : Q false s) : wpAny (model prog w) A (isInstance (.ref x) (.type T)) Q E s := by
  unfold isInstance
  exact wpAny_bind (J.type.here ((looks_subIn X e).here h))
theorem tup_body {B : Builtin} {a : Addr} {Q : Value → Shared → Prop} (hB : B = Builtin.«tuple.__eq__» ∨ B = Builtin.«tuple.__ne__») (X : K.In s.heap) (J : PySem.W.InstAt s.heap x (instObj C dx) C od) (e : subIn K (.ref C) (.type "tuple") = some false)
    (h : Q .notImplemented s) : wpAny (model prog w) A (B ⟨[.ref a, .ref x], []⟩) (fun fin s' => ∃ v, fin = .done (.ret v) ∧ Q v s') E s := by
  rcases hB with rfl | rfl
  all_goals
    show wpAny _ _ (isInstance (.ref x) (.type "tuple") >>= _) _ _ s
    refine wpAny_bind (other_cls X J e ?_)
    show wpAny _ _ (if (!false) = true then _ else _) _ _ s
    rw [if_pos (by rfl : (!false) = true)]
    exact wpAny_pure ⟨_, rfl, h⟩
theorem lst_body {B : Builtin} {a : Addr} {Q : Value → Shared → Prop} (hB : B = Builtin.«list.__eq__» ∨ B = Builtin.«list.__ne__») (X : K.In s.heap) (J : PySem.W.InstAt s.heap x (instObj C dx) C od) (e : subIn K (.ref C) (.type "list") = some false)
    (h : Q .notImplemented s) : wpAny (model prog w) A (B ⟨[.ref a, .ref x], []⟩) (fun fin s' => ∃ v, fin = .done (.ret v) ∧ Q v s') E s := by
  rcases hB with rfl | rfl
  all_goals
    show wpAny _ _ (isInstance (.ref x) (.type "list") >>= _) _ _ s
    refine wpAny_bind (other_cls X J e ?_)
    show wpAny _ _ (if (!false) = true then _ else _) _ _ s
    rw [if_pos (by rfl : (!false) = true)]
    exact wpAny_pure ⟨_, rfl, h⟩
theorem dic_body {B : Builtin} {a : Addr} {Q : Value → Shared → Prop} (hB : B = Builtin.«dict.__eq__» ∨ B = Builtin.«dict.__ne__») (X : K.In s.heap) (J : PySem.W.InstAt s.heap x (instObj C dx) C od) (e : subIn K (.ref C) (.type "dict") = some false)
    (h : Q .notImplemented s) : wpAny (model prog w) A (B ⟨[.ref a, .ref x], []⟩) (fun fin s' => ∃ v, fin = .done (.ret v) ∧ Q v s') E s := by
  rcases hB with rfl | rfl
  all_goals
    show wpAny _ _ (isInstance (.ref x) (.type "dict") >>= _) _ _ s
    refine wpAny_bind (other_cls X J e ?_)
    show wpAny _ _ (if (!false) = true then _ else _) _ _ s
    rw [if_pos (by rfl : (!false) = true)]
    exact wpAny_bind (wpAny_rule (wpAny_pure ⟨_, rfl, h⟩))
/-- a value of a built-in class -/
inductive Fv (s : Shared) : Value → String → Prop
  | non : Fv s .none "NoneType"
  | bl (b : Bool) : Fv s (.bool b) "bool"
  | int (i : Int) (t : Tok) : Fv s (.int i t) "int"
  | str (y : Str) (t : Tok) : Fv s (.str y t) "str"
  | lst {a : Addr} (h : s.TypeIs (.ref a) "list") : Fv s (.ref a) "list"
  | tup {a : Addr} (h : s.TypeIs (.ref a) "tuple") : Fv s (.ref a) "tuple"
  | dic {a : Addr} (h : s.TypeIs (.ref a) "dict") : Fv s (.ref a) "dict"
theorem Fv.ty {v : Value} {T : String} (f : Fv s v T) : s.TypeIs v T := by
  cases f with
  | non => rfl
  | bl b => rfl
  | int i t => exact typeIs_int s i t
  | str y t => exact typeIs_str s y t
  | lst h => exact h
  | tup h => exact h
  | dic h => exact h
theorem Fv.decl {op : CmpOp} {v : Value} {T : String} (ho : op = .Eq ∨ op = .NotEq) (f : Fv s v T) (X : K.In s.heap) (g : s.heap.get? x = some (instObj C dx)) (J : PySem.W.InstAt s.heap x (instObj C dx) C od) (e : subIn K (.ref C) (.type T) = some false) :
    ∃ id, Slot T (cmpInfo op).2.1 id ∧ ∀ (A : Around) (E : Value → Shared → Prop) (Q : Value → Shared → Prop), Q .notImplemented s → wpAny (model prog w) A (call (.builtin id) [v, .ref x]) Q E s := by
  rcases ho with rfl | rfl
  · cases f with
    | non => exact ⟨_, PySem.F.slot_NoneType_eq, fun A E Q h => call_gives PySem.F.slot_NoneType_eq rfl PySem.F.entry_NoneType_eq (PySem.F.args_NoneType_eq_2 _ _) (SeqAt.NoneType___eq___none_ref_0 x) h⟩
    | bl b => exact ⟨_, PySem.F.slot_bool_eq, fun A E Q h => call_meets PySem.F.slot_bool_eq rfl PySem.F.entry_int_eq (PySem.F.args_int_eq_2 _ _) (bool_own_eq b x C dx) ⟨g, h⟩⟩
    | int i t => exact ⟨_, PySem.F.slot_int_eq, fun A E Q h => call_meets PySem.F.slot_int_eq (typeIs_int s i t) PySem.F.entry_int_eq (PySem.F.args_int_eq_2 _ _) (int_own_eq i t x C dx) ⟨g, h⟩⟩
    | str y t => exact ⟨_, PySem.F.slot_str_eq, fun A E Q h => call_meets PySem.F.slot_str_eq (typeIs_str s y t) PySem.F.entry_str_eq (PySem.F.args_str_eq_2 _ _) (str_own_eq y t x C dx) ⟨g, h⟩⟩
    | lst h => exact ⟨_, PySem.F.slot_list_eq, fun A E Q hq => wpAny_call_entry PySem.F.slot_list_eq h PySem.F.entry_list_eq (lst_body (.inl rfl) X J e hq) (PySem.F.args_list_eq_2 _ _)⟩
    | tup h => exact ⟨_, PySem.F.slot_tuple_eq, fun A E Q hq => wpAny_call_entry PySem.F.slot_tuple_eq h PySem.F.entry_tuple_eq (tup_body (.inl rfl) X J e hq) (PySem.F.args_tuple_eq_2 _ _)⟩
    | dic h => exact ⟨_, PySem.F.slot_dict_eq, fun A E Q hq => wpAny_call_entry PySem.F.slot_dict_eq h PySem.F.entry_dict_eq (dic_body (.inl rfl) X J e hq) (PySem.F.args_dict_eq_2 _ _)⟩
  · cases f with
    | non => exact ⟨_, PySem.F.slot_NoneType_ne, fun A E Q h => call_gives PySem.F.slot_NoneType_ne rfl PySem.F.entry_NoneType_ne (PySem.F.args_NoneType_ne_2 _ _) (SeqAt.NoneType___ne___none_ref_0 x) h⟩
    | bl b => exact ⟨_, PySem.F.slot_bool_ne, fun A E Q h => call_meets PySem.F.slot_bool_ne rfl PySem.F.entry_int_ne (PySem.F.args_int_ne_2 _ _) (bool_own_ne b x C dx) ⟨g, h⟩⟩
    | int i t => exact ⟨_, PySem.F.slot_int_ne, fun A E Q h => call_meets PySem.F.slot_int_ne (typeIs_int s i t) PySem.F.entry_int_ne (PySem.F.args_int_ne_2 _ _) (int_own_ne i t x C dx) ⟨g, h⟩⟩
    | str y t => exact ⟨_, PySem.F.slot_str_ne, fun A E Q h => call_meets PySem.F.slot_str_ne (typeIs_str s y t) PySem.F.entry_str_ne (PySem.F.args_str_ne_2 _ _) (str_own_ne y t x C dx) ⟨g, h⟩⟩
    | lst h => exact ⟨_, PySem.F.slot_list_ne, fun A E Q hq => wpAny_call_entry PySem.F.slot_list_ne h PySem.F.entry_list_ne (lst_body (.inr rfl) X J e hq) (PySem.F.args_list_ne_2 _ _)⟩
    | tup h => exact ⟨_, PySem.F.slot_tuple_ne, fun A E Q hq => wpAny_call_entry PySem.F.slot_tuple_ne h PySem.F.entry_tuple_ne (tup_body (.inr rfl) X J e hq) (PySem.F.args_tuple_ne_2 _ _)⟩
    | dic h => exact ⟨_, PySem.F.slot_dict_ne, fun A E Q hq => wpAny_call_entry PySem.F.slot_dict_ne h PySem.F.entry_dict_ne (dic_body (.inr rfl) X J e hq) (PySem.F.args_dict_ne_2 _ _)⟩
theorem Fv.looks {M : Model} {v : Value} {T : String} (f : Fv s v T) : PySem.W.Looks M s.heap (typeOf v) (.type T) := by
  intro A' Q' E' s' kk q
  refine wpAny_typeOf ?_ q
  cases f with
  | non => rfl
  | bl b => rfl
  | int i t => exact typeIs_int s' i t
  | str y t => exact typeIs_str s' y t
  | lst h => obtain ⟨o, e, c⟩ := h; exact ⟨o, kk _ _ e, c⟩
  | tup h => obtain ⟨o, e, c⟩ := h; exact ⟨o, kk _ _ e, c⟩
  | dic h => obtain ⟨o, e, c⟩ := h; exact ⟨o, kk _ _ e, c⟩
/-- v == x, v != x: the built-in declines, the own object is asked -/
theorem rev_cmp {op : CmpOp} {v : Value} {T : String} {Q : Value → Shared → Prop} (ho : op = .Eq ∨ op = .NotEq) (hu : A.units < cLine) (f : Fv s v T) (X : K.In s.heap) (g : s.heap.get? x = some (instObj C dx)) (J : PySem.W.InstAt s.heap x (instObj C dx) C od) (e : subIn K (.ref C) (.type T) = some false)
    (back : wpAny (model prog w) A (tryCompare (.ref x) (cmpInfo op).2.2 v) (fun r s' => ∃ u, r = some u ∧ Q u s') E s) : wpAny (model prog w) A (richCompare op v (.ref x)) Q E s := by
  obtain ⟨id, sl, d⟩ := f.decl (prog := prog) (w := w) ho X g J e
  have fin : wpAny (model prog w) A (tryCompare v (cmpInfo op).2.1 (.ref x)) (fun r s' => r = none ∧ s' = s) E s := wpAny_tryCompare_declines f.ty sl (d _ _ _ ⟨rfl, rfl, rfl⟩)
  have nt : (Value.type T != Value.ref C) = true := rfl
  unfold richCompare
  simp only [f.ty.oneThing_none]
  refine wpAny_holding (wpAny_bind (wpAny_cRoomFor hu ?_))
  refine wpAny_bind (wpAny_typeOf f.ty (wpAny_bind (J.type.here ?_)))
  rw [if_pos nt]
  refine wpAny_bind ((looks_subIn X e).here ?_)
  simp only [Bool.false_eq_true, if_false]
  refine wpAny_bind (wpAny_mono fin (fun r s' z => ?_) fun _ _ e => e)
  obtain ⟨rfl, rfl⟩ := z
  simp only [Bool.not_false, if_true]
  refine wpAny_bind (wpAny_mono back (fun r s' z => ?_) fun _ _ e => e)
  obtain ⟨u, rfl, z⟩ := z
  exact wpAny_pure z
theorem try_eq {fa : Addr} {b : Value} {Q : Value → Shared → Prop} (X : K.In s.heap) (J : PySem.W.InstAt s.heap x (instObj C dx) C od) (hs : findIn K (.ref C) "__eq__" = some (some (.ref fa))) (hf : isFn K (.ref fa) = true)
    (h : wpAny (model prog w) A (call (.ref fa) [.ref x, b]) (PySem.W.CmpBack Q) E s) : wpAny (model prog w) A (tryCompare (.ref x) "__eq__" b) (fun r s' => ∃ v, r = some v ∧ Q v s') E s := by
  unfold tryCompare
  refine wpAny_bind (ifBound_K X J hs hf (wpAny_mono h (fun v s' hv => ?_) fun _ _ e => e))
  cases v <;> first | exact hv.elim | exact wpAny_pure ⟨_, rfl, hv⟩
theorem try_ne {fa : Addr} {b : Value} {Q : Value → Shared → Prop} (hu : A.units + 1 < cLine) (X : K.In s.heap) (J : PySem.W.InstAt s.heap x (instObj C dx) C od) (hne : findIn K (.ref C) "__ne__" = some (some (.builtin "object.__ne__"))) (hm : mroIn K C (.type "object") = some true)
    (hs : findIn K (.ref C) "__eq__" = some (some (.ref fa))) (hf : isFn K (.ref fa) = true)
    (h : wpAny (model prog w) A.in1 (call (.ref fa) [.ref x, b]) (fun v s' => ∃ c : Bool, v = .bool c ∧ Q (.bool (!c)) s') E s) : wpAny (model prog w) A (tryCompare (.ref x) "__ne__" b) (fun r s' => ∃ v, r = some v ∧ Q v s') E s := by
  unfold tryCompare
  refine wpAny_bind (ifB X J hne PySem.F.slot_tuple_iterator_ne.bind (wpAny_call (codeAny_call_builtin PySem.F.slot_tuple_iterator_ne.plain PySem.F.cmpEntry_ne
    (check_slot PySem.F.cmpKind_ne PySem.F.cmpSplit_ne (J.type.andThen (looks_mroIn X hm)) (PySem.F.cmpArgs_ne _ _) (neBody (A := A.in1) (by show A.units + 1 < cLine; exact hu) X J hs hf (wpAny_mono h (fun v s' hv => ?_) fun _ _ e => e))))))
  obtain ⟨c, rfl, hq⟩ := hv
  exact ⟨c, rfl, wpAny_pure ⟨_, rfl, hq⟩⟩
end
/-! ### the rules -/
/-- a value of a built-in class, as the proof sees it -/
inductive Fo (H : Hp) : V → String → Prop
  | non : Fo H .non "NoneType"
  | bl (b : Bool) : Fo H (.bl b) "bool"
  | int (i : Int) : Fo H (.int i) "int"
  | str (y : Str) : Fo H (.str y) "str"
  | lst {a : Addr} {xs : List V} (h : H a = some (.lst xs)) : Fo H (.ref a) "list"
  | tup {a : Addr} {xs : List V} (h : H a = some (.tup xs)) : Fo H (.ref a) "tuple"
  | dic {a : Addr} {kvs : List (Key × V)} (h : H a = some (.dK kvs)) : Fo H (.ref a) "dict"
theorem Fo.same {H H' : Hp} {v : V} {T : String} (f : Fo H v T) (s : Same H H') : Fo H' v T := by
  cases f with
  | non => exact .non
  | bl b => exact .bl b
  | int i => exact .int i
  | str y => exact .str y
  | lst h => exact .lst (s _ _ h)
  | tup h => exact .tup (s _ _ h)
  | dic h => exact .dic (s _ _ h)
theorem Fo.tyx {K : Frag} {H : Hp} {v : V} {T : String} (f : Fo H v T) : TyX K H v (.type T) := by
  cases f with
  | non => exact .base .non
  | bl b => exact .base (.bl b)
  | int i => exact .base (.int i)
  | str y => exact .base (.str y)
  | lst h => exact .base (.lst h)
  | tup h => exact .base (.tup h)
  | dic h => exact .base (.dK h)
section
variable {X : Cx} {C : Addr} {k j : Nat} {sp : Sp} {pins : List (Addr × Obj)} {σ : L2.St} {H : Hp} {s : Shared}
theorem Fo.fv {v : V} {u : Value} {T : String} (I : Inv X pins σ H s) (f : Fo H v T) (r : RelV v u) : Fv s u T := by
  cases f with
  | non => cases r; exact .non
  | bl b => cases r; exact .bl b
  | int i => obtain ⟨t, rfl⟩ := r; exact .int i t
  | str y => obtain ⟨t, rfl⟩ := r; exact .str y t
  | lst h =>
    cases r
    obtain ⟨_, _, _, _, e⟩ := I.hok _ _ h
    exact .lst ⟨_, e, rfl⟩
  | tup h =>
    cases r
    obtain ⟨_, _, _, p⟩ := I.hok _ _ h
    exact .tup p.typeIs
  | dic h =>
    cases r
    obtain ⟨_, _, _, _, o, _, _, e, ⟨c, _⟩, _⟩ := I.hok _ _ h
    exact .dic ⟨_, e, c⟩
/-- what the text's part says of the class and the built-in ones -/
structure Apart (K : Frag) (C : Addr) (T : String) : Prop where
  up : subIn K (.ref C) (.type T) = some false
  dn : subIn K (.type T) (.ref C) = some false
/-- x == y, x != y, one of them of the class at C, the other one too or of a built-in class -/
def rCmp (C : Addr) (sp : Sp) (ng : Bool → Bool) : R2 := fun x y H Q =>
  (∃ (a dx : Addr) (fs : List (Str × V)), x = .ref a ∧ H a = some (.ins C dx fs) ∧ ((∃ (b dy : Addr) (gs : List (Str × V)), y = .ref b ∧ H b = some (.ins C dy gs)) ∨ ∃ T, Fo H y T) ∧ sp [x, y] H (fun v H' => ∃ c : Bool, v = .bl c ∧ Q (.bl (ng c)) H') E0) ∨
  (∃ (b dy : Addr) (gs : List (Str × V)) (T : String), y = .ref b ∧ H b = some (.ins C dy gs) ∧ Fo H x T ∧ sp [y, x] H (fun v H' => ∃ c : Bool, v = .bl c ∧ Q (.bl (ng c)) H') E0)
theorem ins_obj {a dx : Addr} {fs : List (Str × V)} (I : Inv X pins σ H s) (ea : H a = some (.ins C dx fs)) : s.heap.get? a = some (instObj C dx) := by
  obtain ⟨_, _, _, e, _⟩ := I.hok _ _ ea
  exact e
theorem cmpEq (S : SpM X C "__eq__" k sp) (ap : ∀ {H : Hp} {v : V} {T : String}, Fo H v T → Apart X.K C T) (hr : Room j X.A) (hk : k ≤ j) : OpR X (compareOp .Eq) (rCmp C sp id) := by
  intro pins s σ H x y v u Q I rx ry h
  obtain ⟨f, fd, ps, F, hs, hf, hb⟩ := S.ex
  obtain ⟨m, hF⟩ := I.fr
  have r2 : Room k X.A := hr.mono hk
  show wpAny (model X.prog X.w) X.A (richCompare .Eq v u) (EP X pins σ Q) X.xe s
  rcases h with ⟨a, dx, fs, rfl, ea, hy, h⟩ | ⟨b, dy, gs, T, rfl, eb, fo, h⟩
  · cases rx
    obtain ⟨od, J⟩ := inst_of I ea
    have rr : Vals [V.ref a, y] [Value.ref a, u] := .cons (show RelV (V.ref a) (Value.ref a) from rfl) (.cons ry .nil)
    have call : wpAny (model X.prog X.w) X.A (call (.ref f) [.ref a, u]) (PySem.W.CmpBack (EP X pins σ Q)) X.xe s := wpAny_mono (run_at F hb r2 rfl I rr h) (fun w s' hq => by
      obtain ⟨z, H', I', rz, c, rfl, q⟩ := hq
      cases rz
      exact ⟨.bl c, H', I', rfl, q⟩) fun _ _ e => e
    rcases hy with ⟨b, dy, gs, rfl, eb⟩ | ⟨T, fo⟩
    · cases ry
      obtain ⟨od', J'⟩ := inst_of I eb
      exact cmp_K (op := .Eq) (tb := .ref C) r2.units0 hF I.ok.mod.kin J J'.type (by simp [notFirst]) hs hf call
    · have fv := fo.fv I ry
      refine cmp_K (op := .Eq) (tb := .type T) r2.units0 hF I.ok.mod.kin J fv.looks (by unfold notFirst; rw [(ap fo).dn]; simp) hs hf call
  · cases ry
    obtain ⟨od, J⟩ := inst_of I eb
    have rr : Vals [V.ref b, x] [Value.ref b, v] := .cons (show RelV (V.ref b) (Value.ref b) from rfl) (.cons rx .nil)
    refine rev_cmp (.inl rfl) r2.units0 (fo.fv I rx) I.kIn (ins_obj I eb) J (ap fo).up (try_eq I.kIn J hs hf (wpAny_mono (run_at F hb r2 rfl I rr h) (fun w s' hq => ?_) fun _ _ e => e))
    obtain ⟨z, H', I', rz, c, rfl, q⟩ := hq
    cases rz
    exact ⟨.bl c, H', I', rfl, q⟩
theorem cmpNe (S : SpM X C "__eq__" k sp) (ap : ∀ {H : Hp} {v : V} {T : String}, Fo H v T → Apart X.K C T) (hne : findIn X.K (.ref C) "__ne__" = some (some (.builtin "object.__ne__"))) (hm : mroIn X.K C (.type "object") = some true) (hr : Room j X.A) (hk : k + 1 ≤ j) :
    OpR X (compareOp .NotEq) (rCmp C sp Bool.not) := by
  intro pins s σ H x y v u Q I rx ry h
  obtain ⟨f, fd, ps, F, hs, hf, hb⟩ := S.ex
  have r2 : Room k X.A.in1 := (hr.mono hk).in1
  show wpAny (model X.prog X.w) X.A (richCompare .NotEq v u) (EP X pins σ Q) X.xe s
  rcases h with ⟨a, dx, fs, rfl, ea, hy, h⟩ | ⟨b, dy, gs, T, rfl, eb, fo, h⟩
  · cases rx
    obtain ⟨od, J⟩ := inst_of I ea
    have rr : Vals [V.ref a, y] [Value.ref a, u] := .cons (show RelV (V.ref a) (Value.ref a) from rfl) (.cons ry .nil)
    have call : wpAny (model X.prog X.w) X.A.in1 (call (.ref f) [.ref a, u]) (fun v s' => ∃ c : Bool, v = .bool c ∧ EP X pins σ Q (.bool (!c)) s') X.xe s := wpAny_mono (run_at F hb r2 rfl I rr h) (fun w s' hq => by
      obtain ⟨z, H', I', rz, c, rfl, q⟩ := hq
      cases rz
      exact ⟨c, rfl, .bl (!c), H', I', rfl, q⟩) fun _ _ e => e
    rcases hy with ⟨b, dy, gs, rfl, eb⟩ | ⟨T, fo⟩
    · cases ry
      obtain ⟨od', J'⟩ := inst_of I eb
      exact neK (tb := .ref C) r2.units0 I.kIn J J'.type (by simp [notFirst]) hne hm hs hf call
    · exact neK (tb := .type T) r2.units0 I.kIn J (fo.fv I ry).looks (by unfold notFirst; rw [(ap fo).dn]; simp) hne hm hs hf call
  · cases ry
    obtain ⟨od, J⟩ := inst_of I eb
    have rr : Vals [V.ref b, x] [Value.ref b, v] := .cons (show RelV (V.ref b) (Value.ref b) from rfl) (.cons rx .nil)
    refine rev_cmp (.inr rfl) (Nat.lt_of_succ_lt r2.units0) (fo.fv I rx) I.kIn (ins_obj I eb) J (ap fo).up (try_ne r2.units0 I.kIn J hne hm hs hf (wpAny_mono (run_at F hb r2 rfl I rr h) (fun w s' hq => ?_) fun _ _ e => e))
    obtain ⟨z, H', I', rz, c, rfl, q⟩ := hq
    cases rz
    exact ⟨c, rfl, .bl (!c), H', I', rfl, q⟩
end
end U

namespace M
open PySem L2 U
def top (i : Nat) : Stmt := PySem.Challenge.pw_alwaysagree_k07_councils_compared.main.body.getD i (.Pass ⟨0, 0, 0, 0⟩)
/-- what the built-ins' names are not: names of the module -/
structure Bt (mg : Str → Option Value) : Prop where
  len : mg "len" = none
  range : mg "range" = none
  int : mg "int" = none
  abs : mg "abs" = none
  divmod : mg "divmod" = none
  sum : mg "sum" = none
  tuple : mg "tuple" = none
  all : mg "all" = none
  max : mg "max" = none
  min : mg "min" = none
  str : mg "str" = none
  bool : mg "bool" = none
  isinstance : mg "isinstance" = none
  enumerate : mg "enumerate" = none
  repr : mg "repr" = none
  g_LETTERS : ∃ u, mg "LETTERS" = some u ∧ RelV (.str "abcdefghijklmnopqrstuvwxyz") u
  g_LETTERS_AND_DIGITS : ∃ u, mg "LETTERS_AND_DIGITS" = some u ∧ RelV (.str "abcdefghijklmnopqrstuvwxyz0123456789") u
  g_LONGEST_NAME : ∃ u, mg "LONGEST_NAME" = some u ∧ RelV (.int 8) u
  g_MOST_MINDS : ∃ u, mg "MOST_MINDS" = some u ∧ RelV (.int 6) u
  g_MOST_WAYS : ∃ u, mg "MOST_WAYS" = some u ∧ RelV (.int 6) u
  g_MOST_WEIGHT : ∃ u, mg "MOST_WEIGHT" = some u ∧ RelV (.int 1000000000) u
abbrev sInt : Stmt := top 5
abbrev nInt : List Str := ["value"]
abbrev pInt : List Str := ["value"]
theorem scInt : FnScope nInt pInt (defScope sInt) := ⟨rfl, rfl, rfl, by decide +kernel, rfl, by decide +kernel, by decide +kernel⟩
abbrev sName : Stmt := top 6
abbrev nName : List Str := ["value", "sign"]
abbrev pName : List Str := ["value"]
theorem scName : FnScope nName pName (defScope sName) := ⟨rfl, rfl, rfl, by decide +kernel, rfl, by decide +kernel, by decide +kernel⟩
abbrev sWgt : Stmt := top 18
abbrev nWgt : List Str := ["value"]
abbrev pWgt : List Str := ["value"]
theorem scWgt : FnScope nWgt pWgt (defScope sWgt) := ⟨rfl, rfl, rfl, by decide +kernel, rfl, by decide +kernel, by decide +kernel⟩
abbrev sRoww : Stmt := top 19
abbrev nRoww : List Str := ["value", "many", "weight"]
abbrev pRoww : List Str := ["value", "many"]
theorem scRoww : FnScope nRoww pRoww (defScope sRoww) := ⟨rfl, rfl, rfl, by decide +kernel, rfl, by decide +kernel, by decide +kernel⟩
abbrev sWay : Stmt := top 20
abbrev nWay : List Str := ["value", "many", "row"]
abbrev pWay : List Str := ["value", "many"]
theorem scWay : FnScope nWay pWay (defScope sWay) := ⟨rfl, rfl, rfl, by decide +kernel, rfl, by decide +kernel, by decide +kernel⟩
abbrev sCMi : Stmt := top 21
abbrev nCMi : List Str := ["minds", "at", "mind"]
abbrev pCMi : List Str := ["minds"]
theorem scCMi : FnScope nCMi pCMi (defScope sCMi) := ⟨rfl, rfl, rfl, by decide +kernel, rfl, by decide +kernel, by decide +kernel⟩
abbrev sCWa : Stmt := top 22
abbrev nCWa : List Str := ["ways", "many", "at", "way"]
abbrev pCWa : List Str := ["ways", "many"]
theorem scCWa : FnScope nCWa pCWa (defScope sCWa) := ⟨rfl, rfl, rfl, by decide +kernel, rfl, by decide +kernel, by decide +kernel⟩
def spInt (K : PySem.W.Frag) : Sp := fun vs H Q _ => ∃ (x : V) (t : Value) (b1 b2 : Bool), vs = [x] ∧ TyX K H x t ∧ PySem.W.kitOne K t (.type "int") = some b1 ∧ PySem.W.kitOne K t (.type "bool") = some b2 ∧ Q (.bl (b1 && !b2)) H
def spWgt : Sp := fun vs H Q _ => ∃ (i : Int), vs = [.int i] ∧ Q (.bl (decide (0 ≤ i) && decide (i ≤ 1000000000))) H
/-- a row of ints, some number of them asked -/
def spRoww : Sp := fun vs H Q _ => ∃ (a : Addr) (r : List Int) (n : Int), vs = [.ref a, .int n] ∧ H a = some (.tup (r.map V.int)) ∧ r.length ≤ 1000 ∧
  ∀ H', Same H H' → Q (.bl (decide ((r.length : Int) = n) && ((r.all fun i => decide (0 ≤ i) && decide (i ≤ 1000000000)) && decide (0 < r.sum)))) H'
def nameB (x : Str) : Bool := decide (1 ≤ x.length) && decide (x.length ≤ 8) && (match x.cps.toList with | [] => false | c :: _ => decide (c ∈ ("abcdefghijklmnopqrstuvwxyz" : Str).cps.toList)) && x.cps.toList.all fun c => decide (c ∈ ("abcdefghijklmnopqrstuvwxyz0123456789" : Str).cps.toList)
def spName : Sp := fun vs H Q _ => ∃ (x : Str), vs = [.str x] ∧ x.length ≤ 1000 ∧ ∀ H', Same H H' → Q (.bl (nameB x)) H'
def rowB (n : Int) (r : List Int) : Bool := decide ((r.length : Int) = n) && ((r.all fun i => decide (0 ≤ i) && decide (i ≤ 1000000000)) && decide (0 < r.sum))
def spWay : Sp := fun vs H Q _ => ∃ (v : V) (ws : List (List Int)) (n : Int), vs = [v, .int n] ∧ Im H v (dWay ws) ∧ ws.length ≤ 1000 ∧ (∀ r ∈ ws, r.length ≤ 1000) ∧
  ∀ H', Same H H' → Q (.bl (decide ((ws.length : Int) = n) && ws.all (rowB n))) H'
/-- minds as a council has them -/
structure MindsOk (ms : List Str) : Prop where
  m1 : 1 ≤ ms.length
  m6 : ms.length ≤ 6
  nd : ms.Nodup
  nm : ∀ x ∈ ms, nameB x = true ∧ x.length ≤ 8
def spCMi : Sp := fun vs H Q _ => ∃ (v : V) (ms : List Str), vs = [v] ∧ Im H v (dMinds ms) ∧ MindsOk ms ∧ ∀ H', Same H H' → Q .non H'
theorem cutN {xs : List V} {i : Nat} (h : i ≤ xs.length) : cutV xs none (some (i : Int)) = xs.take i := by
  have e : HT.sIx xs.length xs.length (some (i : Int)) = i := by rw [HT.sIx_nat]; omega
  unfold cutV
  rw [e]
  show List.take (i - 0) (List.drop 0 xs) = _
  rw [Nat.sub_zero, List.drop_zero]
/-- ways as a council with so many minds has them -/
structure WaysOk (n : Nat) (ws : List (List (List Int))) : Prop where
  w1 : 1 ≤ ws.length
  w6 : ws.length ≤ 6
  n6 : n ≤ 6
  way : ∀ w ∈ ws, WayOk n w
theorem rowB_ok {n : Nat} {r : List Int} (h : RowOk n r) : rowB (n : Int) r = true := by
  obtain ⟨h1, h2, h3⟩ := h
  unfold rowB
  rw [decide_eq_true (by omega), decide_eq_true h3, Bool.true_and, Bool.and_true]
  refine List.all_eq_true.mpr fun x hx => ?_
  have := h2 x hx
  rw [decide_eq_true this.1, decide_eq_true this.2]; rfl
theorem wayB_ok {n : Nat} {w : List (List Int)} (h : WayOk n w) : (decide ((w.length : Int) = n) && w.all (rowB n)) = true := by
  obtain ⟨h1, h2⟩ := h
  rw [decide_eq_true (by omega), Bool.true_and]
  exact List.all_eq_true.mpr fun r hr => rowB_ok (h2 r hr)
def spCWa : Sp := fun vs H Q _ => ∃ (v : V) (n : Nat) (ws : List (List (List Int))), vs = [v, .int n] ∧ Im H v (dWays ws) ∧ WaysOk n ws ∧ ∀ H', Same H H' → Q .non H'
theorem nodup_take : ∀ {l : List Str} {i : Nat} (nd : l.Nodup) (hi : i < l.length), l[i] ∈ l.take i → False
  | [], _, _, h, _ => absurd h (Nat.not_lt_zero _)
  | x :: l, 0, _, _, hm => by simp at hm
  | x :: l, i + 1, nd, h, hm => by
    have hn := List.nodup_cons.mp nd
    have h' : i < l.length := Nat.lt_of_succ_lt_succ h
    have e : (x :: l)[i + 1] = l[i] := rfl
    rw [e, List.take_succ_cons] at hm
    rcases List.mem_cons.mp hm with q | q
    · exact hn.1 (q ▸ List.getElem_mem h')
    · exact nodup_take hn.2 h' q
theorem inV_strs {x : Str} {l : List Str} (h : x ∉ l) : inV (.str x) (l.map V.str) = false := by
  unfold inV
  rw [List.any_map]
  refine List.any_eq_false.mpr fun y hy => ?_
  intro z
  have e : y = x := by
    have z' : (y == x) = true := z
    exact eq_of_beq z'
  exact h (e ▸ hy)
section
variable {P : Program} {w : World} {K : PySem.W.Frag} {mg : Str → Option Value} {base : Heap}
theorem ok_int {f : Addr} {fd : FuncData} (F : Fun K "is_integer" "is_integer" sInt f fd) (T : Bt mg) : FnOk P w K mg base CX0 1 f fd pInt (spInt K) := by
  refine F.ok scInt (fun vs H Q E h => ?_) (fun cdv A outer s H vs Q E hr h => ?_)
  · obtain ⟨x, t, b1, b2, rfl, _⟩ := h
    rfl
  · obtain ⟨x, t, b1, b2, rfl, ty, k1, k2, k⟩ := h
    refine ⟨_, (pss_one (ps_ret (pe_and (pe_callB (isiQ K) (by rfl) T.isinstance (by decide +kernel) (pa_cons (pv 0) (pa_cons (pe_bltn (v := .ty "int") (u := .type "int") (by rfl) T.int (by decide +kernel) rfl) pa_nil))) (pe_one (pe_not (pe_callB (isiQ K) (by rfl) T.isinstance (by decide +kernel) (pa_cons (pv 0) (pa_cons (pe_bltn (v := .ty "bool") (u := .type "bool") (by rfl) T.bool (by decide +kernel) rfl) pa_nil)))))))), ?_⟩
    refine ⟨_, rfl, _, _, _, _, _, rfl, .ty _, ty, k1, _, rfl, ?_⟩
    cases b1 with
    | false => exact iteF k
    | true => exact iteT ⟨_, rfl, _, _, _, _, _, rfl, .ty _, ty, k2, _, rfl, k⟩
abbrev DInt (P : Program) (w : World) (K : PySem.W.Frag) (mg : Str → Option Value) (base : Heap) : Prop := DefX P w K mg base 1 "is_integer" pInt (spInt K)
theorem ok_wgt {f : Addr} {fd : FuncData} (F : Fun K "is_weight" "is_weight" sWgt f fd) (T : Bt mg) (DI : DInt P w K mg base) : FnOk P w K mg base CX0 3 f fd pWgt spWgt := by
  refine F.ok scWgt (fun vs H Q E h => ?_) (fun cdv A outer s H vs Q E hr h => ?_)
  · obtain ⟨i, rfl, _⟩ := h
    rfl
  · obtain ⟨i, rfl, k⟩ := h
    refine ⟨_, (pss_one (ps_ret (pe_and (pe_fn DI hr (by decide) (pa_cons (pv 0) pa_nil)) (pe_one (pe_chain op_le op_le pe_int (pv 0) (pe_globE T.g_MOST_WEIGHT)))))), ?_⟩
    refine ⟨_, rfl, _, _, true, false, rfl, .base (.int i), kit_ty (by decide +kernel), kit_ty (by decide +kernel), _, rfl, iteT ⟨_, rfl, _, _, rfl, rfl, _, rfl, ite2 (fun h => ⟨_, _, rfl, rfl, ?_⟩) (fun h => ?_)⟩⟩
    · rw [h, Bool.true_and] at k; exact k
    · rw [Bool.eq_false_iff.mpr h, Bool.false_and] at k; exact k
theorem ok_roww {f : Addr} {fd : FuncData} (F : Fun K "is_row" "is_row" sRoww f fd) (T : Bt mg) (DW : DefX P w K mg base 3 "is_weight" pWgt spWgt) : FnOk P w K mg base CX0 5 f fd pRoww spRoww := by
  refine F.ok scRoww (fun vs H Q E h => ?_) (fun cdv A outer s H vs Q E hr h => ?_)
  · obtain ⟨a, r, n, rfl, _⟩ := h
    rfl
  · obtain ⟨a, r, n, rfl, ha, hl, k⟩ := h
    refine ⟨_, (pss_cons (ps_if (PW.pt (pw_or (pt_not (pt_val (pe_callB (isiQ K) (by rfl) T.isinstance (by decide +kernel) (pa_cons (pv 0) (pa_cons (pe_bltn (v := .ty "tuple") (u := .type "tuple") (by rfl) T.tuple (by decide +kernel) rfl) pa_nil))))) (pw_or1 (pt_cmpR op_ne (pe_callB (lenQ K) (by rfl) T.len (by decide +kernel) (pa_cons (pv 0) pa_nil)) (pv 1) (nomark _)))))
        (pss_one (ps_ret pe_bl)) pss_nil)
      (pss_one (ps_ret (pe_and (pe_callB (allL K) (by rfl) T.all (by decide +kernel) (pa_cons (pe_lc (own := [("weight", 2)]) (g := gName 2) (tt := tYes) rfl scRoww.nd (piT K (pv 0)) (blkOk_by (own := [("weight", 2)]) (N := nRoww) (sc := defScope sRoww) (by decide +kernel)) (fun _ _ _ _ _ => (pg_name (i := 2) scRoww.nd rfl (Or.inl rfl))) (fun _ _ _ _ _ => pts_nil)
          (fun _ _ _ _ _ => (pe_fn DW hr (by decide) (pa_cons (pv 2) pa_nil)))) pa_nil)) (pe_one (pe_cmpR op_gt (pe_callB (sumT K) (by rfl) T.sum (by decide +kernel) (pa_cons (pv 0) pa_nil)) pe_int (nomark _))))))), ?_⟩
    refine ⟨_, rfl, _, _, _, _, true, rfl, .ty _, .base (.tup ha), kit_ty (by decide +kernel), _, rfl, iteF ?_⟩
    refine ⟨_, rfl, a, _, rfl, .inr (SqT.of ha), _, rfl, rfl, _, rfl, ?_⟩
    rw [List.length_map]
    by_cases hn : (r.length : Int) = n
    · rw [decide_eq_true hn, Bool.true_and] at k
      refine ite2 (fun z => ?_) (fun _ => ?_)
      · exfalso
        rw [hn] at z
        simp at z
      refine ⟨_, rfl, a, rfl, ⟨_, SqT.of ha⟩, fun D hD => ?_⟩
      refine lc_it (walk_tup (K := K) (a := a) (xs := r.map V.int)) (PvS H D ((r.map fun i => decide (0 ≤ i) && decide (i ≤ 1000000000)).map V.bl)) (pvs0 hD) (fun i H1 _ h => SqT.of (h.1 _ _ ha)) ?_ (fun H1 h => ?_)
      · rintro i x H1 _ hi h ⟨rfl, hx⟩
        rw [List.getElem?_map] at hx
        cases hz : r[i]? with
        | none => rw [hz] at hx; cases hx
        | some z =>
          rw [hz] at hx
          cases hx
          refine ⟨rfl, turnY ?_⟩
          exact ⟨_, rfl, z, rfl, pvs1 hD h (Same.refl _) (by rw [List.length_map, List.length_map]; exact hl) (by rw [List.getElem?_map, List.getElem?_map, hz]; rfl)⟩
      obtain ⟨s1, hl1⟩ := pvsE h (by rw [List.length_map, List.length_map, List.length_map])
      refine ⟨D, _, rfl, SqL.of hl1, _, rfl, ?_⟩
      have ea : (r.map fun i => decide (0 ≤ i) && decide (i ≤ 1000000000)).all id = r.all fun i => decide (0 ≤ i) && decide (i ≤ 1000000000) := by
        rw [List.all_map]; rfl
      rw [ea]
      have k' := k H1 s1
      generalize (r.all fun i => decide (0 ≤ i) && decide (i ≤ 1000000000)) = bb at k' ⊢
      cases bb with
      | false => exact iteF k'
      | true => exact iteT ⟨_, rfl, a, r, rfl, SqT.of (s1 _ _ ha), _, _, rfl, rfl, k'⟩
    · rw [decide_eq_false hn, Bool.false_and] at k
      refine ite2 (fun _ => k H (Same.refl H)) (fun z => ?_)
      exfalso
      refine z ?_
      have e : ¬ (V.int (r.length : Int) = V.int n) := fun q => hn (by injection q)
      rw [decide_eq_false e]; rfl
theorem ok_way {f : Addr} {fd : FuncData} (F : Fun K "is_way" "is_way" sWay f fd) (T : Bt mg) (DR : DefX P w K mg base 5 "is_row" pRoww spRoww) : FnOk P w K mg base CX0 7 f fd pWay spWay := by
  refine F.ok scWay (fun vs H Q E h => ?_) (fun cdv A outer s H vs Q E hr h => ?_)
  · obtain ⟨v, ws, n, rfl, _⟩ := h
    rfl
  · obtain ⟨v, ws, n, rfl, im, hl, hr1, k⟩ := h
    obtain ⟨a, xs, rfl, ha, hall⟩ := im.tuple
    refine ⟨_, (pss_cons (ps_if (PW.pt (pw_or (pt_not (pt_val (pe_callB (isiQ K) (by rfl) T.isinstance (by decide +kernel) (pa_cons (pv 0) (pa_cons (pe_bltn (v := .ty "tuple") (u := .type "tuple") (by rfl) T.tuple (by decide +kernel) rfl) pa_nil))))) (pw_or1 (pt_cmpR op_ne (pe_callB (lenQ K) (by rfl) T.len (by decide +kernel) (pa_cons (pv 0) pa_nil)) (pv 1) (nomark _)))))
        (pss_one (ps_ret pe_bl)) pss_nil)
      (pss_one (ps_ret (pe_callB (allL K) (by rfl) T.all (by decide +kernel) (pa_cons (pe_lc (own := [("row", 2)]) (g := gName 2) (tt := tYes) rfl scWay.nd (piT K (pv 0)) (blkOk_by (own := [("row", 2)]) (N := nWay) (sc := defScope sWay) (by decide +kernel)) (fun _ _ _ _ _ => (pg_name (i := 2) scWay.nd rfl (Or.inl rfl))) (fun _ _ _ _ _ => pts_nil)
          (fun _ _ _ _ _ => (pe_fn DR hr (by decide) (pa_cons (pv 2) (pa_cons (pv 1) pa_nil))))) pa_nil))))), ?_⟩
    refine ⟨_, rfl, _, _, _, _, true, rfl, .ty _, .base (.tup ha), kit_ty (by decide +kernel), _, rfl, iteF ?_⟩
    refine ⟨_, rfl, a, _, rfl, .inr (SqT.of ha), _, rfl, rfl, _, rfl, ?_⟩
    have hxl : xs.length = ws.length := by rw [hall.length, List.length_map]
    rw [hxl]
    by_cases hn : (ws.length : Int) = n
    · rw [decide_eq_true hn, Bool.true_and] at k
      refine ite2 (fun z => ?_) (fun _ => ?_)
      · exfalso
        rw [hn] at z
        simp at z
      refine ⟨_, rfl, a, rfl, ⟨_, SqT.of ha⟩, fun D hD => ?_⟩
      refine lc_it (walk_tup (K := K) (a := a) (xs := xs)) (PvS H D ((ws.map (rowB n)).map V.bl)) (pvs0 hD) (fun i H1 _ h => SqT.of (h.1 _ _ ha)) ?_ (fun H1 h => ?_)
      · rintro i x H1 _ hi h ⟨rfl, hx⟩
        obtain ⟨d, hd, imx⟩ := hall.get hx
        rw [List.getElem?_map] at hd
        cases hz : ws[i]? with
        | none => rw [hz] at hd; cases hd
        | some r =>
          rw [hz] at hd
          cases hd
          obtain ⟨a2, ys, rfl, ha2, hall2⟩ := imx.tuple
          have hys := hall2.ints
          subst hys
          refine ⟨rfl, turnY ?_⟩
          refine ⟨_, rfl, _, rfl, a2, r, n, rfl, h.1 _ _ ha2, hr1 r (List.mem_of_getElem? hz), fun H2 s2 => ?_⟩
          exact pvs1 hD h s2 (by rw [List.length_map, List.length_map]; exact hl) (by rw [List.getElem?_map, List.getElem?_map, hz]; rfl)
      obtain ⟨s1, hl1⟩ := pvsE h (by rw [List.length_map, List.length_map, hxl])
      refine ⟨D, _, rfl, SqL.of hl1, ?_⟩
      have ea : (ws.map (rowB n)).all id = ws.all (rowB n) := by
        rw [List.all_map]; rfl
      rw [ea]
      exact k H1 s1
    · rw [decide_eq_false hn, Bool.false_and] at k
      refine ite2 (fun _ => k H (Same.refl H)) (fun z => ?_)
      exfalso
      refine z ?_
      have e : ¬ (V.int (ws.length : Int) = V.int n) := fun q => hn (by injection q)
      rw [decide_eq_false e]; rfl
theorem ok_name {f : Addr} {fd : FuncData} (F : Fun K "is_name" "is_name" sName f fd) (T : Bt mg) : FnOk P w K mg base CX0 1 f fd pName spName := by
  refine F.ok scName (fun vs H Q E h => ?_) (fun cdv A outer s H vs Q E hr h => ?_)
  · obtain ⟨x, rfl, _⟩ := h
    rfl
  · obtain ⟨x, rfl, hl, k⟩ := h
    refine ⟨_, (pss_cons (ps_if (PW.pt (pw_or (pt_not (pt_val (pe_callB (isiQ K) (by rfl) T.isinstance (by decide +kernel) (pa_cons (pv 0) (pa_cons (pe_bltn (v := .ty "str") (u := .type "str") (by rfl) T.str (by decide +kernel) rfl) pa_nil))))) (pw_or1 (pt_not (pt_chain op_le op_le pe_int (pe_callB call_len_str (by rfl) T.len (by decide +kernel) (pa_cons (pv 0) pa_nil)) (pe_globE T.g_LONGEST_NAME))))))
        (pss_one (ps_ret pe_bl)) pss_nil)
      (pss_one (ps_ret (pe_and (pe_cmpR op_in_sign (pe_ix ix_str (pv 0) pe_int (fun _ _ => rfl)) (pe_globE T.g_LETTERS) (by rfl)) (pe_one (pe_callB (allL K) (by rfl) T.all (by decide +kernel) (pa_cons (pe_lc (own := [("sign", 1)]) (g := gName 1) (tt := tYes) rfl scName.nd (pi_str (pv 0)) (blkOk_by (own := [("sign", 1)]) (N := nName) (sc := defScope sName) (by decide +kernel)) (fun _ _ _ _ _ => (pg_name (i := 1) scName.nd rfl (Or.inl rfl))) (fun _ _ _ _ _ => pts_nil)
          (fun _ _ _ _ _ => (pe_cmpR op_in_sign (pv 1) (pe_globE T.g_LETTERS_AND_DIGITS) (by rfl)))) pa_nil))))))), ?_⟩
    refine ⟨_, rfl, _, _, _, _, true, rfl, .ty _, .base (.str x), kit_ty (by decide +kernel), _, rfl, iteF ?_⟩
    have lz : x.length ≤ sizeLine := Nat.le_trans hl (by decide)
    have k0 := k H (Same.refl H)
    refine ⟨_, rfl, x, rfl, lz, _, _, rfl, rfl, _, rfl, ite2 (fun h1 => ⟨_, _, rfl, rfl, _, rfl, ite2 (fun h2 => ?_) (fun h2 => ?_)⟩) (fun h1 => ⟨_, rfl, iteT ?_⟩)⟩
    · have h2' : ¬ x.length ≤ 8 := fun z => by
        have z' : ((x.length : Nat) : Int) ≤ 8 := by omega
        rw [decide_eq_true z'] at h2
        exact absurd h2 (by decide)
      unfold nameB at k0
      rw [decide_eq_false h2', Bool.and_false, Bool.false_and, Bool.false_and] at k0
      exact k0
    · have h1' : 1 ≤ x.length := by have := of_decide_eq_true h1; omega
      have h2' : x.length ≤ 8 := by
        apply Classical.byContradiction
        intro z
        have z' : ¬ ((x.length : Nat) : Int) ≤ 8 := by omega
        rw [decide_eq_false z'] at h2
        exact h2 rfl
      have hne : 0 < x.cps.toList.length := by
        have : x.length = x.cps.toList.length := by show x.cps.size = _; rw [Array.length_toList]
        omega
      obtain ⟨c, r, hc⟩ : ∃ c r, x.cps.toList = c :: r := by
        cases e : x.cps.toList with
        | nil => rw [e] at hne; exact absurd hne (by decide)
        | cons c r => exact ⟨c, r, rfl⟩
      have nb : nameB x = (decide (c ∈ ("abcdefghijklmnopqrstuvwxyz" : Str).cps.toList) && x.cps.toList.all fun c => decide (c ∈ ("abcdefghijklmnopqrstuvwxyz0123456789" : Str).cps.toList)) := by
        unfold nameB
        rw [decide_eq_true h1', decide_eq_true h2', hc]
        rfl
      rw [nb] at k
      refine ⟨_, rfl, x, 0, c, rfl, rfl, lz, by rw [hc]; exact atI_nat (j := 0) rfl, c, _, rfl, rfl, _, rfl, ite2 (fun hf => ?_) (fun hf => ?_)⟩
      · rw [hf, Bool.true_and] at k
        refine ⟨_, rfl, x, rfl, fun D hD => ?_⟩
        refine lc_it (walk_str (z := x)) (PvS H D ((x.cps.toList.map fun c => decide (c ∈ ("abcdefghijklmnopqrstuvwxyz0123456789" : Str).cps.toList)).map V.bl)) (pvs0 hD) (fun i H1 _ h => trivial) ?_ (fun H1 h => ?_)
        · rintro i y H1 _ hi h ⟨rfl, q, hq, rfl⟩
          refine ⟨rfl, turnY ?_⟩
          exact ⟨_, rfl, q, _, rfl, rfl, pvs1 hD h (Same.refl _) (by rw [List.length_map, List.length_map, Array.length_toList]; exact hl) (by rw [List.getElem?_map, List.getElem?_map, Array.getElem?_toList, hq]; rfl)⟩
        obtain ⟨s1, hl1⟩ := pvsE h (by rw [List.length_map, List.length_map, Array.length_toList])
        refine ⟨D, _, rfl, SqL.of hl1, ?_⟩
        rw [List.all_map]
        exact k H1 s1
      · rw [Bool.eq_false_iff.mpr hf, Bool.false_and] at k
        exact k H (Same.refl H)
    · have h1' : ¬ 1 ≤ x.length := fun z => h1 (decide_eq_true (by omega))
      unfold nameB at k0
      rw [decide_eq_false h1', Bool.false_and, Bool.false_and, Bool.false_and] at k0
      exact k0
theorem ok_cmi {f : Addr} {fd : FuncData} (F : Fun K "check_minds" "check_minds" sCMi f fd) (T : Bt mg) (DN : DefX P w K mg base 1 "is_name" pName spName) : FnOk P w K mg base CX0 3 f fd pCMi spCMi := by
  refine F.ok scCMi (fun vs H Q E h => ?_) (fun cdv A outer s H vs Q E hr h => ?_)
  · obtain ⟨v, ms, rfl, _⟩ := h
    rfl
  · obtain ⟨v, ms, rfl, im, ok, k⟩ := h
    obtain ⟨a, xs, rfl, ha, hall⟩ := im.tuple
    have hys := hall.strs
    subst hys
    refine ⟨_, (pss_cons (ps_if (PW.pt (pw_or (pt_not (pt_val (pe_callB (isiQ K) (by rfl) T.isinstance (by decide +kernel) (pa_cons (pv 0) (pa_cons (pe_bltn (v := .ty "tuple") (u := .type "tuple") (by rfl) T.tuple (by decide +kernel) rfl) pa_nil))))) (pw_or1 (pt_cmpR op_eq (pe_callB (lenQ K) (by rfl) T.len (by decide +kernel) (pa_cons (pv 0) pa_nil)) pe_int (nomark _)))))
        (pss_one ps_never) pss_nil)
      (pss_one (ps_for PassesOwn.never rfl (pi_enumT K (by rfl) T.enumerate (pa_cons (pv 0) pa_nil)) (pg_tup (by rfl) (pgs_cons (pg_name (i := 1) scCMi.nd rfl (Or.inl rfl)) (pgs_cons (pg_name (i := 2) scCMi.nd rfl (Or.inl rfl)) pgs_nil)))
        (pss_one (ps_if (PW.pt (pw_or (pt_not (pt_val (pe_fn DN hr (by decide) (pa_cons (pv 2) pa_nil)))) (pw_or (pt_cmpR (inQ K) (pv 2) (pe_slice (slA K) (pv 0) po_none (po_some (pv 1))) (by rfl)) (pw_or1 (pt_cmpR op_eq (pv 1) (pe_globE T.g_MOST_MINDS) (nomark _))))))
        (pss_one ps_never) pss_nil))))), ?_⟩
    refine ⟨_, rfl, _, _, _, _, true, rfl, .ty _, .base (.tup ha), kit_ty (by decide +kernel), _, rfl, iteF ?_⟩
    refine ⟨_, rfl, a, _, rfl, .inr (SqT.of ha), rfl, _, rfl, ite2 (fun z => ?_) (fun _ => ?_)⟩
    · exfalso
      have z' := of_decide_eq_true z
      rw [List.length_map] at z'
      have := ok.m1
      injection z' with z'
      omega
    refine ⟨_, rfl, a, _, rfl, SqT.of ha, ?_⟩
    refine for_it (walk_enumT (K := K) (a := a) (xs := ms.map V.str)) (fun i σ H1 => ∃ p q : Option V, σ = [some (.ref a), p, q] ∧ Same H H1) ⟨none, none, rfl, Same.refl H⟩ (fun i σ H1 _ ⟨_, _, _, s1⟩ => SqT.of (s1 _ _ ha)) ?_ ?_
    · rintro i v σ H1 _ hi ⟨p, q, rfl, s1⟩ ⟨T', x, rfl, hT, rfl, hx⟩
      rw [List.length_map] at hi
      rw [List.getElem?_map, List.getElem?_eq_getElem hi] at hx
      cases hx
      refine ⟨T', _, rfl, SqT.of upd_same, rfl, _, _, rfl, _, _, rfl, rfl, ?_⟩
      have hm := ok.nm _ (List.getElem_mem hi)
      have s2 := s1.trans (same_upd (o := HO.tup [V.int (i : Nat), V.str ms[i]]) hT)
      refine ⟨_, rfl, _, rfl, Nat.le_trans hm.2 (by decide), fun H2 s3 => ⟨_, rfl, ?_⟩⟩
      rw [hm.1]
      refine iteF ?_
      have s4 := s2.trans s3
      refine ⟨_, rfl, _, rfl, _, rfl, _, rfl, a, _, rfl, SqT.of (s4 _ _ ha), fun hw => ?_, fun hw p np => ?_⟩
      · exfalso
        have q := hw.2
        rw [HT.sIx_nat, List.length_map] at q
        omega
      rw [cutN (by rw [List.length_map]; omega), ← List.map_take]
      refine ⟨p, _, rfl, .inr (SqT.of upd_same), rfl, by rw [List.all_map]; exact List.all_eq_true.mpr fun _ _ => rfl, _, rfl, ?_⟩
      rw [inV_strs (fun z => ?_)]
      · refine iteF ⟨_, rfl, rfl, _, rfl, ite2 (fun z => ?_) (fun _ => ?_)⟩
        · exfalso
          have z' := of_decide_eq_true z
          have := ok.m6
          injection z' with z'
          omega
        · exact ⟨_, _, rfl, s4.trans (same_upd np)⟩
      · exact nodup_take ok.nd hi z
    · rintro σ H1 ⟨p, q, rfl, s1⟩
      exact k H1 s1
theorem ok_cwa {f : Addr} {fd : FuncData} (F : Fun K "check_ways" "check_ways" sCWa f fd) (T : Bt mg) (DY : DefX P w K mg base 7 "is_way" pWay spWay) : FnOk P w K mg base CX0 9 f fd pCWa spCWa := by
  refine F.ok scCWa (fun vs H Q E h => ?_) (fun cdv A outer s H vs Q E hr h => ?_)
  · obtain ⟨v, n, ws, rfl, _⟩ := h
    rfl
  · obtain ⟨v, n, ws, rfl, im, ok, k⟩ := h
    obtain ⟨a, xs, rfl, ha, hall⟩ := im.tuple
    have hxl : xs.length = ws.length := by rw [hall.length, List.length_map]
    refine ⟨_, (pss_cons (ps_if (PW.pt (pw_or (pt_not (pt_val (pe_callB (isiQ K) (by rfl) T.isinstance (by decide +kernel) (pa_cons (pv 0) (pa_cons (pe_bltn (v := .ty "tuple") (u := .type "tuple") (by rfl) T.tuple (by decide +kernel) rfl) pa_nil))))) (pw_or1 (pt_cmpR op_eq (pe_callB (lenQ K) (by rfl) T.len (by decide +kernel) (pa_cons (pv 0) pa_nil)) pe_int (nomark _)))))
        (pss_one ps_never) pss_nil)
      (pss_one (ps_for PassesOwn.never rfl (pi_enumT K (by rfl) T.enumerate (pa_cons (pv 0) pa_nil)) (pg_tup (by rfl) (pgs_cons (pg_name (i := 2) scCWa.nd rfl (Or.inl rfl)) (pgs_cons (pg_name (i := 3) scCWa.nd rfl (Or.inl rfl)) pgs_nil)))
        (pss_one (ps_if (PW.pt (pw_or (pt_not (pt_val (pe_fn DY hr (by decide) (pa_cons (pv 3) (pa_cons (pv 1) pa_nil))))) (pw_or1 (pt_cmpR op_eq (pv 2) (pe_globE T.g_MOST_WAYS) (nomark _)))))
        (pss_one ps_never) pss_nil))))), ?_⟩
    refine ⟨_, rfl, _, _, _, _, true, rfl, .ty _, .base (.tup ha), kit_ty (by decide +kernel), _, rfl, iteF ?_⟩
    refine ⟨_, rfl, a, _, rfl, .inr (SqT.of ha), rfl, _, rfl, ite2 (fun z => ?_) (fun _ => ?_)⟩
    · exfalso
      have z' := of_decide_eq_true z
      rw [hxl] at z'
      have := ok.w1
      injection z' with z'
      omega
    refine ⟨_, rfl, a, _, rfl, SqT.of ha, ?_⟩
    refine for_it (walk_enumT (K := K) (a := a) (xs := xs)) (fun i σ H1 => ∃ p q : Option V, σ = [some (.ref a), some (.int n), p, q] ∧ Same H H1) ⟨none, none, rfl, Same.refl H⟩ (fun i σ H1 _ ⟨_, _, _, s1⟩ => SqT.of (s1 _ _ ha)) ?_ ?_
    · rintro i v σ H1 _ hi ⟨p, q, rfl, s1⟩ ⟨T', x, rfl, hT, rfl, hx⟩
      obtain ⟨d, hd, imx⟩ := hall.get hx
      rw [hxl] at hi
      rw [List.getElem?_map, List.getElem?_eq_getElem hi] at hd
      cases hd
      have hw := ok.way _ (List.getElem_mem hi)
      have n6 := ok.n6
      refine ⟨T', _, rfl, SqT.of upd_same, rfl, _, _, rfl, _, _, rfl, rfl, ?_⟩
      have s2 := s1.trans (same_upd (o := HO.tup [V.int (i : Nat), x]) hT)
      refine ⟨_, rfl, _, rfl, x, ws[i], n, rfl, Im.mono (Same.tups s2) _ _ imx, by rw [hw.1]; omega, fun r hr => by rw [(hw.2 r hr).1]; omega, fun H2 s3 => ⟨_, rfl, ?_⟩⟩
      rw [wayB_ok hw]
      refine iteF ⟨_, rfl, rfl, _, rfl, ite2 (fun z => ?_) (fun _ => ?_)⟩
      · exfalso
        have z' := of_decide_eq_true z
        have := ok.w6
        injection z' with z'
        omega
      · exact ⟨_, _, rfl, s2.trans s3⟩
    · rintro σ H1 ⟨p, q, rfl, s1⟩
      exact k H1 s1
end
end M

namespace M
open PySem L2 U
abbrev sJug : Stmt := top 28
abbrev sSip : Stmt := top 29
abbrev sRow : Stmt := top 30
abbrev sTalk : Stmt := top 31
abbrev sPair : Stmt := top 32

theorem cut6 (ns : List Int) : cutV (ns.map V.int) none (some 6) = (ns.take 6).map V.int := by
  have e : HT.sIx (ns.map V.int).length (ns.map V.int).length (some (6 : Int)) = min 6 ns.length := by
    rw [List.length_map]; exact HT.sIx_nat _ _ 6
  unfold cutV
  rw [e]
  show List.take (min 6 ns.length - 0) (List.drop 0 (ns.map V.int)) = _
  rw [Nat.sub_zero, List.drop_zero, ← List.map_take]
  congr 1
  rw [List.take_eq_take_iff]; omega
theorem cut6_le (fig : Int) (ns : List Int) : ([V.int fig] : List V).length + (cutV (ns.map V.int) none (some 6)).length ≤ sizeLine := by
  rw [cut6, List.length_map, List.length_take, sizeLine_eq]
  show 1 + min 6 ns.length ≤ 16777216
  omega
theorem cut6_int {fig : Int} {ns : List Int} {n : Nat} {x : V} (h : ([V.int fig] ++ cutV (ns.map V.int) none (some 6))[n]? = some x) : ∃ z, x = V.int z := by
  rw [cut6] at h
  have e : [V.int fig] ++ (ns.take 6).map V.int = (fig :: ns.take 6).map V.int := rfl
  rw [e, List.getElem?_map] at h
  cases q : (fig :: ns.take 6)[n]? with
  | none => rw [q] at h; cases h
  | some z => rw [q] at h; exact ⟨z, (Option.some.inj h).symm⟩
theorem sum_nonneg {r : List Int} (h : ∀ x ∈ r, 0 ≤ x) : 0 ≤ r.sum := by
  induction r with
  | nil => exact Int.le_refl 0
  | cons a r ih =>
    rw [List.sum_cons]
    have := h a List.mem_cons_self
    have := ih fun x hx => h x (List.mem_cons_of_mem _ hx)
    omega
theorem sum_pos {r : List Int} {x : Int} (h : ∀ x ∈ r, 0 ≤ x) (hm : x ∈ r) (hx : 0 < x) : 0 < r.sum := by
  induction r with
  | nil => cases hm
  | cons a r ih =>
    rw [List.sum_cons]
    have h0 := h a List.mem_cons_self
    have h1 : 0 ≤ r.sum := sum_nonneg fun x hx => h x (List.mem_cons_of_mem _ hx)
    rcases List.mem_cons.mp hm with q | q
    · omega
    · have := ih (fun x hx => h x (List.mem_cons_of_mem _ hx)) q
      omega
theorem ixN_nat {n k : Nat} (h : k < n) : ixN n (k : Int) = some k := by
  unfold ixN
  rw [if_pos (by omega), if_pos (by omega)]
  simp
theorem seq_nat {n k : Nat} (h : k < n) : seqIndex? (k : Int) n = some k := (ixN_seq (ixN_nat h)).1
theorem erase_perm : ∀ {L : List Str} {q : Nat} (h : q < L.length), (L[q] :: L.eraseIdx q).Perm L
  | [], _, h => absurd h (Nat.not_lt_zero _)
  | x :: L, 0, _ => List.Perm.refl _
  | x :: L, q + 1, h => by
    have h' : q < L.length := Nat.lt_of_succ_lt_succ h
    have e : (x :: L)[q + 1] = L[q] := rfl
    rw [e]
    show (L[q] :: x :: L.eraseIdx q).Perm (x :: L)
    exact (List.Perm.swap x L[q] _).trans ((erase_perm h').cons x)
theorem erase_map : ∀ (L : List Str) (q : Nat), (L.map V.str).eraseIdx q = (L.eraseIdx q).map V.str
  | [], _ => rfl
  | x :: L, 0 => rfl
  | x :: L, q + 1 => by
    show V.str x :: (L.map V.str).eraseIdx q = V.str x :: (L.eraseIdx q).map V.str
    rw [erase_map L q]
/-! ### the jug -/
def spJug (K : PySem.W.Frag) : Sp := fun vs H Q _ => ∃ (a : Addr) (ns : List Int) (i : Nat), vs = [.ref a, .int i] ∧ SqL K H a (ns.map V.int) ∧ ns.length ≤ 63 ∧
  ∀ (H' : Hp) (j : Addr), Same H H' → H j = none → JugAt H' j → Q (.ref j) H'
def spSip : Sp := fun vs H Q _ => ∃ (j : Addr) (m : Int), vs = [.ref j, .int m] ∧ 0 < m ∧ m < 1073741824 ∧ JugAt H j ∧
  ∀ (H' : Hp) (d : Int), But j H H' → JugAt H' j → 0 ≤ d → d < m → Q (.int d) H'

section
variable {P : Program} {w : World} {K : PySem.W.Frag} {mg : Str → Option Value} {base : Heap}
theorem scJug : FnScope ["_law_script", "_law_at", "_law_figure", "_law_seed", "_law_each"] ["_law_script", "_law_at"] (defScope sJug) := ⟨rfl, rfl, rfl, by decide +kernel, rfl, by decide +kernel, by decide +kernel⟩
theorem ok_jug {f : Addr} {fd : FuncData} (F : Fun K "_law_jug" "_law_jug" sJug f fd) (T : Bt mg) : FnOk P w K mg base CX0 1 f fd ["_law_script", "_law_at"] (spJug K) := by
  refine F.ok scJug (fun vs H Q E h => ?_) (fun cdv A outer s H vs Q E hr h => ?_)
  · obtain ⟨a, ns, i, rfl, _⟩ := h
    rfl
  · obtain ⟨a, ns, i, rfl, hS, hl, k⟩ := h
    refine ⟨_, pss_cons (ps_set (i := 2) scJug.nd rfl (Or.inl rfl) (pe_ifExp (pt_cmpR op_lt (pv 1) (pe_callB (lenQ K) (by rfl) T.len PySem.boot_len (pa_cons (pv 0) pa_nil)) (nomark _)) (pe_ix (ixL K) (pv 0) (pv 1) (fun _ _ => rfl)) (pe_op op_add (pe_op op_mul pe_int (pv 1)) pe_int)))
      (pss_cons (ps_set (i := 3) scJug.nd rfl (Or.inl rfl) (pe_op op_add pe_int (pe_op op_mul pe_int (pv 1))))
      (pss_cons (ps_for PassesOwn.never rfl (piL K (pe_op op_cat (pe_lst (pa_cons (pv 2) pa_nil)) (pe_slice (slL K) (pv 0) po_none (po_some pe_int)))) (pg_name (i := 4) scJug.nd rfl (Or.inl rfl))
        (pss_one (ps_set (i := 3) scJug.nd rfl (Or.inl rfl) (pe_op op_mod (pe_callTy call_int1 (by rfl) T.int (by decide +kernel) (pa_cons (pe_op op_add (pe_op op_mul (pv 3) pe_int) (pv 4)) pa_nil)) pe_int))))
      (pss_one (ps_ret (pe_lst (pa_cons (pe_ifExp (pt_cmpR op_ge (pe_callB call_abs (by rfl) T.abs (by decide +kernel) (pa_cons (pv 2) pa_nil)) (pe_op op_pow pe_int pe_int) (nomark _)) (pe_callB call_abs (by rfl) T.abs (by decide +kernel) (pa_cons (pv 2) pa_nil)) pe_int) (pa_cons (pv 3) (pa_cons pe_int pa_nil)))))))), ?_⟩
    have hcond : ∀ z : Int, ¬ (if z < 0 then -z else z) < 0 := fun z => by split <;> omega
    -- the figure
    refine ⟨_, rfl, _, rfl, a, _, rfl, .inl hS, _, _, rfl, rfl, _, rfl, tif_int (fun _ => True) (fun hc Q' hR => ?_) (fun hc Q' hR => ?_) (fun fig _ => ?_)⟩
    · have hc' : i < ns.length := by have := of_decide_eq_true hc; simp at this; omega
      exact ⟨_, rfl, _, rfl, a, _, _, _, rfl, rfl, hS, atI_nat (j := i) (v := V.int ns[i]) (by rw [List.getElem?_map, List.getElem?_eq_getElem hc']; rfl), hR _ trivial⟩
    · exact ⟨_, rfl, _, _, rfl, rfl, .inl (by decide), _, _, rfl, rfl, hR _ trivial⟩
    -- the seed; the list that is walked
    refine ⟨_, rfl, _, _, rfl, rfl, .inl (by decide), _, _, rfl, rfl, ?_⟩
    refine ⟨_, rfl, by show 1 ≤ sizeLine; decide, fun l1 n1 => ?_⟩
    have s1 : Same H (upd H l1 (.lst [.int fig])) := same_upd n1
    refine ⟨_, rfl, _, rfl, a, _, rfl, s1.seq hS, fun l2 n2 => ?_⟩
    have s2 := s1.trans (same_upd (o := HO.lst (cutV (ns.map V.int) none (some 6))) n2)
    refine ⟨l1, l2, _, _, rfl, rfl, (by rw [upd_ne (ne_of_none upd_same n2)]; exact upd_same), upd_same, cut6_le fig ns, fun l3 n3 => ?_⟩
    have s3 := s2.trans (same_upd (o := HO.lst ([V.int fig] ++ cutV (ns.map V.int) none (some 6))) n3)
    -- the seed through the list
    refine ⟨l3, rfl, ⟨_, SqL.of upd_same⟩, for_list (K := K) (a := l3) (xs := [V.int fig] ++ cutV (ns.map V.int) none (some 6)) (fun _ σ H' => ∃ (sd : Int) (e : Option V), σ = [some (.ref a), some (.int i), some (.int fig), some (.int sd), e] ∧ Same H H' ∧ H' l3 = some (.lst ([V.int fig] ++ cutV (ns.map V.int) none (some 6))))
      ⟨_, none, rfl, s3, upd_same⟩ (fun i σ H' _ ⟨_, _, _, _, h3⟩ => SqL.of h3) ?_ ?_⟩
    · rintro n x σ H' hx ⟨sd, e, rfl, s4, h3⟩
      obtain ⟨z, rfl⟩ := cut6_int hx
      exact ⟨_, rfl, _, _, rfl, rfl, .inr (by decide), _, rfl, _, _, rfl, rfl, .inl ⟨_, rfl, _, _, rfl, rfl, (by decide : (0 : Int) < 2147483269), _, _, rfl, s4, h3⟩⟩
    · rintro σ H' ⟨sd, e, rfl, s4, h3⟩
      refine ⟨_, rfl, _, rfl, _, _, rfl, rfl, ⟨by decide, by decide, by decide⟩, _, _, rfl, rfl, _, rfl, tif_int (fun z => 0 ≤ z) (fun hc Q' hR => ?_) (fun hc Q' hR => ?_) (fun z hz => ?_)⟩
      · exact ⟨_, rfl, _, rfl, hR _ (by split <;> omega)⟩
      · exact hR 0 (by decide)
      · exact ⟨_, rfl, by show 3 ≤ sizeLine; decide, fun p np => k _ p (s4.trans (same_upd np)) (s4.free np) ⟨z, sd, 0, upd_same, hz⟩⟩

theorem scSip : FnScope ["_law_jug_here", "_law_most", "_law_digit"] ["_law_jug_here", "_law_most"] (defScope sSip) := ⟨rfl, rfl, rfl, by decide +kernel, rfl, by decide +kernel, by decide +kernel⟩
theorem ok_sip {f : Addr} {fd : FuncData} (F : Fun K "_law_sip" "_law_sip" sSip f fd) (T : Bt mg) : FnOk P w K mg base CX0 1 f fd ["_law_jug_here", "_law_most"] spSip := by
  refine F.ok scSip (fun vs H Q E h => ?_) (fun cdv A outer s H vs Q E hr h => ?_)
  · obtain ⟨j, m, rfl, _⟩ := h
    rfl
  · obtain ⟨j, m, rfl, hm, hm2, ⟨x, b, c, hj, hx⟩, k⟩ := h
    refine ⟨_, pss_cons (ps_if (pt_cmpR op_gt (pe_ix (ixL K) (pv 0) pe_int (fun _ _ => rfl)) pe_int (nomark _))
        (pss_cons (ps_asg (pe_callB call_divmod (by rfl) T.divmod (by decide +kernel) (pa_cons (pe_ix (ixL K) (pv 0) pe_int (fun _ _ => rfl)) (pa_cons (pv 1) pa_nil))) (pg_tup (by rfl) (pgs_cons (pg_sub (pv 0) pe_int set_list) (pgs_cons (pg_name (i := 2) scSip.nd rfl (Or.inl rfl)) pgs_nil))))
        (pss_one (ps_ret (pv 2)))) pss_nil)
      (pss_cons (ps_asg (pe_op op_add (pe_ix (ixL K) (pv 0) pe_int (fun _ _ => rfl)) pe_int) (pg_sub (pv 0) pe_int set_list))
      (pss_cons (ps_asg (pe_op op_mod (pe_callTy call_int1 (by rfl) T.int (by decide +kernel) (pa_cons (pe_op op_add (pe_op op_mul (pe_ix (ixL K) (pv 0) pe_int (fun _ _ => rfl)) pe_int) (pe_op op_mul pe_int (pe_ix (ixL K) (pv 0) pe_int (fun _ _ => rfl)))) pa_nil)) pe_int) (pg_sub (pv 0) pe_int set_list))
      (pss_one (ps_ret (pe_op op_mod (pe_callTy call_int1 (by rfl) T.int (by decide +kernel) (pa_cons (pe_op op_fdiv (pe_ix (ixL K) (pv 0) pe_int (fun _ _ => rfl)) pe_int) pa_nil)) (pv 1)))))), ?_⟩
    refine ⟨_, rfl, j, _, _, _, rfl, rfl, SqL.of hj, rfl, _, _, rfl, rfl, _, rfl, ite2 (fun h0 => ?_) (fun h0 => ?_)⟩
    · refine ⟨_, rfl, j, _, _, _, rfl, rfl, SqL.of hj, rfl, _, rfl, _, _, rfl, ⟨hm, hm2⟩, fun p np => ?_⟩
      have hjp : j ≠ p := ne_of_none hj np
      have hj1 : (upd H p (HO.tup [.int (x / m), .int (x % m)])) j = some (.lst [.int x, .int b, .int c]) := by rw [upd_ne hjp]; exact hj
      refine ⟨p, _, rfl, SqT.of upd_same, rfl, _, _, rfl, _, rfl, j, _, _, _, rfl, rfl, hj1, rfl, _, _, rfl, rfl, _, rfl, ?_⟩
      refine k _ _ (fun o u hb e => ?_) ⟨x / m, b, c, upd_same, Int.ediv_nonneg hx (Int.le_of_lt hm)⟩ (Int.emod_nonneg _ (by omega)) (Int.emod_lt_of_pos _ hm)
      rw [upd_ne hb, upd_ne (ne_of_none e np)]; exact e
    · refine ⟨_, rfl, j, _, _, _, rfl, rfl, SqL.of hj, rfl, _, _, rfl, rfl, _, rfl, j, _, _, _, rfl, rfl, hj, rfl, ?_⟩
      refine ⟨_, rfl, j, _, _, _, rfl, rfl, SqL.of upd_same, rfl, _, _, rfl, rfl, .inr (by decide), _, rfl, j, _, _, _, rfl, rfl, SqL.of upd_same, rfl, _, _, rfl, rfl, .inl (by decide), _, _, rfl, rfl, .inl ⟨_, rfl, _, _, rfl, rfl, (by decide : (0 : Int) < 2147483269), _, rfl, j, _, _, _, rfl, rfl, upd_same, rfl, ?_⟩⟩
      refine ⟨_, rfl, j, _, _, _, rfl, rfl, SqL.of upd_same, rfl, _, _, rfl, rfl, ⟨by decide, by decide⟩, .inl ⟨_, rfl, _, rfl, _, _, rfl, rfl, hm, ?_⟩⟩
      refine k _ _ (fun o u hb e => ?_) ⟨x, _, _, upd_same, hx⟩ (Int.emod_nonneg _ (by omega)) (Int.emod_lt_of_pos _ hm)
      rw [upd_ne hb, upd_ne hb]; exact e

def RowDr (n : Nat) (r : List Int) : Prop := RowOk n r ∧ ∀ x ∈ r, x ≤ 7 ∨ x = 1000000000
def WayDr (n : Nat) (w : List (List Int)) : Prop := w.length = n ∧ ∀ r ∈ w, RowDr n r
theorem WayDr.ok {n : Nat} {w : List (List Int)} (h : WayDr n w) : WayOk n w := ⟨h.1, fun r hr => (h.2 r hr).1⟩
def spRow : Sp := fun vs H Q _ => ∃ (j : Addr) (n : Nat), vs = [.ref j, .int n] ∧ 1 ≤ n ∧ n ≤ 6 ∧ JugAt H j ∧
  ∀ (H' : Hp) (p : Addr) (r : List Int), But j H H' → JugAt H' j → H p = none → H' p = some (.tup (r.map V.int)) → RowDr n r → Q (.ref p) H'
theorem scRow : FnScope ["_law_jug_here", "_law_size", "_law_row_here", "_law_k"] ["_law_jug_here", "_law_size"] (defScope sRow) := ⟨rfl, rfl, rfl, by decide +kernel, rfl, by decide +kernel, by decide +kernel⟩
abbrev DSip (P : Program) (w : World) (K : PySem.W.Frag) (mg : Str → Option Value) (base : Heap) : Prop := DefX P w K mg base 1 "_law_sip" ["_law_jug_here", "_law_most"] spSip
theorem ok_row {f : Addr} {fd : FuncData} (F : Fun K "_law_row" "_law_row" sRow f fd) (T : Bt mg) (DS : DSip P w K mg base) : FnOk P w K mg base CX0 3 f fd ["_law_jug_here", "_law_size"] spRow := by
  refine F.ok scRow (fun vs H Q E h => ?_) (fun cdv A outer s H vs Q E hr h => ?_)
  · obtain ⟨j, n, rfl, _⟩ := h
    rfl
  · obtain ⟨j, n, rfl, hn1, hn6, J, k⟩ := h
    refine ⟨_, pss_cons (ps_setLc (i := 2) (own := [("_law_k", 3)]) (g := gName 3) (tt := tYes) rfl scRow.nd rfl rfl (sw_true rfl rfl rfl (by decide +kernel)) (pi_range1 rfl T.range (pa_cons (pv 1) pa_nil))
        (blkOk_by (own := [("_law_k", 3)]) (N := ["_law_jug_here", "_law_size", "_law_row_here", "_law_k"]) (sc := defScope sRow) (by decide +kernel)) (fun _ _ _ _ _ => pg_name (i := 3) scRow.nd rfl (Or.inl rfl)) (fun _ _ _ _ _ => pts_nil)
        (fun _ _ _ _ _ => pe_ix (ixL K) (pe_lst (pa_cons pe_int (pa_cons pe_int (pa_cons pe_int (pa_cons pe_int (pa_cons pe_int (pa_cons pe_int (pa_cons pe_int pa_nil)))))))) (pe_fn DS hr (by decide) (pa_cons (pv 0) (pa_cons pe_int pa_nil))) (fun _ _ => rfl)))
      (pss_cons (ps_if (pt_cmpR op_eq (pe_callB (sumL K) (by rfl) T.sum (by decide +kernel) (pa_cons (pv 2) pa_nil)) pe_int (nomark _))
        (pss_one (ps_asg (pe_ix (ixL K) (pe_lst (pa_cons pe_int (pa_cons pe_int (pa_cons (pe_op op_pow pe_int pe_int) pa_nil)))) (pe_fn DS hr (by decide) (pa_cons (pv 0) (pa_cons pe_int pa_nil))) (fun _ _ => rfl))
          (pg_sub (pv 2) (pe_fn DS hr (by decide) (pa_cons (pv 0) (pa_cons (pv 1) pa_nil))) set_list))) pss_nil)
      (pss_one (ps_ret (pe_callTy (tupO K) (by rfl) T.tuple (by decide +kernel) (pa_cons (pv 2) pa_nil))))), ?_⟩
    refine ⟨_, rfl, n, rfl, by omega, by omega, fun D hD => ?_⟩
    refine lc_range (lo := 0) (n := n) (fun i H' => ∃ r : List Int, H' D = some (.lst (r.map V.int)) ∧ r.length = i ∧ (∀ x ∈ r, 0 ≤ x ∧ x ≤ 1000000000 ∧ (x ≤ 7 ∨ x = 1000000000)) ∧ But j H H' ∧ JugAt H' j) ⟨[], upd_same, rfl, (fun _ h => nomatch h), But.new hD, J.upd hD⟩ ?_ ?_
    · rintro i H1 hi ⟨r, hr1, hl, hx, hB, J1⟩
      refine ⟨rfl, turnY ?_⟩
      refine ⟨by decide, fun l hl0 => ⟨_, rfl, j, _, rfl, by decide, by decide, J1.upd hl0, fun H2 d b2 J2 d0 d1 => ?_⟩⟩
      obtain ⟨z, hz, ha⟩ := pick (xs := [0, 0, 1, 1, 2, 3, 7]) d0 d1
      have hjl := J1.ne hl0
      have hDl : D ≠ l := ne_of_none hr1 hl0
      have hD2 : H2 D = some (.lst (r.map V.int)) := b2 D _ (J.ne hD).symm (by rw [upd_ne hDl]; exact hr1)
      refine ⟨l, _, d, _, rfl, rfl, SqL.of (b2 l _ hjl.symm upd_same), ha, _, hD2, small1000 (by rw [List.length_map]; omega), r ++ [z], ?_, by rw [List.length_append, hl]; rfl, fun x hx' => ?_, ((hB.trans (But.new hl0)).trans b2).put hD, J2.put (J.ne hD)⟩
      · rw [upd_same, List.map_append]; rfl
      · rcases List.mem_append.mp hx' with q | q
        · exact hx x q
        · rw [List.mem_singleton.mp q]
          have : ∀ y : Int, y ∈ ([0, 0, 1, 1, 2, 3, 7] : List Int) → 0 ≤ y ∧ y ≤ 1000000000 ∧ (y ≤ 7 ∨ y = 1000000000) := by decide
          exact this z hz
    · rintro H1 ⟨r, hr1, hl, hx, hB, J1⟩
      -- if sum(row) == 0
      refine ⟨_, rfl, D, r, rfl, SqL.of hr1, rfl, _, rfl, tifS_join (fun σ H2 => ∃ r : List Int, σ = [some (.ref j), some (.int n), some (.ref D), none] ∧ H2 D = some (.lst (r.map V.int)) ∧ RowDr n r ∧ But j H H2 ∧ JugAt H2 j) (fun hc N hN => ?_) (fun hc N hN => ?_) ?_⟩
      · refine ⟨_, _, rfl, rfl, ⟨by decide, by decide, by decide⟩, by decide, fun l hl0 => ⟨_, rfl, j, _, rfl, by decide, by decide, J1.upd hl0, fun H2 d b2 J2 d0 d1 => ?_⟩⟩
        obtain ⟨z, hz, ha⟩ := pick (xs := [1, 2, 1000000000]) d0 d1
        have hz' : 0 < z ∧ z ≤ 1000000000 ∧ (z ≤ 7 ∨ z = 1000000000) := by
          have : ∀ y : Int, y ∈ ([1, 2, 1000000000] : List Int) → 0 < y ∧ y ≤ 1000000000 ∧ (y ≤ 7 ∨ y = 1000000000) := by decide
          exact this z hz
        have hjl := J1.ne hl0
        have hDj : D ≠ j := (J.ne hD).symm
        refine ⟨l, _, d, _, rfl, rfl, SqL.of (b2 l _ hjl.symm upd_same), ha, _, rfl, _, rfl, _, rfl, j, _, rfl, by omega, by omega, J2, fun H3 e b3 J3 e0 e1 => ?_⟩
        have hD3 : H3 D = some (.lst (r.map V.int)) := b3 D _ hDj (b2 D _ hDj (by rw [upd_ne (ne_of_none hr1 hl0)]; exact hr1))
        have ek : ∃ k : Nat, e = k := ⟨e.toNat, by omega⟩
        obtain ⟨k, rfl⟩ := ek
        have hk : k < r.length := by omega
        refine ⟨D, _, _, k, rfl, rfl, hD3, ixN_nat (by rw [List.length_map]; exact hk), hN _ _ ⟨r.set k z, rfl, ?_, ⟨⟨by rw [List.length_set, hl], fun x hx' => ?_, ?_⟩, fun x hx' => ?_⟩, (((hB.trans (But.new hl0)).trans b2).trans b3).put hD, J3.put hDj.symm⟩⟩
        · rw [upd_same, List.map_set]
        · rcases List.mem_or_eq_of_mem_set hx' with q | q
          · exact ⟨(hx x q).1, (hx x q).2.1⟩
          · rw [q]; omega
        · refine sum_pos (x := z) (fun x hx' => ?_) (List.mem_set hk z) hz'.1
          rcases List.mem_or_eq_of_mem_set hx' with q | q
          · exact (hx x q).1
          · rw [q]; omega
        · rcases List.mem_or_eq_of_mem_set hx' with q | q
          · exact (hx x q).2.2
          · rw [q]; exact hz'.2.2
      · refine hN _ _ ⟨r, rfl, hr1, ⟨⟨hl, fun x h => ⟨(hx x h).1, (hx x h).2.1⟩, ?_⟩, fun x h => (hx x h).2.2⟩, hB, J1⟩
        have hc' : ¬ r.sum = 0 := fun z => hc (by rw [z]; decide)
        have := sum_nonneg (r := r) fun x h => (hx x h).1
        omega
      · rintro σ H2 ⟨r, rfl, h1, ok, hB2, J2⟩
        exact ⟨_, rfl, D, _, rfl, .inl ⟨SqL.of h1, fun p np => k _ p r (hB2.put (hB2.freeJ J2 np)) (J2.upd np) (hB2.freeJ J2 np) upd_same ok⟩⟩

def spTalk : Sp := fun vs H Q _ => ∃ (j : Addr) (n : Nat), vs = [.ref j, .int n] ∧ 1 ≤ n ∧ n ≤ 6 ∧ JugAt H j ∧
  ∀ (H' : Hp) (p : Addr) (w : List (List Int)), But j H H' → JugAt H' j → H p = none → Im H' (.ref p) (dWay w) → WayDr n w → Q (.ref p) H'
abbrev DRow (P : Program) (w : World) (K : PySem.W.Frag) (mg : Str → Option Value) (base : Heap) : Prop := DefX P w K mg base 3 "_law_row" ["_law_jug_here", "_law_size"] spRow
theorem scTalk : FnScope ["_law_jug_here", "_law_size", "_law_k"] ["_law_jug_here", "_law_size"] (defScope sTalk) := ⟨rfl, rfl, rfl, by decide +kernel, rfl, by decide +kernel, by decide +kernel⟩
theorem ok_talk {f : Addr} {fd : FuncData} (F : Fun K "_law_talk" "_law_talk" sTalk f fd) (T : Bt mg) (DR : DRow P w K mg base) : FnOk P w K mg base CX0 4 f fd ["_law_jug_here", "_law_size"] spTalk := by
  refine F.ok scTalk (fun vs H Q E h => ?_) (fun cdv A outer s H vs Q E hr h => ?_)
  · obtain ⟨j, n, rfl, _⟩ := h
    rfl
  · obtain ⟨j, n, rfl, hn1, hn6, J, k⟩ := h
    refine ⟨_, pss_one (ps_ret (pe_callTy (tupO K) (by rfl) T.tuple (by decide +kernel) (pa_cons (pe_lc (own := [("_law_k", 2)]) (g := gName 2) (tt := tYes) rfl scTalk.nd (pi_range1 rfl T.range (pa_cons (pv 1) pa_nil))
        (blkOk_by (own := [("_law_k", 2)]) (N := ["_law_jug_here", "_law_size", "_law_k"]) (sc := defScope sTalk) (by decide +kernel)) (fun _ _ _ _ _ => pg_name (i := 2) scTalk.nd rfl (Or.inl rfl)) (fun _ _ _ _ _ => pts_nil)
        (fun _ _ _ _ _ => pe_fn DR hr (by decide) (pa_cons (pv 0) (pa_cons (pv 1) pa_nil)))) pa_nil))), ?_⟩
    refine ⟨_, rfl, n, rfl, by omega, by omega, fun D hD => ?_⟩
    refine lc_range (lo := 0) (n := n) (fun i H' => ∃ (w : List (List Int)) (vs : List V), H' D = some (.lst vs) ∧ ImAll H' vs (w.map dRow) ∧ w.length = i ∧ (∀ r ∈ w, RowDr n r) ∧ But j H H' ∧ JugAt H' j) ⟨[], [], upd_same, .nil, rfl, (fun _ h => nomatch h), But.new hD, J.upd hD⟩ ?_ ?_
    · rintro i H1 hi ⟨w, vs, hD1, hA, hl, hw, hB, J1⟩
      refine ⟨rfl, turnY ?_⟩
      refine ⟨_, rfl, _, rfl, j, n, rfl, hn1, hn6, J1, fun H2 p r b2 J2 np hp ok => ?_⟩
      have hDj : D ≠ j := (J.ne hD).symm
      have hD2 : H2 D = some (.lst vs) := b2 D _ hDj hD1
      have hvl : vs.length = i := by rw [hA.length, List.length_map, hl]
      refine ⟨_, hD2, small1000 (by omega), w ++ [r], vs ++ [.ref p], upd_same, ?_, by rw [List.length_append, hl]; rfl, fun x hx => ?_, (hB.trans b2).put hD, J2.put hDj.symm⟩
      · rw [List.map_append]
        refine ImAll.mono (TupS.lst hD2) _ _ (ImAll.snoc (.tup hp (imInts r)) (ImAll.mono (b2.tups J1) _ _ hA))
      · rcases List.mem_append.mp hx with q | q
        · exact hw x q
        · rw [List.mem_singleton.mp q]; exact ok
    · rintro H1 ⟨w, vs, hD1, hA, hl, hw, hB, J1⟩
      exact ⟨D, vs, rfl, .inl ⟨SqL.of hD1, fun p np => k _ p w (hB.put (hB.freeJ J1 np)) (J1.upd np) (hB.freeJ J1 np) (.tup upd_same (ImAll.mono (TupS.new np) _ _ hA)) ⟨hl, hw⟩⟩⟩

def spPair : Sp := fun vs H Q _ => ∃ (j : Addr) (m : Int), vs = [.ref j, .int m] ∧ 1 ≤ m ∧ m ≤ 6 ∧ JugAt H j ∧
  ∀ (H' : Hp) (p a b : Addr) (ms : List Str) (ws : List (List (List Int))), But j H H' → JugAt H' j → H p = none → H' p = some (.lst [.ref a, .ref b]) → Im H' (.ref a) (dMinds ms) → Im H' (.ref b) (dWays ws) → Drawn ms ws → (ms.length : Int) ≤ m → Q (.ref p) H'
abbrev DTalk (P : Program) (w : World) (K : PySem.W.Frag) (mg : Str → Option Value) (base : Heap) : Prop := DefX P w K mg base 4 "_law_talk" ["_law_jug_here", "_law_size"] spTalk
abbrev nPair : List Str := ["_law_jug_here", "_law_most_here", "_law_size", "_law_pool", "_law_heads_here", "_law_k"]
theorem scPair : FnScope nPair ["_law_jug_here", "_law_most_here"] (defScope sPair) := ⟨rfl, rfl, rfl, by decide +kernel, rfl, by decide +kernel, by decide +kernel⟩
theorem ok_pair {f : Addr} {fd : FuncData} (F : Fun K "_law_pair" "_law_pair" sPair f fd) (T : Bt mg) (DS : DSip P w K mg base) (DT : DTalk P w K mg base) : FnOk P w K mg base CX0 5 f fd ["_law_jug_here", "_law_most_here"] spPair := by
  refine F.ok scPair (fun vs H Q E h => ?_) (fun cdv A outer s H vs Q E hr h => ?_)
  · obtain ⟨j, m, rfl, _⟩ := h
    rfl
  · obtain ⟨j, m, rfl, hm1, hm6, J, k⟩ := h
    refine ⟨_, pss_cons (ps_set (i := 2) scPair.nd rfl (Or.inr rfl) (pe_op op_add pe_int (pe_fn DS hr (by decide) (pa_cons (pv 0) (pa_cons (pv 1) pa_nil)))))
      (pss_cons (ps_set (i := 3) scPair.nd rfl (Or.inl rfl) (pe_lst (pa_cons pe_str (pa_cons pe_str (pa_cons pe_str (pa_cons pe_str (pa_cons pe_str (pa_cons pe_str (pa_cons pe_str (pa_cons pe_str pa_nil))))))))))
      (pss_cons (ps_set (i := 4) scPair.nd rfl (Or.inl rfl) (pe_lst pa_nil))
      (pss_cons (ps_for PassesOwn.never rfl (pi_range1 rfl T.range (pa_cons (pv 2) pa_nil)) (pg_name (i := 5) scPair.nd rfl (Or.inl rfl))
        (pss_one (ps_expr (pbm K PySem.F.plainAttrs_list PySem.F.slot_list_append PySem.F.type_list_append mt_append (pv 4) (pa_cons (pbm K PySem.F.plainAttrs_list PySem.F.slot_list_pop PySem.F.type_list_pop mt_popAt (pv 3) (pa_cons (pe_fn DS hr (by decide) (pa_cons (pv 0) (pa_cons (pe_callB (lenQ K) (by rfl) T.len (by decide +kernel) (pa_cons (pv 3) pa_nil)) pa_nil))) pa_nil)) pa_nil)))))
      (pss_one (ps_ret (pe_lst (pa_cons (pe_callTy (tupO K) (by rfl) T.tuple (by decide +kernel) (pa_cons (pv 4) pa_nil)) (pa_cons (pe_callTy (tupO K) (by rfl) T.tuple (by decide +kernel) (pa_cons (pe_lc (own := [("_law_k", 5)]) (g := gName 5) (tt := tYes) rfl scPair.nd (pi_range1 rfl T.range (pa_cons (pe_op op_add pe_int (pe_fn DS hr (by decide) (pa_cons (pv 0) (pa_cons pe_int pa_nil)))) pa_nil)) (blkOk_by (own := [("_law_k", 5)]) (N := nPair) (sc := defScope sPair) (by decide +kernel)) (fun _ _ _ _ _ => (pg_name (i := 5) scPair.nd rfl (Or.inl rfl))) (fun _ _ _ _ _ => pts_nil)
          (fun _ _ _ _ _ => (pe_fn DT hr (by decide) (pa_cons (pv 0) (pa_cons (pv 2) pa_nil))))) pa_nil)) pa_nil)))))))), ?_⟩
    refine ⟨_, rfl, _, rfl, j, m, rfl, by omega, by omega, J, fun H1 d b1 J1 d0 d1 => ?_⟩
    refine ⟨_, _, rfl, rfl, by decide, fun l1 n1 => ⟨by decide, fun l2 n2 => ?_⟩⟩
    obtain ⟨n, hn⟩ : ∃ n : Nat, 1 + d = n := ⟨(1 + d).toNat, by omega⟩
    have hl1j : l1 ≠ j := (J1.ne n1).symm
    have hl2j : l2 ≠ j := ((J1.upd n1).ne n2).symm
    have hl12 : l1 ≠ l2 := ne_of_none upd_same n2
    have n1' : H l1 = none := b1.freeJ J1 n1
    have n2' : H l2 = none := (b1.trans (But.new n1)).freeJ (J1.upd n1) n2
    refine ⟨_, rfl, n, by rw [← hn], by omega, by omega, ?_⟩
    refine for_range (lo := 0) (n := n) (fun i σ H' => ∃ (v : Option V) (M L : List Str), σ = [some (.ref j), some (.int m), some (.int n), some (.ref l1), some (.ref l2), v] ∧ H' l1 = some (.lst (L.map V.str)) ∧ H' l2 = some (.lst (M.map V.str)) ∧
      (M ++ L).Nodup ∧ (∀ x ∈ M ++ L, x ∈ pool8) ∧ M.length = i ∧ L.length + i = 8 ∧ But j H H' ∧ JugAt H' j)
      ⟨none, [], pool8, by show [some (V.ref j), some (V.int m), some (V.int (1 + d)), some (V.ref l1), some (V.ref l2), none] = _; rw [hn], by rw [upd_ne hl12]; exact upd_same, upd_same, by decide, (fun x hx => hx), rfl, rfl, (b1.put n1').put n2', (J1.upd n1).upd n2⟩ ?_ ?_
    · rintro i σ H2 hi ⟨v, M, L, rfl, h1, h2, hnd, hp, hM, hL, hB, J2⟩
      refine ⟨_, rfl, .inl ⟨rfl, _, SqL.of h2⟩, _, rfl, .inl ⟨rfl, _, SqL.of h1⟩, _, rfl, _, rfl, l1, _, rfl, .inl (SqL.of h1), j, _, rfl, ?_, ?_, J2, fun H3 e b3 J3 e0 e1 => ?_⟩
      · rw [List.length_map]; omega
      · rw [List.length_map]; omega
      rw [List.length_map] at e1
      obtain ⟨q, rfl⟩ : ∃ q : Nat, e = q := ⟨e.toNat, by omega⟩
      have hq : q < L.length := by omega
      have h13 := b3 l1 _ hl1j h1
      have h23 := b3 l2 _ hl2j h2
      refine ⟨l1, _, q, q, _, rfl, rfl, h13, by omega, by omega, seq_nat (by rw [List.length_map]; exact hq), by rw [List.getElem?_map, List.getElem?_eq_getElem hq]; rfl, ?_⟩
      refine ⟨l2, M.map V.str, V.str L[q], rfl, rfl, by rw [upd_ne hl12.symm]; exact h23, small1000 (by rw [List.length_map]; omega), ?_⟩
      have perm : (M ++ [L[q]] ++ L.eraseIdx q).Perm (M ++ L) := by
        rw [List.append_assoc]
        exact List.Perm.append_left M (erase_perm hq)
      refine ⟨_, M ++ [L[q]], L.eraseIdx q, rfl, ?_, ?_, perm.nodup_iff.mpr hnd, fun x hx => hp x (perm.mem_iff.mp hx), by rw [List.length_append, hM]; rfl, ?_, (((hB.trans b3).put n1').put n2'), (J3.put hl1j.symm).put hl2j.symm⟩
      · rw [upd_ne hl12, upd_same, erase_map]
      · rw [upd_same, List.map_append]; rfl
      · rw [List.length_eraseIdx_of_lt hq]; omega
    · rintro σ H2 ⟨v, M, L, rfl, h1, h2, hnd, hp, hM, hL, hB, J2⟩
      refine ⟨_, rfl, l2, _, rfl, .inl ⟨SqL.of h2, fun p1 np1 => ?_⟩⟩
      refine ⟨_, rfl, j, _, rfl, by decide, by decide, J2.upd np1, fun H3 e b3 J3 e0 e1 => ?_⟩
      obtain ⟨c, hc⟩ : ∃ c : Nat, 1 + e = c := ⟨(1 + e).toNat, by omega⟩
      have np1' : H p1 = none := hB.freeJ J2 np1
      have hp1j : p1 ≠ j := (J2.ne np1).symm
      refine ⟨_, _, rfl, rfl, c, by rw [← hc], by omega, by omega, fun D hD => ?_⟩
      have B3 : But j H H3 := (hB.put np1').trans b3
      have hD' : H D = none := B3.freeJ J3 hD
      have hDj : D ≠ j := (J3.ne hD).symm
      have hA : H3 p1 = some (.tup (M.map V.str)) := b3 p1 _ hp1j upd_same
      refine lc_range (lo := 0) (n := c) (fun i H' => ∃ (w : List (List (List Int))) (vs : List V), H' D = some (.lst vs) ∧ ImAll H' vs (w.map dWay) ∧ w.length = i ∧ (∀ r ∈ w, WayDr n r) ∧ But j H H' ∧ JugAt H' j ∧ H' p1 = some (.tup (M.map V.str)))
        ⟨[], [], upd_same, .nil, rfl, (fun _ h => nomatch h), B3.put hD', J3.upd hD, by rw [upd_ne (ne_of_none hA hD)]; exact hA⟩ ?_ ?_
      · rintro i H4 hi ⟨w, vs, hD4, hAl, hl, hw, hB4, J4, hA4⟩
        refine ⟨rfl, turnY ?_⟩
        refine ⟨_, rfl, _, rfl, j, n, rfl, by omega, by omega, J4, fun H5 p r b5 J5 np hp ok => ?_⟩
        have hD5 : H5 D = some (.lst vs) := b5 D _ hDj hD4
        have hvl : vs.length = i := by rw [hAl.length, List.length_map, hl]
        refine ⟨_, hD5, small1000 (by omega), w ++ [r], vs ++ [.ref p], upd_same, ?_, by rw [List.length_append, hl]; rfl, fun x hx => ?_, (hB4.trans b5).put hD', J5.put hDj.symm, ?_⟩
        · rw [List.map_append]
          exact ImAll.mono (TupS.lst hD5) _ _ (ImAll.snoc hp (ImAll.mono (b5.tups J4) _ _ hAl))
        · rcases List.mem_append.mp hx with q | q
          · exact hw x q
          · rw [List.mem_singleton.mp q]; exact ok
        · have z := b5 p1 _ hp1j hA4
          rw [upd_ne (ne_of z hD5 (by intro z; cases z))]; exact z
      · rintro H4 ⟨w, vs, hD4, hAl, hl, hw, hB4, J4, hA4⟩
        refine ⟨D, vs, rfl, .inl ⟨SqL.of hD4, fun p2 np2 => ⟨by show 2 ≤ sizeLine; decide, fun p3 np3 => ?_⟩⟩⟩
        have np2' : H p2 = none := hB4.freeJ J4 np2
        have J5 := J4.upd (o := HO.tup vs) np2
        have hB5 : But j H (upd H4 p2 (.tup vs)) := hB4.put np2'
        have np3' : H p3 = none := hB5.freeJ J5 np3
        have t5 : TupS H4 (upd (upd H4 p2 (.tup vs)) p3 (.lst [.ref p1, .ref p2])) := (TupS.new np2).trans (TupS.new np3)
        have hms : M.length = n := hM
        refine k _ p3 p1 p2 M w (hB5.put np3') (J5.upd np3) np3' upd_same (.tup (t5 _ _ hA4) (imStrs M)) (.tup ((TupS.new np3) _ _ upd_same) (ImAll.mono t5 _ _ hAl)) ⟨by omega, by omega, (List.nodup_append.mp hnd).1, fun x hx => hp x (List.mem_append_left _ hx), by omega, by omega, (by rw [hms]; exact fun w h => (hw w h).ok), fun w h r hr => ((hw w h).2 r hr).2⟩ (by omega)
end
end M

namespace M
open PySem L2 U
abbrev sWT : Stmt := top 23
abbrev nWT : List Str := ["way", "weight", "row"]
abbrev pWT : List Str := ["way"]
theorem scWT : FnScope nWT pWT (defScope sWT) := ⟨rfl, rfl, rfl, by decide +kernel, rfl, by decide +kernel, by decide +kernel⟩
abbrev sRWy : Stmt := top 24
abbrev nRWy : List Str := ["line", "word", "row"]
abbrev pRWy : List Str := ["line"]
theorem scRWy : FnScope nRWy pRWy (defScope sRWy) := ⟨rfl, rfl, rfl, by decide +kernel, rfl, by decide +kernel, by decide +kernel⟩
abbrev sRWt : Stmt := top 25
abbrev nRWt : List Str := ["word", "weight"]
abbrev pRWt : List Str := ["word"]
theorem scRWt : FnScope nRWt pRWt (defScope sRWt) := ⟨rfl, rfl, rfl, by decide +kernel, rfl, by decide +kernel, by decide +kernel⟩
/-! ### texts of numbers, rows, ways -/
def numT (i : Int) : Str := Str.ofString (toString i)
def rowT (r : List Int) : Str := Txt.join "," (r.map numT)
def wayT (w : List (List Int)) : Str := Txt.join " " (w.map rowT)
theorem num_len {i : Int} (h0 : 0 ≤ i) (h1 : i ≤ 1000000000) : (numT i).length ≤ 10 := PySem.W.KT.len_num h0 (by omega)
theorem num_signs {i : Int} (h0 : 0 ≤ i) : ∀ c ∈ (numT i).cps.toList, 48 ≤ c ∧ c ≤ 57 := by
  obtain ⟨m, rfl⟩ := Int.eq_ofNat_of_zero_le h0
  intro c hc
  unfold numT at hc
  rw [PySem.W.KIN.signs_num] at hc
  obtain ⟨ch, hch, e⟩ := List.mem_map.mp hc
  have r := PyProof.Rows.digit_range (Nat.isDigit_of_mem_toDigits (by decide) (by decide) hch)
  rw [← e]
  exact r
theorem num_ne {i : Int} (h0 : 0 ≤ i) : 1 ≤ (numT i).length := PySem.W.KLn.one_le h0
theorem num_ascii {i : Int} (h0 : 0 ≤ i) : Txt.isascii (numT i) = true := by
  show (numT i).cps.all (· < 128) = true
  rw [← Array.all_toList]
  exact List.all_eq_true.mpr fun c hc => decide_eq_true (by have := num_signs h0 c hc; omega)
theorem dig10 : ∀ d : Nat, d < 10 → Unicode.isDigit (48 + d) = true := by decide +kernel
theorem num_isdigit {i : Int} (h0 : 0 ≤ i) : Txt.isdigit (numT i) = true := by
  have h1 := num_ne h0
  show (decide ((numT i).length > 0) && (numT i).cps.all Unicode.isDigit) = true
  rw [decide_eq_true (by omega), Bool.true_and, ← Array.all_toList]
  refine List.all_eq_true.mpr fun c hc => ?_
  have h2 := num_signs h0 c hc
  have := dig10 (c - 48) (by omega)
  rwa [show 48 + (c - 48) = c by omega] at this
theorem num_reads {i : Int} (h0 : 0 ≤ i) (h1 : i ≤ 1000000000) : PySem.intText? (numT i) = some i := PySem.W.KIN.num_reads h0 (by omega)
theorem num_log {i : Int} (h0 : 0 ≤ i) (h1 : i ≤ 1000000000) : i.natAbs.log2 < 1920 := by
  by_cases z : i.natAbs = 0
  · rw [z]; decide
  · refine (Nat.log2_lt z).mpr ?_
    have : i.natAbs < 2 ^ 31 := by
      have e : (2 : Nat) ^ 31 = 2147483648 := by decide
      omega
    exact Nat.lt_of_lt_of_le this (Nat.pow_le_pow_right (by decide) (by decide))
theorem sum_le {α : Type} {f : α → Nat} {c : Nat} : ∀ {l : List α}, (∀ x ∈ l, f x ≤ c) → (l.map f).sum ≤ l.length * c
  | [], _ => Nat.zero_le _
  | x :: l, h => by
    have h1 := h x List.mem_cons_self
    have h2 := sum_le fun y hy => h y (List.mem_cons_of_mem _ hy)
    rw [List.map_cons, List.sum_cons, List.length_cons, Nat.succ_mul]
    omega
theorem join_len {sep : Str} {ys : List Str} {c : Nat} (h : ∀ y ∈ ys, y.length ≤ c) : (Txt.join sep ys).length ≤ ys.length * (c + sep.length) := by
  rw [TL.join_eq]
  refine Nat.le_trans (StrLaws.join_length_le sep ys) ?_
  have := sum_le (f := fun y : Str => y.length) h
  rw [Nat.mul_add]
  omega
theorem row_len {n : Nat} {r : List Int} (h : RowOk n r) (hn : n ≤ 6) : (rowT r).length ≤ 66 := by
  have := join_len (sep := ",") (ys := r.map numT) (c := 10) fun y hy => by
    obtain ⟨i, hi, rfl⟩ := List.mem_map.mp hy
    exact num_len (h.2.1 i hi).1 (h.2.1 i hi).2
  rw [List.length_map, h.1] at this
  have e : (("," : Str)).length = 1 := rfl
  rw [e] at this
  exact Nat.le_trans this (Nat.mul_le_mul_right 11 hn)
theorem way_len {n : Nat} {w : List (List Int)} (h : WayOk n w) (hn : n ≤ 6) : (wayT w).length ≤ 402 := by
  have := join_len (sep := " ") (ys := w.map rowT) (c := 66) fun y hy => by
    obtain ⟨r, hr, rfl⟩ := List.mem_map.mp hy
    exact row_len (h.2 r hr) hn
  rw [List.length_map, h.1] at this
  have e : ((" " : Str)).length = 1 := rfl
  rw [e] at this
  exact Nat.le_trans this (Nat.mul_le_mul_right 67 hn)
def spWT : Sp := fun vs H Q _ => ∃ (v : V) (n : Nat) (ws : List (List Int)), vs = [v] ∧ Im H v (dWay ws) ∧ WayOk n ws ∧ n ≤ 6 ∧ ∀ H', Same H H' → Q (.str (wayT ws)) H'
def spRWt : Sp := fun vs H Q _ => ∃ (i : Int), vs = [.str (numT i)] ∧ 0 ≤ i ∧ i ≤ 1000000000 ∧ Q (.int i) H
section
variable {P : Program} {w : World} {K : PySem.W.Frag} {mg : Str → Option Value} {base : Heap}
theorem ok_rwt {f : Addr} {fd : FuncData} (F : Fun K "read_weight" "read_weight" sRWt f fd) (T : Bt mg) : FnOk P w K mg base CX0 1 f fd pRWt spRWt := by
  refine F.ok scRWt (fun vs H Q E h => ?_) (fun cdv A outer s H vs Q E hr h => ?_)
  · obtain ⟨i, rfl, _⟩ := h
    rfl
  · obtain ⟨i, rfl, h0, h1, k⟩ := h
    refine ⟨_, (pss_cons (ps_if (PW.pt (pw_or (pt_not (PW.pt (pw_and (pt_val (pbm0 K PySem.F.plainAttrs_str PySem.F.slot_str_isascii PySem.F.type_str_isascii mt_isascii (pv 0))) (pw_and1 (pt_val (pbm0 K PySem.F.plainAttrs_str PySem.F.slot_str_isdigit PySem.F.type_str_isdigit mt_isdigit (pv 0))))))) (pw_or1 (pt_cmpR op_gt (pe_callB call_len_str (by rfl) T.len (by decide +kernel) (pa_cons (pv 0) pa_nil)) (pe_callB call_len_str (by rfl) T.len (by decide +kernel) (pa_cons (pe_callTy call_str_int (by rfl) T.str (by decide +kernel) (pa_cons (pe_globE T.g_MOST_WEIGHT) pa_nil)) pa_nil)) (nomark _)))))
        (pss_one (ps_ret pe_non)) pss_nil)
      (pss_cons (ps_set (i := 1) scRWt.nd rfl (Or.inl rfl) (pe_callTy call_int_str (by rfl) T.int (by decide +kernel) (pa_cons (pv 0) pa_nil)))
      (pss_one (ps_ret (pe_ifExp (pt_cmpR op_eq (pe_callTy call_str_int (by rfl) T.str (by decide +kernel) (pa_cons (pv 1) pa_nil)) (pv 0) (nomark _)) (pv 1) pe_non))))), ?_⟩
    have hl := num_len h0 h1
    have lz : (numT i).length ≤ sizeLine := Nat.le_trans hl (by decide)
    refine ⟨_, rfl, rfl, _, rfl, rfl, trivial, _, rfl, ?_⟩
    rw [num_ascii h0]
    refine iteT ⟨_, rfl, rfl, _, rfl, rfl, trivial, _, rfl, ?_⟩
    rw [num_isdigit h0]
    refine iteF ?_
    refine ⟨_, rfl, _, rfl, lz, _, rfl, by decide, _, rfl, by decide +kernel, _, _, rfl, rfl, _, rfl, ite2 (fun z => ?_) (fun _ => ?_)⟩
    · exfalso
      have z' := of_decide_eq_true z
      have e : (Str.ofString (toString (1000000000 : Int))).length = 10 := by decide +kernel
      rw [e] at z'
      omega
    refine ⟨_, rfl, _, _, rfl, num_reads h0 h1, Nat.le_trans hl (by decide), ?_⟩
    refine ⟨_, rfl, _, rfl, ?_, _, rfl, rfl, _, rfl, ite2 (fun _ => ⟨_, rfl, k⟩) (fun z => ?_)⟩
    · exact num_log h0 h1
    · exact absurd (decide_eq_true rfl) z
theorem ok_wt {f : Addr} {fd : FuncData} (F : Fun K "way_text" "way_text" sWT f fd) (T : Bt mg) : FnOk P w K mg base CX0 1 f fd pWT spWT := by
  refine F.ok scWT (fun vs H Q E h => ?_) (fun cdv A outer s H vs Q E hr h => ?_)
  · obtain ⟨v, n, ws, rfl, _⟩ := h
    rfl
  · obtain ⟨v, n, ws, rfl, im, ok, hn, k⟩ := h
    obtain ⟨a, xs, rfl, ha, hall⟩ := im.tuple
    have hxl : xs.length = ws.length := by rw [hall.length, List.length_map]
    have hwl : ws.length = n := ok.1
    refine ⟨_, (pss_one (ps_ret (pjoin K pe_str (pa_cons (pe_lc (own := [("row", 2)]) (g := gName 2) (tt := tYes) rfl scWT.nd (piT K (pv 0)) (blkOk_by (own := [("row", 2)]) (N := nWT) (sc := defScope sWT) (by decide +kernel)) (fun _ _ _ _ _ => (pg_name (i := 2) scWT.nd rfl (Or.inl rfl))) (fun _ _ _ _ _ => pts_nil)
          (fun _ _ _ _ _ => (pjoin K pe_str (pa_cons (pe_lc (own := [("weight", 1)]) (g := gName 1) (tt := tYes) rfl scWT.nd (piT K (pv 2)) (blkOk_by (own := [("weight", 1)]) (N := nWT) (sc := _) (by kernel_rfl)) (fun _ _ _ _ _ => (pg_name (i := 1) scWT.nd rfl (Or.inl rfl))) (fun _ _ _ _ _ => pts_nil)
          (fun _ _ _ _ _ => (pe_callTy call_str_int (by rfl) T.str (by decide +kernel) (pa_cons (pv 1) pa_nil)))) pa_nil)))) pa_nil)))), ?_⟩
    refine ⟨rfl, _, rfl, a, rfl, ⟨_, SqT.of ha⟩, fun D hD => ?_⟩
    refine lc_it (walk_tup (K := K) (a := a) (xs := xs)) (PvS H D ((ws.map rowT).map V.str)) (pvs0 hD) (fun i H1 _ h => SqT.of (h.1 _ _ ha)) ?_ (fun H1 h => ?_)
    · rintro i x _ H1 hi h ⟨rfl, hx⟩
      obtain ⟨d, hd, imx⟩ := hall.get hx
      rw [List.getElem?_map] at hd
      cases hz : ws[i]? with
      | none => rw [hz] at hd; cases hd
      | some r =>
        rw [hz] at hd
        cases hd
        have hrow := ok.2 r (List.mem_of_getElem? hz)
        obtain ⟨a2, ys, rfl, ha2, hall2⟩ := imx.tuple
        have hys := hall2.ints
        subst hys
        have ha3 := h.1 _ _ ha2
        refine ⟨rfl, turnY ?_⟩
        refine ⟨rfl, _, rfl, a2, rfl, ⟨_, SqT.of ha3⟩, fun D2 hD2 => ?_⟩
        refine lc_it (walk_tup (K := K) (a := a2) (xs := r.map V.int)) (PvS H1 D2 ((r.map numT).map V.str)) (pvs0 hD2) (fun i H1 _ h => SqT.of (h.1 _ _ ha3)) ?_ (fun H2 h2 => ?_)
        · rintro i2 x _ H2 hi2 h2 ⟨rfl, hx⟩
          rw [List.getElem?_map] at hx
          cases hz2 : r[i2]? with
          | none => rw [hz2] at hx; cases hx
          | some z =>
            rw [hz2] at hx
            cases hx
            have hm := hrow.2.1 z (List.mem_of_getElem? hz2)
            refine ⟨rfl, turnY ?_⟩
            exact ⟨_, rfl, z, rfl, num_log hm.1 hm.2, pvs1 hD2 h2 (Same.refl _) (by rw [List.length_map, List.length_map, hrow.1]; omega) (by rw [List.getElem?_map, List.getElem?_map, hz2]; rfl)⟩
        obtain ⟨s2, hl2⟩ := pvsE h2 (by rw [List.length_map, List.length_map, List.length_map])
        refine ⟨",", D2, r.map numT, rfl, rfl, .inl (SqL.of hl2), ?_, ?_⟩
        · have q := sum_le (f := fun y : Str => y.length) (l := r.map numT) (c := 10) fun y hy => by
            obtain ⟨i, hi, rfl⟩ := List.mem_map.mp hy
            exact num_len (hrow.2.1 i hi).1 (hrow.2.1 i hi).2
          rw [List.length_map, hrow.1] at q ⊢
          have e : (("," : Str)).length = 1 := rfl
          rw [e]
          omega
        · exact pvs1 hD h s2 (by rw [List.length_map, List.length_map]; omega) (by rw [List.getElem?_map, List.getElem?_map, hz]; rfl)
    obtain ⟨s1, hl1⟩ := pvsE h (by rw [List.length_map, List.length_map, hxl])
    refine ⟨" ", D, ws.map rowT, rfl, rfl, .inl (SqL.of hl1), ?_, k H1 s1⟩
    have q := sum_le (f := fun y : Str => y.length) (l := ws.map rowT) (c := 66) fun y hy => by
      obtain ⟨r, hr, rfl⟩ := List.mem_map.mp hy
      exact row_len (ok.2 r hr) hn
    rw [List.length_map, hwl] at q ⊢
    have e : ((" " : Str)).length = 1 := rfl
    rw [e]
    omega
def spRWy : Sp := fun vs H Q _ => ∃ (n : Nat) (ws : List (List Int)), vs = [.str (wayT ws)] ∧ WayOk n ws ∧ 1 ≤ n ∧ n ≤ 6 ∧ ∀ (H' : Hp) (p : Addr), Same H H' → H p = none → Im H' (.ref p) (dWay ws) → Q (.ref p) H'
theorem row_split {n : Nat} {r : List Int} (h : RowOk n r) (hn : 1 ≤ n) : Txt.split (rowT r) "," = r.map numT := by
  refine TL.split_join (s := 44) (S := []) rfl (by decide +kernel) (fun e => ?_) fun p hp => ?_
  · have := congrArg List.length e
    rw [List.length_map, h.1] at this
    exact absurd this (by simp; omega)
  · obtain ⟨i, hi, rfl⟩ := List.mem_map.mp hp
    intro z
    have := num_signs (h.2.1 i hi).1 44 z
    omega
theorem row_signs {n : Nat} {r : List Int} (h : RowOk n r) : ∀ c ∈ (rowT r).cps.toList, c = 44 ∨ (48 ≤ c ∧ c ≤ 57) := by
  intro c hc
  unfold rowT at hc
  rw [TL.join_eq] at hc
  have hc' : c ∈ TL.tl (Str.join "," (r.map numT)) := hc
  rw [TL.tl_join] at hc'
  have key : ∀ ps : List (List Nat), (∀ p ∈ ps, ∀ c ∈ p, 48 ≤ c ∧ c ≤ 57) → ∀ c ∈ TL.joinL [44] ps, c = 44 ∨ (48 ≤ c ∧ c ≤ 57) := by
    intro ps
    induction ps with
    | nil => intro _ c h; cases h
    | cons p ps ih =>
      intro h c hc
      cases ps with
      | nil => exact Or.inr (h p List.mem_cons_self c hc)
      | cons q r =>
        have hc : c ∈ p ++ ([44] ++ TL.joinL [44] (q :: r)) := hc
        rcases List.mem_append.mp hc with z | z
        · exact Or.inr (h p List.mem_cons_self c z)
        · rcases List.mem_append.mp z with z | z
          · exact Or.inl (List.mem_singleton.mp z)
          · exact ih (fun p' hp' => h p' (List.mem_cons_of_mem _ hp')) c z
  refine key _ (fun p hp => ?_) c hc'
  rw [List.map_map] at hp
  obtain ⟨i, hi, rfl⟩ := List.mem_map.mp hp
  exact num_signs (h.2.1 i hi).1
theorem way_split {n : Nat} {w : List (List Int)} (h : WayOk n w) (hn : 1 ≤ n) : Txt.split (wayT w) " " = w.map rowT := by
  refine TL.split_join (s := 32) (S := []) rfl (by decide +kernel) (fun e => ?_) fun p hp => ?_
  · have := congrArg List.length e
    rw [List.length_map, h.1] at this
    exact absurd this (by simp; omega)
  · obtain ⟨r, hr, rfl⟩ := List.mem_map.mp hp
    intro z
    have := row_signs (h.2 r hr) 32 z
    omega
theorem ok_rwy {f : Addr} {fd : FuncData} (F : Fun K "read_way" "read_way" sRWy f fd) (T : Bt mg) (DW : DefX P w K mg base 1 "read_weight" pRWt spRWt) : FnOk P w K mg base CX0 3 f fd pRWy spRWy := by
  refine F.ok scRWy (fun vs H Q E h => ?_) (fun cdv A outer s H vs Q E hr h => ?_)
  · obtain ⟨n, ws, rfl, _⟩ := h
    rfl
  · obtain ⟨n, ws, rfl, ok, hn1, hn, k⟩ := h
    have hwl : ws.length = n := ok.1
    refine ⟨_, (pss_one (ps_ret (pe_callTy (tupO K) (by rfl) T.tuple (by decide +kernel) (pa_cons (pe_lc (own := [("row", 2)]) (g := gName 2) (tt := tYes) rfl scRWy.nd (piL K (pbm K PySem.F.plainAttrs_str PySem.F.slot_str_split PySem.F.type_str_split mt_split (pv 0) (pa_cons pe_str pa_nil))) (blkOk_by (own := [("row", 2)]) (N := nRWy) (sc := defScope sRWy) (by decide +kernel)) (fun _ _ _ _ _ => (pg_name (i := 2) scRWy.nd rfl (Or.inl rfl))) (fun _ _ _ _ _ => pts_nil)
          (fun _ _ _ _ _ => (pe_callTy (tupO K) (by rfl) T.tuple (by decide +kernel) (pa_cons (pe_lc (own := [("word", 1)]) (g := gName 1) (tt := tYes) rfl scRWy.nd (piL K (pbm K PySem.F.plainAttrs_str PySem.F.slot_str_split PySem.F.type_str_split mt_split (pv 2) (pa_cons pe_str pa_nil))) (blkOk_by (own := [("word", 1)]) (N := nRWy) (sc := _) (by kernel_rfl)) (fun _ _ _ _ _ => (pg_name (i := 1) scRWy.nd rfl (Or.inl rfl))) (fun _ _ _ _ _ => pts_nil)
          (fun _ _ _ _ _ => (pe_fn DW hr (by decide) (pa_cons (pv 1) pa_nil)))) pa_nil)))) pa_nil)))), ?_⟩
    have wl := way_len ok hn
    refine ⟨_, rfl, rfl, _, _, rfl, rfl, rfl, Nat.le_trans (Nat.add_le_add_right wl 2) (by decide), fun L hL => ?_⟩
    rw [way_split ok hn1]
    refine ⟨L, rfl, ⟨_, SqL.of upd_same⟩, fun D hD => ?_⟩
    have hLD : L ≠ D := ne_of_none upd_same hD
    have hD' : H D = none := (same_upd hL).free hD
    refine lc_it (walk_list (K := K) (a := L) (xs := (ws.map rowT).map V.str)) (fun i H1 => ∃ vs : List V, H1 D = some (.lst vs) ∧ ImAll H1 vs ((ws.take i).map dRow) ∧ Same H H1 ∧ H1 L = some (.lst ((ws.map rowT).map V.str)))
      ⟨[], upd_same, .nil, (same_upd hL).trans (same_upd hD), by rw [upd_ne hLD]; exact upd_same⟩ (fun i H1 _ h => by obtain ⟨_, _, _, _, h4⟩ := h; exact SqL.of h4) ?_ (fun H1 h => ?_)
    · rintro i x _ H1 hi ⟨vs, hv, hA, s1, h4⟩ ⟨rfl, hx⟩
      rw [List.getElem?_map, List.getElem?_map] at hx
      cases hz : ws[i]? with
      | none => rw [hz] at hx; cases hx
      | some r =>
        rw [hz] at hx
        cases hx
        have hrow := ok.2 r (List.mem_of_getElem? hz)
        have rl := row_len hrow hn
        refine ⟨rfl, turnY ?_⟩
        refine ⟨_, rfl, rfl, _, _, rfl, rfl, rfl, Nat.le_trans (Nat.add_le_add_right rl 2) (by decide), fun L2 hL2 => ?_⟩
        rw [row_split hrow hn1]
        refine ⟨L2, rfl, ⟨_, SqL.of upd_same⟩, fun D2 hD2 => ?_⟩
        have t1 : Same H1 (upd H1 L2 (.lst ((r.map numT).map V.str))) := same_upd hL2
        refine lc_it (walk_list (K := K) (a := L2) (xs := (r.map numT).map V.str)) (PvS (upd H1 L2 (.lst ((r.map numT).map V.str))) D2 (r.map V.int)) (pvs0 hD2) (fun i H1 _ h => SqL.of (h.1 _ _ upd_same)) ?_ (fun H2 h2 => ?_)
        · rintro i2 x _ H2 hi2 h2 ⟨rfl, hx⟩
          rw [List.getElem?_map, List.getElem?_map] at hx
          cases hz2 : r[i2]? with
          | none => rw [hz2] at hx; cases hx
          | some z =>
            rw [hz2] at hx
            cases hx
            have hm := hrow.2.1 z (List.mem_of_getElem? hz2)
            refine ⟨rfl, turnY ?_⟩
            exact ⟨_, rfl, z, rfl, hm.1, hm.2, pvs1 hD2 h2 (Same.refl _) (by rw [List.length_map, hrow.1]; omega) (by rw [List.getElem?_map, hz2]; rfl)⟩
        obtain ⟨s2, hl2⟩ := pvsE h2 (by rw [List.length_map, List.length_map, List.length_map])
        refine ⟨D2, _, rfl, .inl ⟨SqL.of hl2, fun p np => ?_⟩⟩
        have s3 : Same H1 (upd H2 p (.tup (r.map V.int))) := (t1.trans s2).trans (same_upd np)
        refine ⟨vs, s3 D _ hv, small1000 (by rw [hA.length, List.length_map, List.length_take]; omega), vs ++ [.ref p], upd_same, ?_, fun b o e => ?_, ?_⟩
        · rw [List.take_succ, hz, List.map_append]
          exact ImAll.mono (TupS.lst (s3 D _ hv)) _ _ (ImAll.snoc (.tup upd_same (imInts r)) (ImAll.mono (Same.tups s3) _ _ hA))
        · rw [upd_ne (ne_of_none e hD')]
          exact s3 b o (s1 b o e)
        · rw [upd_ne hLD]
          exact s3 L _ h4
    · obtain ⟨vs, hv, hA, s1, h4⟩ := h
      rw [List.length_map, List.length_map, List.take_length] at hA
      exact ⟨D, vs, rfl, .inl ⟨SqL.of hv, fun p np => k _ p (s1.trans (same_upd np)) (s1.free np) (.tup upd_same (ImAll.mono (TupS.new np) _ _ hA))⟩⟩
end
end M

namespace M
open PySem L2 U
/-! ### plain data: shape, equality -/
theorem beq_dec {α : Type} [BEq α] [LawfulBEq α] [DecidableEq α] (x y : α) : (x == y) = decide (x = y) := by
  by_cases h : x = y
  · subst h; simp
  · simp [h]
theorem lay_map {α : Type} {f : α → PyData} : ∀ {l : List α}, (∀ x ∈ l, (f x).canLay0 = true) → PyData.canLayAll0 (l.map f) = true
  | [], _ => by simp only [List.map_nil, PyData.canLayAll0]
  | x :: l, h => by
    rw [List.map_cons]
    simp only [PyData.canLayAll0]
    rw [h x List.mem_cons_self, lay_map fun y hy => h y (List.mem_cons_of_mem _ hy)]; rfl
theorem depth_map {α : Type} {f : α → PyData} {c : Nat} : ∀ {l : List α}, (∀ x ∈ l, (f x).depth ≤ c) → PyData.depthAll (l.map f) ≤ c
  | [], _ => by simp only [List.map_nil, PyData.depthAll]; exact Nat.zero_le _
  | x :: l, h => by
    rw [List.map_cons]
    simp only [PyData.depthAll]
    exact Nat.max_le.mpr ⟨h x List.mem_cons_self, depth_map fun y hy => h y (List.mem_cons_of_mem _ hy)⟩
theorem eqv_map {α : Type} [DecidableEq α] {f : α → PyData} (h : ∀ x y, PyData.eqv (f x) (f y) = decide (x = y)) : ∀ l l' : List α, PyData.eqvAll (l.map f) (l'.map f) = decide (l = l')
  | [], [] => by simp [PyData.eqvAll]
  | [], _ :: _ => by simp [PyData.eqvAll]
  | _ :: _, [] => by simp [PyData.eqvAll]
  | x :: l, y :: l' => by
    rw [List.map_cons, List.map_cons]
    simp only [PyData.eqvAll]
    rw [h, eqv_map h l l']
    simp [List.cons.injEq, Bool.decide_and]
theorem eqv_minds (a b : List Str) : PyData.eqv (dMinds a) (dMinds b) = decide (a = b) := by
  unfold dMinds
  simp only [PyData.eqv]
  exact eqv_map (fun x y => by simp only [PyData.eqv]; exact beq_dec x y) a b
theorem eqv_row (a b : List Int) : PyData.eqv (dRow a) (dRow b) = decide (a = b) := by
  unfold dRow
  simp only [PyData.eqv]
  exact eqv_map (fun x y => by simp only [PyData.eqv]; exact beq_dec x y) a b
theorem eqv_way (a b : List (List Int)) : PyData.eqv (dWay a) (dWay b) = decide (a = b) := by
  unfold dWay
  simp only [PyData.eqv]
  exact eqv_map eqv_row a b
theorem eqv_ways (a b : List (List (List Int))) : PyData.eqv (dWays a) (dWays b) = decide (a = b) := by
  unfold dWays
  simp only [PyData.eqv]
  exact eqv_map eqv_way a b
theorem dRow_lay (r : List Int) : (dRow r).canLay0 = true ∧ (dRow r).depth ≤ 1 := by
  unfold dRow
  simp only [PyData.canLay0, PyData.depth]
  refine ⟨lay_map fun x _ => by simp only [PyData.canLay0], ?_⟩
  have := depth_map (f := PyData.int) (c := 0) (l := r) fun x _ => by simp only [PyData.depth]; exact Nat.le_refl 0
  omega
theorem dWay_lay (w : List (List Int)) : (dWay w).canLay0 = true ∧ (dWay w).depth ≤ 2 := by
  unfold dWay
  simp only [PyData.canLay0, PyData.depth]
  refine ⟨lay_map fun x _ => (dRow_lay x).1, ?_⟩
  have := depth_map (f := dRow) (c := 1) (l := w) fun x _ => (dRow_lay x).2
  omega
theorem dWays_lay (ws : List (List (List Int))) : (dWays ws).canLay0 = true ∧ (dWays ws).depth ≤ 3 := by
  unfold dWays
  simp only [PyData.canLay0, PyData.depth]
  refine ⟨lay_map fun x _ => (dWay_lay x).1, ?_⟩
  have := depth_map (f := dWay) (c := 2) (l := ws) fun x _ => (dWay_lay x).2
  omega
theorem alnum_ascii : ∀ c ∈ ("abcdefghijklmnopqrstuvwxyz0123456789" : Str).cps.toList, 48 ≤ c ∧ c < 128 := by decide +kernel
theorem name_signs {x : Str} (h : nameB x = true) : ∀ c ∈ x.cps.toList, 48 ≤ c ∧ c < 128 := by
  unfold nameB at h
  intro c hc
  have h2 := (Bool.and_eq_true_iff.mp h).2
  exact alnum_ascii c (of_decide_eq_true (List.all_eq_true.mp h2 c hc))
theorem dMinds_lay {ms : List Str} (h : ∀ x ∈ ms, nameB x = true) : (dMinds ms).canLay0 = true ∧ (dMinds ms).depth ≤ 1 := by
  unfold dMinds
  simp only [PyData.canLay0, PyData.depth]
  refine ⟨lay_map fun x hx => ?_, ?_⟩
  · simp only [PyData.canLay0]
    show x.cps.all (· < 0x110000) = true
    rw [← Array.all_toList]
    exact List.all_eq_true.mpr fun c hc => decide_eq_true (by have := name_signs (h x hx) c hc; omega)
  have := depth_map (f := PyData.str) (c := 0) (l := ms) fun x _ => by simp only [PyData.depth]; exact Nat.le_refl 0
  omega
theorem shaped_of {d : PyData} (h : d.canLay0 = true ∧ d.depth ≤ 60) : SeqAt.shaped d = true := by
  show (d.canLay0 && decide (d.depth ≤ 64)) = true
  rw [h.1, decide_eq_true (by omega)]; rfl
abbrev sCIn : Stmt := inClass (top 26) 0
abbrev nCIn : List Str := ["self", "minds", "ways"]
abbrev pCIn : List Str := ["self", "minds", "ways"]
theorem scCIn : FnScope nCIn pCIn (defScope sCIn) := ⟨rfl, rfl, rfl, by decide +kernel, rfl, by decide +kernel, by decide +kernel⟩
abbrev sCLe : Stmt := inClass (top 26) 5
abbrev nCLe : List Str := ["self"]
abbrev pCLe : List Str := ["self"]
theorem scCLe : FnScope nCLe pCLe (defScope sCLe) := ⟨rfl, rfl, rfl, by decide +kernel, rfl, by decide +kernel, by decide +kernel⟩
abbrev sCSt : Stmt := inClass (top 26) 6
abbrev nCSt : List Str := ["self", "way"]
abbrev pCSt : List Str := ["self"]
theorem scCSt : FnScope nCSt pCSt (defScope sCSt) := ⟨rfl, rfl, rfl, by decide +kernel, rfl, by decide +kernel, by decide +kernel⟩
abbrev sCEq : Stmt := inClass (top 26) 7
abbrev nCEq : List Str := ["self", "other"]
abbrev pCEq : List Str := ["self", "other"]
theorem scCEq : FnScope nCEq pCEq (defScope sCEq) := ⟨rfl, rfl, rfl, by decide +kernel, rfl, by decide +kernel, by decide +kernel⟩
theorem kmw : ¬ (("_minds" : Str) = "_ways") := by decide +kernel
/-- a council's attributes, in the order in which they are stored -/
def cf (m w : V) : List (Str × V) := putF "_ways" w (putF "_minds" m [])
theorem cf_m (m w : V) : (cf m w).lookup ("_minds" : Str) = some m := by
  unfold cf
  rw [lookup_putF, if_neg kmw, lookup_putF, if_pos rfl]
theorem cf_w (m w : V) : (cf m w).lookup ("_ways" : Str) = some w := by
  unfold cf
  rw [lookup_putF, if_pos rfl]
theorem cf_no (m w : V) {n : Str} (h1 : ¬ n = "_ways") (h2 : ¬ n = "_minds") : (cf m w).lookup n = none := by
  unfold cf
  rw [lookup_putF, if_neg h1, lookup_putF, if_neg h2]
  all_goals rfl
/-- what the walk asks of the class -/
structure Cn (K : PySem.W.Frag) (mg : Str → Option Value) (C : Addr) : Prop where
  cl : Cls K C
  nM : NoAttr K C "_minds"
  nW : NoAttr K C "_ways"
  gC : mg "Council" = some (.ref C)
  c1 : PySem.W.findIn K (.ref C) "__class__" = some (some (.builtin "object.__class__"))
  c2 : PySem.W.specialIn K (.builtin "object.__class__") "__get__" = some (some (.builtin "getset_descriptor.__get__"))
  c3 : PySem.W.takesIn K (.builtin "object.__class__") = some true
  c5 : PySem.W.mroIn K C (.type "object") = some true
  c4 : PySem.W.kitOne K (.ref C) (.ref C) = some true
theorem Cn.g {K : PySem.W.Frag} {mg : Str → Option Value} {C : Addr} (c : Cn K mg C) : ∃ u, mg "Council" = some u ∧ RelV (.ref C) u := ⟨_, c.gC, rfl⟩
/-- a council stands at a -/
structure CouncilAt (C : Addr) (H : Hp) (a : Addr) (m wv : V) (ms : List Str) (ws : List (List (List Int))) : Prop where
  ob : ∃ dx, H a = some (.ins C dx (cf m wv))
  im : Im H m (dMinds ms)
  iw : Im H wv (dWays ws)
  mo : MindsOk ms
  wo : WaysOk ms.length ws
theorem CouncilAt.mono {C : Addr} {H H' : Hp} {a : Addr} {m wv : V} {ms : List Str} {ws : List (List (List Int))} (c : CouncilAt C H a m wv ms ws) (h : ∀ o, H a = some o → H' a = some o) (t : TupS H H') : CouncilAt C H' a m wv ms ws := by
  obtain ⟨⟨dx, h1⟩, h2, h3, h4, h5⟩ := c
  exact ⟨⟨dx, h _ h1⟩, Im.mono t _ _ h2, Im.mono t _ _ h3, h4, h5⟩
theorem CouncilAt.same {C : Addr} {H H' : Hp} {a : Addr} {m wv : V} {ms : List Str} {ws : List (List (List Int))} (c : CouncilAt C H a m wv ms ws) (s : Same H H') : CouncilAt C H' a m wv ms ws :=
  c.mono (fun o e => s a o e) (Same.tups s)
def spCIn (C : Addr) : Sp := fun vs H Q _ => ∃ (x dx : Addr) (m wv : V) (ms : List Str) (ws : List (List (List Int))), vs = [.ref x, m, wv] ∧ H x = some (.ins C dx []) ∧ Im H m (dMinds ms) ∧ Im H wv (dWays ws) ∧ MindsOk ms ∧ WaysOk ms.length ws ∧
  ∀ H', (∀ b o, b ≠ x → H b = some o → H' b = some o) → CouncilAt C H' x m wv ms ws → Q .non H'
def spCLe (C : Addr) : Sp := fun vs H Q _ => ∃ (a : Addr) (m wv : V) (ms : List Str) (ws : List (List (List Int))), vs = [.ref a] ∧ CouncilAt C H a m wv ms ws ∧ Q (.int ms.length) H
def spCEq (C : Addr) : Sp := fun vs H Q _ => ∃ (a : Addr) (m wv : V) (ms : List Str) (ws : List (List (List Int))) (b : Addr) (m' wv' : V) (ms' : List Str) (ws' : List (List (List Int))), vs = [.ref a, .ref b] ∧ CouncilAt C H a m wv ms ws ∧ CouncilAt C H b m' wv' ms' ws' ∧
  Q (.bl (decide (ms = ms') && decide (ws = ws'))) H
section
variable {P : Program} {w : World} {K : PySem.W.Frag} {mg : Str → Option Value} {base : Heap}
theorem ok_cin {f C : Addr} {fd : FuncData} (F : Fun K "__init__" "Council.__init__" sCIn f fd) (T : Bt mg) (U : Cn K mg C) (DM : DefX P w K mg base 3 "check_minds" pCMi spCMi) (DW : DefX P w K mg base 9 "check_ways" pCWa spCWa) : FnOk P w K mg base CX0 11 f fd pCIn (spCIn C) := by
  refine F.ok scCIn (fun vs H Q E h => ?_) (fun cdv A outer s H vs Q E hr h => ?_)
  · obtain ⟨x, dx, m, wv, ms, ws, rfl, _⟩ := h
    rfl
  · obtain ⟨x, dx, m, wv, ms, ws, rfl, hx, im, iw, mo, wo, k⟩ := h
    obtain ⟨a, xs, rfl, ha, hall⟩ := im.tuple
    have hys := hall.strs
    subst hys
    refine ⟨_, (pss_cons (ps_expr (pe_fn DM hr (by decide) (pa_cons (pv 1) pa_nil)))
      (pss_cons (ps_expr (pe_fn DW hr (by decide) (pa_cons (pv 2) (pa_cons (pe_callB (lenQ K) (by rfl) T.len (by decide +kernel) (pa_cons (pv 1) pa_nil)) pa_nil))))
      (pss_cons (ps_fld (pv 0) (pv 1) rfl)
      (pss_one (ps_fld (pv 0) (pv 2) rfl))))), ?_⟩
    refine ⟨_, rfl, _, ms, rfl, im, mo, fun H1 s1 => ?_⟩
    refine ⟨_, rfl, _, rfl, a, _, rfl, .inr (SqT.of (s1 _ _ ha)), wv, ms.length, ws, by rw [List.length_map]; rfl, Im.mono (Same.tups s1) _ _ iw, wo, fun H2 s2 => ?_⟩
    have s3 := s1.trans s2
    have h3 := s3 _ _ hx
    refine ⟨_, rfl, _, rfl, x, C, dx, [], rfl, h3, U.cl, U.nM, (by show 0 < 1000; decide), _, rfl, _, rfl, x, C, dx, _, rfl, upd_same, U.cl, U.nW, (by show 1 < 1000; decide), ?_⟩
    have nt : TupS H2 (upd (upd H2 x (.ins C dx (putF "_minds" (.ref a) []))) x (.ins C dx (cf (.ref a) wv))) := fun b ys e => by
      have nb : b ≠ x := ne_of e h3 (by intro z; cases z)
      rw [upd_ne nb, upd_ne nb]; exact e
    refine k _ (fun b o nb e => by rw [upd_ne nb, upd_ne nb]; exact s3 b o e) ⟨⟨dx, upd_same⟩, ?_, ?_, mo, wo⟩
    · exact Im.mono nt _ _ (Im.mono (Same.tups s3) _ _ im)
    · exact Im.mono nt _ _ (Im.mono (Same.tups s3) _ _ iw)
theorem ok_cle {f C : Addr} {fd : FuncData} (F : Fun K "__len__" "Council.__len__" sCLe f fd) (T : Bt mg) (U : Cn K mg C) : FnOk P w K mg base CX0 1 f fd pCLe (spCLe C) := by
  refine F.ok scCLe (fun vs H Q E h => ?_) (fun cdv A outer s H vs Q E hr h => ?_)
  · obtain ⟨a, m, wv, ms, ws, rfl, _⟩ := h
    rfl
  · obtain ⟨a, m, wv, ms, ws, rfl, c, k⟩ := h
    obtain ⟨⟨dx, h1⟩, h2, h3, h4, h5⟩ := c
    obtain ⟨b, xs, rfl, hb, hall⟩ := h2.tuple
    have hys := hall.strs
    subst hys
    refine ⟨_, (pss_one (ps_ret (pe_callB (lenQ K) (by rfl) T.len (by decide +kernel) (pa_cons (pe_fld (pv 0) rfl) pa_nil)))), ?_⟩
    refine ⟨_, rfl, a, C, dx, _, _, rfl, h1, U.cl, U.nM, cf_m _ _, b, _, rfl, .inr (SqT.of hb), ?_⟩
    rw [List.length_map]
    exact k
theorem ok_ceq {f C : Addr} {fd : FuncData} (F : Fun K "__eq__" "Council.__eq__" sCEq f fd) (T : Bt mg) (U : Cn K mg C) : FnOk P w K mg base CX0 1 f fd pCEq (spCEq C) := by
  refine F.ok scCEq (fun vs H Q E h => ?_) (fun cdv A outer s H vs Q E hr h => ?_)
  · obtain ⟨a, m, wv, ms, ws, b, m', wv', ms', ws', rfl, _⟩ := h
    rfl
  · obtain ⟨a, m, wv, ms, ws, b, m', wv', ms', ws', rfl, c, c', k⟩ := h
    obtain ⟨⟨dx, h1⟩, h2, h3, h4, h5⟩ := c
    obtain ⟨⟨dx', h1'⟩, h2', h3', h4', h5'⟩ := c'
    refine ⟨_, (pss_one (ps_ret (pe_and (pe_callB (isiQ K) (by rfl) T.isinstance (by decide +kernel) (pa_cons (pv 1) (pa_cons (pe_globE U.g) pa_nil))) (pe_and (pe_cmpR (eqD K hr.units) (pe_fld (pv 0) rfl) (pe_fld (pv 1) rfl) (nomark _)) (pe_one (pe_cmpR (eqD K hr.units) (pe_fld (pv 0) rfl) (pe_fld (pv 1) rfl) (nomark _))))))), ?_⟩
    refine ⟨_, rfl, _, _, _, _, true, rfl, .own C, .base (.ins h1' U.cl U.c1 U.c2 U.c3 U.c5), U.c4, _, rfl, iteT ?_⟩
    refine ⟨_, rfl, a, C, dx, _, _, rfl, h1, U.cl, U.nM, cf_m _ _, _, rfl, b, C, dx', _, _, rfl, h1', U.cl, U.nM, cf_m _ _, dMinds ms, dMinds ms', Im.dp _ _ h2, Im.dp _ _ h2', ?_, ?_, _, rfl, ?_⟩
    · exact shaped_of ⟨(dMinds_lay fun x hx => (h4.nm x hx).1).1, Nat.le_trans (dMinds_lay fun x hx => (h4.nm x hx).1).2 (by decide)⟩
    · exact shaped_of ⟨(dMinds_lay fun x hx => (h4'.nm x hx).1).1, Nat.le_trans (dMinds_lay fun x hx => (h4'.nm x hx).1).2 (by decide)⟩
    rw [eqv_minds]
    refine ite2 (fun he => ?_) (fun he => ?_)
    · rw [he, Bool.true_and] at k
      refine ⟨_, rfl, a, C, dx, _, _, rfl, h1, U.cl, U.nW, cf_w _ _, _, rfl, b, C, dx', _, _, rfl, h1', U.cl, U.nW, cf_w _ _, dWays ws, dWays ws', Im.dp _ _ h3, Im.dp _ _ h3', ?_, ?_, ?_⟩
      · exact shaped_of ⟨(dWays_lay ws).1, Nat.le_trans (dWays_lay ws).2 (by decide)⟩
      · exact shaped_of ⟨(dWays_lay ws').1, Nat.le_trans (dWays_lay ws').2 (by decide)⟩
      rw [eqv_ways]
      exact k
    · rw [Bool.eq_false_iff.mpr he, Bool.false_and] at k
      exact k
def mindsT (ms : List Str) : Str := Txt.join " " ms
def councilT (ms : List Str) (ws : List (List (List Int))) : Str := Txt.join "\n" (mindsT ms :: ws.map wayT)
theorem minds_len {ms : List Str} (h : MindsOk ms) : (mindsT ms).length ≤ 54 := by
  have := join_len (sep := " ") (ys := ms) (c := 8) fun y hy => (h.nm y hy).2
  have e : ((" " : Str)).length = 1 := rfl
  rw [e] at this
  exact Nat.le_trans this (Nat.mul_le_mul_right 9 h.m6)
theorem lines_le {ms : List Str} {ws : List (List (List Int))} (h : MindsOk ms) (g : WaysOk ms.length ws) : ∀ y ∈ mindsT ms :: ws.map wayT, y.length ≤ 402 := by
  intro y hy
  rcases List.mem_cons.mp hy with q | q
  · rw [q]
    exact Nat.le_trans (minds_len h) (by decide)
  · obtain ⟨w, hw, rfl⟩ := List.mem_map.mp q
    exact way_len (g.way w hw) g.n6
def spCSt (C : Addr) : Sp := fun vs H Q _ => ∃ (a : Addr) (m wv : V) (ms : List Str) (ws : List (List (List Int))), vs = [.ref a] ∧ CouncilAt C H a m wv ms ws ∧ ∀ H', Same H H' → Q (.str (councilT ms ws)) H'
theorem ok_cst {f C : Addr} {fd : FuncData} (F : Fun K "__str__" "Council.__str__" sCSt f fd) (T : Bt mg) (U : Cn K mg C) (DT : DefX P w K mg base 1 "way_text" pWT spWT) : FnOk P w K mg base CX0 3 f fd pCSt (spCSt C) := by
  refine F.ok scCSt (fun vs H Q E h => ?_) (fun cdv A outer s H vs Q E hr h => ?_)
  · obtain ⟨a, m, wv, ms, ws, rfl, _⟩ := h
    rfl
  · obtain ⟨a, m, wv, ms, ws, rfl, c, k⟩ := h
    obtain ⟨⟨dx, h1⟩, h2, h3, h4, h5⟩ := c
    obtain ⟨b, xs, rfl, hb, hall⟩ := h2.tuple
    have hys := hall.strs
    subst hys
    obtain ⟨b2, xs2, rfl, hb2, hall2⟩ := h3.tuple
    have hxl : xs2.length = ws.length := by rw [hall2.length, List.length_map]
    have w6 := h5.w6
    refine ⟨_, (pss_one (ps_ret (pjoin K pe_str (pa_cons (pe_op op_cat (pe_lst (pa_cons (pjoin K pe_str (pa_cons (pe_fld (pv 0) rfl) pa_nil)) pa_nil)) (pe_lc (own := [("way", 1)]) (g := gName 1) (tt := tYes) rfl scCSt.nd (piT K (pe_fld (pv 0) rfl)) (blkOk_by (own := [("way", 1)]) (N := nCSt) (sc := defScope sCSt) (by decide +kernel)) (fun _ _ _ _ _ => (pg_name (i := 1) scCSt.nd rfl (Or.inl rfl))) (fun _ _ _ _ _ => pts_nil)
          (fun _ _ _ _ _ => (pe_fn DT hr (by decide) (pa_cons (pv 1) pa_nil))))) pa_nil)))), ?_⟩
    refine ⟨rfl, rfl, _, rfl, a, C, dx, _, _, rfl, h1, U.cl, U.nM, cf_m _ _, " ", b, ms, rfl, rfl, .inr (SqT.of hb), ?_, ?_⟩
    · have q := sum_le (f := fun y : Str => y.length) (l := ms) (c := 8) fun y hy => (h4.nm y hy).2
      have e : ((" " : Str)).length = 1 := rfl
      have := h4.m6
      rw [e]
      omega
    refine ⟨by show 1 ≤ sizeLine; decide, fun l1 n1 => ?_⟩
    have s1 : Same H (upd H l1 (.lst [.str (Txt.join " " ms)])) := same_upd n1
    refine ⟨_, rfl, a, C, dx, _, _, rfl, s1 _ _ h1, U.cl, U.nW, cf_w _ _, b2, rfl, ⟨_, SqT.of (s1 _ _ hb2)⟩, fun D hD => ?_⟩
    refine lc_it (walk_tup (K := K) (a := b2) (xs := xs2)) (PvS (upd H l1 (.lst [.str (Txt.join " " ms)])) D ((ws.map wayT).map V.str)) (pvs0 hD) (fun i H1 _ h => SqT.of (h.1 _ _ (s1 _ _ hb2))) ?_ (fun H1 h => ?_)
    · rintro i x _ H1 hi h ⟨rfl, hx⟩
      obtain ⟨d, hd, imx⟩ := hall2.get hx
      rw [List.getElem?_map] at hd
      cases hz : ws[i]? with
      | none => rw [hz] at hd; cases hd
      | some r =>
        rw [hz] at hd
        cases hd
        refine ⟨rfl, turnY ?_⟩
        refine ⟨_, rfl, x, ms.length, r, rfl, Im.mono (Same.tups (s1.trans h.1)) _ _ imx, h5.way r (List.mem_of_getElem? hz), h5.n6, fun H2 s2 => ?_⟩
        exact pvs1 hD h s2 (by rw [List.length_map, List.length_map]; omega) (by rw [List.getElem?_map, List.getElem?_map, hz]; rfl)
    obtain ⟨s2, hl2⟩ := pvsE h (by rw [List.length_map, List.length_map, hxl])
    refine ⟨l1, D, _, _, rfl, rfl, s2 _ _ upd_same, hl2, ?_, fun l3 n3 => ?_⟩
    · rw [List.length_map, List.length_map]
      exact Nat.le_trans (by show 1 + ws.length ≤ 7; omega) (by decide : 7 ≤ sizeLine)
    have e : [V.str (Txt.join " " ms)] ++ (ws.map wayT).map V.str = (mindsT ms :: ws.map wayT).map V.str := rfl
    rw [e]
    refine ⟨"\n", l3, mindsT ms :: ws.map wayT, rfl, rfl, .inl (SqL.of upd_same), ?_, k _ ((s1.trans s2).trans (same_upd n3))⟩
    have q := sum_le (f := fun y : Str => y.length) (lines_le h4 h5)
    have e2 : (("\n" : Str)).length = 1 := rfl
    rw [List.length_cons, List.length_map] at q ⊢
    rw [e2]
    omega
end
end M

namespace M
open PySem L2 U
abbrev sCRd : Stmt := inClass (top 26) 1
abbrev nCRd : List Str := ["cls", "text", "lines", "minds", "ways", "line"]
abbrev pCRd : List Str := ["cls", "text"]
theorem scCRd : FnScope nCRd pCRd (defScope sCRd) := ⟨rfl, rfl, rfl, by decide +kernel, rfl, by decide +kernel, by decide +kernel⟩
/-! ### the text of a council, taken apart -/
theorem joinL_signs {S : List Nat} {p : Nat → Prop} (hS : ∀ c ∈ S, p c) : ∀ ps : List (List Nat), (∀ q ∈ ps, ∀ c ∈ q, p c) → ∀ c ∈ TL.joinL S ps, p c := by
  intro ps
  induction ps with
  | nil => intro _ c h; cases h
  | cons q ps ih =>
    intro h c hc
    cases ps with
    | nil => exact h q List.mem_cons_self c hc
    | cons r rs =>
      have hc : c ∈ q ++ (S ++ TL.joinL S (r :: rs)) := hc
      rcases List.mem_append.mp hc with z | z
      · exact h q List.mem_cons_self c z
      · rcases List.mem_append.mp z with z | z
        · exact hS c z
        · exact ih (fun p' hp' => h p' (List.mem_cons_of_mem _ hp')) c z
theorem join_signs {sep : Str} {p : Nat → Prop} (hS : ∀ c ∈ sep.cps.toList, p c) {ys : List Str} (h : ∀ y ∈ ys, ∀ c ∈ y.cps.toList, p c) : ∀ c ∈ (Txt.join sep ys).cps.toList, p c := by
  intro c hc
  rw [TL.join_eq] at hc
  have hc' : c ∈ TL.tl (Str.join sep ys) := hc
  rw [TL.tl_join] at hc'
  refine joinL_signs (S := TL.tl sep) hS _ (fun q hq => ?_) c hc'
  obtain ⟨y, hy, rfl⟩ := List.mem_map.mp hq
  exact h y hy
theorem minds_signs {ms : List Str} (h : MindsOk ms) : ∀ c ∈ (mindsT ms).cps.toList, 32 ≤ c :=
  join_signs (p := fun c => 32 ≤ c) (by decide +kernel) fun y hy c hc => by have := name_signs (h.nm y hy).1 c hc; omega
theorem wayT_signs {n : Nat} {w : List (List Int)} (h : WayOk n w) : ∀ c ∈ (wayT w).cps.toList, 32 ≤ c :=
  join_signs (p := fun c => 32 ≤ c) (by decide +kernel) fun y hy c hc => by
    obtain ⟨r, hr, rfl⟩ := List.mem_map.mp hy
    have := row_signs (h.2 r hr) c hc
    omega
theorem council_split {ms : List Str} {ws : List (List (List Int))} (h : MindsOk ms) (g : WaysOk ms.length ws) : Txt.split (councilT ms ws) "\n" = mindsT ms :: ws.map wayT := by
  refine TL.split_join (s := 10) (S := []) rfl (by decide +kernel) (fun e => nomatch e) fun p hp z => ?_
  rcases List.mem_cons.mp hp with q | q
  · rw [q] at z
    have := minds_signs h 10 z
    omega
  · obtain ⟨w, hw, rfl⟩ := List.mem_map.mp q
    have := wayT_signs (g.way w hw) 10 z
    omega
theorem minds_split {ms : List Str} (h : MindsOk ms) : Txt.split (mindsT ms) " " = ms := by
  refine TL.split_join (s := 32) (S := []) rfl (by decide +kernel) (fun e => ?_) fun p hp z => ?_
  · have := h.m1
    rw [e] at this
    exact absurd this (by decide)
  · have := name_signs (h.nm p hp).1 32 z
    omega
theorem council_len {ms : List Str} {ws : List (List (List Int))} (h : MindsOk ms) (g : WaysOk ms.length ws) : (councilT ms ws).length ≤ 2821 := by
  show (Txt.join "\n" (mindsT ms :: ws.map wayT)).length ≤ 2821
  have := join_len (sep := "\n") (lines_le h g)
  have e : (("\n" : Str)).length = 1 := rfl
  rw [e, List.length_cons, List.length_map] at this
  have w6 := g.w6
  omega
def spCRd (C : Addr) : Sp := fun vs H Q _ => ∃ (ms : List Str) (ws : List (List (List Int))), vs = [.ref C, .str (councilT ms ws)] ∧ MindsOk ms ∧ WaysOk ms.length ws ∧
  ∀ (H' : Hp) (a : Addr) (m wv : V), Same H H' → H a = none → CouncilAt C H' a m wv ms ws → Q (.ref a) H'
section
variable {P : Program} {w : World} {K : PySem.W.Frag} {mg : Str → Option Value} {base : Heap}
theorem ok_crd {f fI C : Addr} {fd fdI : FuncData} (F : Fun K "read" "Council.read" sCRd f fd) (T : Bt mg) (MK : Mk K C fI) (FI : FnOk P w K mg base CX0 11 fI fdI pCIn (spCIn C)) (bI : Binds K fdI pCIn []) (DR : DefX P w K mg base 3 "read_way" pRWy spRWy) : FnOk P w K mg base CX0 13 f fd pCRd (spCRd C) := by
  refine F.ok scCRd (fun vs H Q E h => ?_) (fun cdv A outer s H vs Q E hr h => ?_)
  · obtain ⟨ms, ws, rfl, _⟩ := h
    rfl
  · obtain ⟨ms, ws, rfl, mo, wo, k⟩ := h
    refine ⟨_, (pss_cons (ps_if (pt_not (pt_val (pe_callB (isiQ K) (by rfl) T.isinstance (by decide +kernel) (pa_cons (pv 1) (pa_cons (pe_bltn (v := .ty "str") (u := .type "str") (by rfl) T.str (by decide +kernel) rfl) pa_nil)))))
        (pss_one ps_never) pss_nil)
      (pss_cons (ps_set (i := 2) scCRd.nd rfl (Or.inl rfl) (pbm K PySem.F.plainAttrs_str PySem.F.slot_str_split PySem.F.type_str_split mt_split (pv 1) (pa_cons pe_str pa_nil)))
      (pss_cons (ps_set (i := 3) scCRd.nd rfl (Or.inl rfl) (pe_callTy (tupO K) (by rfl) T.tuple (by decide +kernel) (pa_cons (pbm K PySem.F.plainAttrs_str PySem.F.slot_str_split PySem.F.type_str_split mt_split (pe_ix (ixL K) (pv 2) pe_int (fun _ _ => rfl)) (pa_cons pe_str pa_nil)) pa_nil)))
      (pss_cons (ps_set (i := 4) scCRd.nd rfl (Or.inl rfl) (pe_callTy (tupO K) (by rfl) T.tuple (by decide +kernel) (pa_cons (pe_lc (own := [("line", 5)]) (g := gName 5) (tt := tYes) rfl scCRd.nd (piL K (pe_slice (slL K) (pv 2) (po_some pe_int) po_none)) (blkOk_by (own := [("line", 5)]) (N := nCRd) (sc := defScope sCRd) (by decide +kernel)) (fun _ _ _ _ _ => (pg_name (i := 5) scCRd.nd rfl (Or.inl rfl))) (fun _ _ _ _ _ => pts_nil)
          (fun _ _ _ _ _ => (pe_fn DR hr (by decide) (pa_cons (pv 5) pa_nil)))) pa_nil)))
      (pss_one (ps_try_thru0 (pss_one (ps_ret (pe_makeL (i := 0) MK FI hr (by decide) bI (pa_cons (pv 3) (pa_cons (pv 4) pa_nil))))))))))), ?_⟩
    have cl := council_len mo wo
    have ml := minds_len mo
    refine ⟨_, rfl, _, _, _, _, true, rfl, .ty _, .base (.str _), kit_ty (by decide +kernel), _, rfl, iteF ?_⟩
    refine ⟨_, rfl, rfl, _, _, rfl, rfl, rfl, Nat.le_trans (Nat.add_le_add_right cl 2) (by decide), fun L hL => ?_⟩
    rw [council_split mo wo]
    have e1 : (mindsT ms :: ws.map wayT).map V.str = .str (mindsT ms) :: (ws.map wayT).map V.str := rfl
    rw [e1]
    refine ⟨_, rfl, L, _, _, .str (mindsT ms), rfl, rfl, SqL.of upd_same, atI_nat (j := 0) rfl, rfl, _, _, rfl, rfl, rfl, Nat.le_trans (Nat.add_le_add_right ml 2) (by decide), fun L2 hL2 => ?_⟩
    rw [minds_split mo]
    refine ⟨L2, _, rfl, .inl ⟨SqL.of upd_same, fun pm npm => ?_⟩⟩
    have s1 : Same H (upd H L (.lst (.str (mindsT ms) :: (ws.map wayT).map V.str))) := same_upd hL
    have s2 := s1.trans (same_upd hL2 (o := .lst (ms.map V.str)))
    have s3 := s2.trans (same_upd npm (o := .tup (ms.map V.str)))
    have hL3 : upd (upd (upd H L (.lst (.str (mindsT ms) :: (ws.map wayT).map V.str))) L2 (.lst (ms.map V.str))) pm (.tup (ms.map V.str)) L = some (.lst (.str (mindsT ms) :: (ws.map wayT).map V.str)) :=
      same_upd npm _ _ (same_upd hL2 _ _ upd_same)
    refine ⟨_, rfl, _, rfl, L, _, rfl, SqL.of hL3, fun S hS => ?_⟩
    have e2 : cutV (V.str (mindsT ms) :: (ws.map wayT).map V.str) (some 1) none = (ws.map wayT).map V.str := by
      have q1 : HT.sIx (V.str (mindsT ms) :: (ws.map wayT).map V.str).length 0 (some 1) = 1 := by
        refine (HT.sIx_nat _ _ 1).trans ?_
        rw [List.length_cons]
        omega
      unfold cutV
      rw [q1, HT.sIx_none, List.drop_succ_cons, List.drop_zero, List.length_cons, Nat.add_sub_cancel]
      exact List.take_length
    rw [e2]
    have s4 := s3.trans (same_upd hS (o := .lst ((ws.map wayT).map V.str)))
    have hpm := same_upd hS (o := .lst ((ws.map wayT).map V.str)) _ _ (upd_same (a := pm) (o := .tup (ms.map V.str)) (H := upd (upd H L (.lst (.str (mindsT ms) :: (ws.map wayT).map V.str))) L2 (.lst (ms.map V.str))))
    generalize hG : upd (upd (upd (upd H L (.lst (.str (mindsT ms) :: (ws.map wayT).map V.str))) L2 (.lst (ms.map V.str))) pm (.tup (ms.map V.str))) S (.lst ((ws.map wayT).map V.str)) = G at s4 hpm ⊢
    have hGS : G S = some (.lst ((ws.map wayT).map V.str)) := by rw [← hG]; exact upd_same
    refine ⟨S, rfl, ⟨_, SqL.of hGS⟩, fun D hD => ?_⟩
    have w6 := wo.w6
    refine lc_it (walk_list (K := K) (a := S) (xs := (ws.map wayT).map V.str)) (fun i H1 => ∃ vs : List V, H1 D = some (.lst vs) ∧ ImAll H1 vs ((ws.take i).map dWay) ∧ Same G H1)
      ⟨[], upd_same, .nil, same_upd hD⟩ (fun i H1 _ h => by obtain ⟨_, _, _, h4⟩ := h; exact SqL.of (h4 _ _ hGS)) ?_ (fun H1 h => ?_)
    · rintro i x _ H1 hi ⟨vs, hv, hA, s5⟩ ⟨rfl, hx⟩
      rw [List.getElem?_map, List.getElem?_map] at hx
      cases hz : ws[i]? with
      | none => rw [hz] at hx; cases hx
      | some r =>
        rw [hz] at hx
        cases hx
        refine ⟨rfl, turnY ?_⟩
        refine ⟨_, rfl, ms.length, r, rfl, wo.way r (List.mem_of_getElem? hz), mo.m1, wo.n6, fun H2 p s6 np ip => ?_⟩
        have s7 := s5.trans s6
        refine ⟨vs, s6 D _ hv, small1000 (by rw [hA.length, List.length_map, List.length_take]; omega), vs ++ [.ref p], upd_same, ?_, fun b o e => ?_⟩
        · rw [List.take_succ, hz, List.map_append]
          exact ImAll.mono (TupS.lst (s6 D _ hv)) _ _ (ImAll.snoc ip (ImAll.mono (Same.tups s6) _ _ hA))
        · rw [upd_ne (ne_of_none e hD)]
          exact s7 b o e
    · obtain ⟨vs, hv, hA, s5⟩ := h
      rw [List.length_map, List.length_map, List.take_length] at hA
      refine ⟨D, vs, rfl, .inl ⟨SqL.of hv, fun pw npw => ?_⟩⟩
      have s6 := s5.trans (same_upd npw (o := .tup vs))
      refine ⟨rfl, _, rfl, _, rfl, fun x dx nx ndx hne => ?_⟩
      have n1 : Same (upd H1 pw (.tup vs)) (upd (upd H1 pw (.tup vs)) dx (.own x)) := same_upd ndx
      have nx2 : upd (upd H1 pw (.tup vs)) dx (.own x) x = none := by rw [upd_ne (fun e => hne e.symm)]; exact nx
      have n2 := n1.trans (same_upd nx2 (o := .ins C dx []))
      have sF := (s4.trans s6).trans n2
      refine ⟨x, dx, _, _, ms, ws, rfl, upd_same, ?_, ?_, mo, wo, fun H' bt c => ⟨rfl, k H' x _ _ ?_ ?_ c⟩⟩
      · exact .tup (n2 _ _ (s6 _ _ hpm)) (imStrs ms)
      · exact .tup (n2 _ _ upd_same) (ImAll.mono (Same.tups n2) _ _ (ImAll.mono (TupS.new npw) _ _ hA))
      · exact fun b o e => bt b o (fun z => by rw [z] at e; exact absurd ((s4.trans s6) _ _ e) (by rw [nx]; exact fun z => nomatch z)) (sF b o e)
      · exact (s4.trans s6).free nx
end
end M

namespace M
open PySem L2 U
abbrev sPage : Stmt := top 33
abbrev nPage : List Str := ["_law_heads_here", "_law_talks", "_law_rows_here", "_law_talk_here", "_law_one", "_law_row_here"]
abbrev pPage : List Str := ["_law_heads_here", "_law_talks"]
theorem scPage : FnScope nPage pPage (defScope sPage) := ⟨rfl, rfl, rfl, by decide +kernel, rfl, by decide +kernel, by decide +kernel⟩
abbrev sQuiet : Stmt := top 36
abbrev nQuiet : List Str := ["_law_jug_here", "_law_is_right"]
abbrev pQuiet : List Str := ["_law_jug_here"]
theorem scQuiet : FnScope nQuiet pQuiet (defScope sQuiet) := ⟨rfl, rfl, rfl, by decide +kernel, rfl, by decide +kernel, by decide +kernel⟩
abbrev sLaw : Stmt := top 37
abbrev nLaw : List Str := ["_law_script", "_law_at"]
abbrev pLaw : List Str := ["_law_script"]
theorem scLaw : FnScope nLaw pLaw (defScope sLaw) := ⟨rfl, rfl, rfl, by decide +kernel, rfl, by decide +kernel, by decide +kernel⟩
/-! ### what is drawn are minds and ways -/
theorem pool_ok : ∀ x ∈ pool8, nameB x = true ∧ x.length ≤ 8 := by decide +kernel
theorem drawn_minds {ms : List Str} {ws : List (List (List Int))} (d : Drawn ms ws) : MindsOk ms := ⟨d.m1, d.m6, d.nd, fun x hx => pool_ok x (d.pool x hx)⟩
theorem drawn_ways {ms : List Str} {ws : List (List (List Int))} (d : Drawn ms ws) : WaysOk ms.length ws := ⟨d.w1, Nat.le_trans d.w4 (by decide), d.m6, d.way⟩
/-! ### how much of them is shown -/
theorem sh_minds {ms : List Str} (h : MindsOk ms) : Sh (dMinds ms) 54 1 := by
  refine (Sh.tup (ShA.map (c := 8) (n := 0) (f := PyData.str) (l := ms) fun x hx => Sh.str (fun c hc => ?_) (h.nm x hx).2)).mono ?_ (Nat.le_refl _)
  · exact (name_signs (h.nm x hx).1 c hc).2
  · have := h.m6
    omega
theorem sh_row {n : Nat} {r : List Int} (h : RowOk n r) (hn : n ≤ 6) : Sh (dRow r) 6 1 := by
  refine (Sh.tup (ShA.map (c := 0) (n := 0) (f := PyData.int) (l := r) fun x hx => Sh.int ?_)).mono ?_ (Nat.le_refl _)
  · have := h.2.1 x hx
    have e : (10 : Nat) ^ 12 = 1000000000000 := by decide
    omega
  · have := h.1
    omega
theorem sh_way {n : Nat} {w : List (List Int)} (h : WayOk n w) (hn : n ≤ 6) : Sh (dWay w) 42 2 := by
  refine (Sh.tup (ShA.map (c := 6) (n := 1) (f := dRow) (l := w) fun x hx => sh_row (h.2 x hx) hn)).mono ?_ (Nat.le_refl _)
  have := h.1
  omega
theorem sh_ways {n : Nat} {ws : List (List (List Int))} (h : WaysOk n ws) : Sh (dWays ws) 258 3 := by
  refine (Sh.tup (ShA.map (c := 42) (n := 2) (f := dWay) (l := ws) fun x hx => sh_way (h.way x hx) h.n6)).mono ?_ (Nat.le_refl _)
  have := h.w6
  omega
theorem council_signs {ms : List Str} {ws : List (List (List Int))} (h : MindsOk ms) (g : WaysOk ms.length ws) : ∀ c ∈ (councilT ms ws).cps.toList, c < 128 := by
  refine join_signs (p := fun c => c < 128) (by decide +kernel) fun y hy c hc => ?_
  rcases List.mem_cons.mp hy with q | q
  · rw [q] at hc
    exact join_signs (p := fun c => c < 128) (by decide +kernel) (fun z hz c hc => (name_signs (h.nm z hz).1 c hc).2) c hc
  · obtain ⟨w, hw, rfl⟩ := List.mem_map.mp q
    exact join_signs (p := fun c => c < 128) (by decide +kernel) (fun z hz c hc => by
      obtain ⟨r, hr, rfl⟩ := List.mem_map.mp hz
      have := row_signs ((g.way w hw).2 r hr) c hc
      omega) c hc
def spPage : Sp := fun vs H Q _ => ∃ (m wv : V) (ms : List Str) (ws : List (List (List Int))), vs = [m, wv] ∧ Im H m (dMinds ms) ∧ Im H wv (dWays ws) ∧ MindsOk ms ∧ WaysOk ms.length ws ∧ ∀ H', Same H H' → Q (.str (councilT ms ws)) H'
def spRight : Sp := fun vs H Q _ => ∃ (j : Addr), vs = [.ref j] ∧ JugAt H j ∧ ∀ H', But j H H' → Q (.bl true) H'
def spLaw (K : PySem.W.Frag) : Sp := fun vs H Q _ => ∃ (a : Addr) (ns : List Int), vs = [.ref a] ∧ SqL K H a (ns.map V.int) ∧ ns.length ≤ 63 ∧ ∀ H', Q (.bl true) H'
def kwL (us ws : List Value) : List Value := us ++ ws.reverse
def kwV (us ws : List V) : List V := us ++ ws.reverse
def kcL (us ws : List Value) : List Value := us ++ ws
def kcV (us ws : List V) : List V := us ++ ws
/-- the class Council and what is asked of it -/
structure Kn (P : Program) (w : World) (K : PySem.W.Frag) (mg : Str → Option Value) (base : Heap) (C : Addr) : Prop where
  cn : Cn K mg C
  mk_ : MkN P w K mg base "Council" C 11 pCIn (spCIn C) ["ways", "minds"] kwL kwV
  rd : CmN P w K mg base C "read" 13 pCRd (spCRd C) ["text"] kcL kcV
  gM : GetN P w K mg base C "minds" 1 (getSp C "_minds")
  gW : GetN P w K mg base C "ways" 1 (getSp C "_ways")
  le : SpN P w K mg base C "__len__" 1 (spCLe C)
  st : SpN P w K mg base C "__str__" 3 (spCSt C)
  eq : SpN P w K mg base C "__eq__" 1 (spCEq C)
  ne : PySem.W.findIn K (.ref C) "__ne__" = some (some (.builtin "object.__ne__"))
  bo : PySem.W.findIn K (.ref C) "__bool__" = some none
section
variable {P : Program} {w : World} {K : PySem.W.Frag} {mg : Str → Option Value} {base : Heap}
theorem ok_page {f : Addr} {fd : FuncData} (F : Fun K "_law_page" "_law_page" sPage f fd) (T : Bt mg) : FnOk P w K mg base CX0 1 f fd pPage spPage := by
  refine F.ok scPage (fun vs H Q E h => ?_) (fun cdv A outer s H vs Q E hr h => ?_)
  · obtain ⟨m, wv, ms, ws, rfl, _⟩ := h
    rfl
  · obtain ⟨m, wv, ms, ws, rfl, im, iw, mo, wo, k⟩ := h
    refine ⟨_, (pss_cons (ps_set (i := 2) scPage.nd rfl (Or.inl rfl) (pe_lst (pa_cons (pjoin K pe_str (pa_cons (pv 0) pa_nil)) pa_nil)))
      (pss_cons (ps_for PassesOwn.never rfl (piT K (pv 1)) (pg_name (i := 3) scPage.nd rfl (Or.inl rfl))
        (pss_one (ps_expr (pbm K PySem.F.plainAttrs_list PySem.F.slot_list_append PySem.F.type_list_append mt_append (pv 2) (pa_cons (pjoin K pe_str (pa_cons (pe_lc (own := [("_law_row_here", 5)]) (g := gName 5) (tt := tYes) rfl scPage.nd (piT K (pv 3)) (blkOk_by (own := [("_law_row_here", 5)]) (N := nPage) (sc := defScope sPage) (by decide +kernel)) (fun _ _ _ _ _ => (pg_name (i := 5) scPage.nd rfl (Or.inl rfl))) (fun _ _ _ _ _ => pts_nil)
          (fun _ _ _ _ _ => (pjoin K pe_str (pa_cons (pe_lc (own := [("_law_one", 4)]) (g := gName 4) (tt := tYes) rfl scPage.nd (piT K (pv 5)) (blkOk_by (own := [("_law_one", 4)]) (N := nPage) (sc := _) (by kernel_rfl)) (fun _ _ _ _ _ => (pg_name (i := 4) scPage.nd rfl (Or.inl rfl))) (fun _ _ _ _ _ => pts_nil)
          (fun _ _ _ _ _ => (pe_callTy call_str_int (by rfl) T.str (by decide +kernel) (pa_cons (pv 4) pa_nil)))) pa_nil)))) pa_nil)) pa_nil)))))
      (pss_one (ps_ret (pjoin K pe_str (pa_cons (pv 2) pa_nil)))))), ?_⟩
    obtain ⟨b, xs, rfl, hb, hall⟩ := im.tuple
    have hys := hall.strs
    subst hys
    obtain ⟨b2, xs2, rfl, hb2, hall2⟩ := iw.tuple
    have hxl : xs2.length = ws.length := by rw [hall2.length, List.length_map]
    have w6 := wo.w6
    refine ⟨rfl, _, rfl, " ", b, ms, rfl, rfl, .inr (SqT.of hb), ?_, ?_⟩
    · have q := sum_le (f := fun y : Str => y.length) (l := ms) (c := 8) fun y hy => (mo.nm y hy).2
      have e : ((" " : Str)).length = 1 := rfl
      have := mo.m6
      rw [e]
      omega
    refine ⟨by show 1 ≤ sizeLine; decide, fun l1 n1 => ?_⟩
    have s1 : Same H (upd H l1 (.lst [.str (Txt.join " " ms)])) := same_upd n1
    refine ⟨_, rfl, b2, rfl, ⟨_, SqT.of (s1 _ _ hb2)⟩, for_tup (K := K) (a := b2) (xs := xs2) (fun i σ H1 => ∃ v : Option V, σ = [some (.ref b), some (.ref b2), some (.ref l1), v, none, none] ∧ Same H H1 ∧ H1 l1 = some (.lst ((mindsT ms :: (ws.take i).map wayT).map V.str)))
      ⟨none, rfl, s1, upd_same⟩ (fun i σ H1 _ ⟨_, _, s2, _⟩ => SqT.of (s2 _ _ hb2)) ?_ ?_⟩
    · rintro i x σ H1 hx ⟨v, rfl, s2, h1⟩
      obtain ⟨d, hd, imx⟩ := hall2.get hx
      rw [List.getElem?_map] at hd
      cases hz : ws[i]? with
      | none => rw [hz] at hd; cases hd
      | some r =>
        rw [hz] at hd
        cases hd
        have hi : i < ws.length := (List.getElem?_eq_some_iff.mp hz).1
        have ok := wo.way r (List.mem_of_getElem? hz)
        have n6 := wo.n6
        have hwl : r.length = ms.length := ok.1
        obtain ⟨a3, ys, rfl, ha3, hall3⟩ := (Im.mono (Same.tups s2) _ _ imx).tuple
        have hyl : ys.length = r.length := by rw [hall3.length, List.length_map]
        refine ⟨_, rfl, .inl ⟨rfl, _, SqL.of h1⟩, rfl, _, rfl, a3, rfl, ⟨_, SqT.of ha3⟩, fun D hD => ?_⟩
        refine lc_it (walk_tup (K := K) (a := a3) (xs := ys)) (PvS H1 D ((r.map rowT).map V.str)) (pvs0 hD) (fun i H2 _ h => SqT.of (h.1 _ _ ha3)) ?_ (fun H2 h => ?_)
        · rintro i2 x2 _ H2 hi2 h ⟨rfl, hx2⟩
          obtain ⟨d2, hd2, imx2⟩ := hall3.get hx2
          rw [List.getElem?_map] at hd2
          cases hz2 : r[i2]? with
          | none => rw [hz2] at hd2; cases hd2
          | some q =>
            rw [hz2] at hd2
            cases hd2
            have hrow := ok.2 q (List.mem_of_getElem? hz2)
            obtain ⟨a4, zs, rfl, ha4, hall4⟩ := imx2.tuple
            have hzs := hall4.ints
            subst hzs
            have ha5 := h.1 _ _ ha4
            refine ⟨rfl, turnY ?_⟩
            refine ⟨rfl, _, rfl, a4, rfl, ⟨_, SqT.of ha5⟩, fun D2 hD2 => ?_⟩
            refine lc_it (walk_tup (K := K) (a := a4) (xs := q.map V.int)) (PvS H2 D2 ((q.map numT).map V.str)) (pvs0 hD2) (fun i H3 _ h => SqT.of (h.1 _ _ ha5)) ?_ (fun H3 h2 => ?_)
            · rintro i3 x3 _ H3 hi3 h2 ⟨rfl, hx3⟩
              rw [List.getElem?_map] at hx3
              cases hz3 : q[i3]? with
              | none => rw [hz3] at hx3; cases hx3
              | some z =>
                rw [hz3] at hx3
                cases hx3
                have hm := hrow.2.1 z (List.mem_of_getElem? hz3)
                refine ⟨rfl, turnY ?_⟩
                exact ⟨_, rfl, z, rfl, num_log hm.1 hm.2, pvs1 hD2 h2 (Same.refl _) (by rw [List.length_map, List.length_map, hrow.1]; omega) (by rw [List.getElem?_map, List.getElem?_map, hz3]; rfl)⟩
            obtain ⟨s3, hl3⟩ := pvsE h2 (by rw [List.length_map, List.length_map, List.length_map])
            refine ⟨",", D2, q.map numT, rfl, rfl, .inl (SqL.of hl3), ?_, ?_⟩
            · have u := sum_le (f := fun y : Str => y.length) (l := q.map numT) (c := 10) fun y hy => by
                obtain ⟨i, hi, rfl⟩ := List.mem_map.mp hy
                exact num_len (hrow.2.1 i hi).1 (hrow.2.1 i hi).2
              rw [List.length_map, hrow.1] at u ⊢
              have e : (("," : Str)).length = 1 := rfl
              rw [e]
              omega
            · exact pvs1 hD h s3 (by rw [List.length_map, List.length_map]; omega) (by rw [List.getElem?_map, List.getElem?_map, hz2]; rfl)
        obtain ⟨s4, hl4⟩ := pvsE h (by rw [List.length_map, List.length_map, hyl])
        refine ⟨" ", D, r.map rowT, rfl, rfl, .inl (SqL.of hl4), ?_, ?_⟩
        · have u := sum_le (f := fun y : Str => y.length) (l := r.map rowT) (c := 66) fun y hy => by
            obtain ⟨q, hq, rfl⟩ := List.mem_map.mp hy
            exact row_len (ok.2 q hq) n6
          rw [List.length_map, hwl] at u ⊢
          have e : ((" " : Str)).length = 1 := rfl
          rw [e]
          omega
        refine ⟨l1, _, _, rfl, rfl, s4 _ _ h1, small1000 (by rw [List.length_map, List.length_cons, List.length_map, List.length_take]; omega), ?_⟩
        refine ⟨_, rfl, fun c o e => ?_, ?_⟩
        · rw [upd_ne (ne_of_none e n1)]
          exact s4 c o (s2 c o e)
        · rw [upd_same, List.take_succ, hz]
          show some (HO.lst (List.map V.str (mindsT ms :: (ws.take i).map wayT) ++ [V.str (wayT r)])) = some (HO.lst (List.map V.str (mindsT ms :: List.map wayT (ws.take i ++ [r]))))
          rw [List.map_append]
          show _ = some (HO.lst (List.map V.str ((mindsT ms :: List.map wayT (ws.take i)) ++ [wayT r])))
          rw [List.map_append]
          rfl
    · rintro σ H1 ⟨v, rfl, s2, h1⟩
      rw [hxl, List.take_length] at h1
      refine ⟨rfl, _, rfl, "\n", l1, mindsT ms :: ws.map wayT, rfl, rfl, .inl (SqL.of h1), ?_, k _ s2⟩
      have q := sum_le (f := fun y : Str => y.length) (lines_le mo wo)
      have e2 : (("\n" : Str)).length = 1 := rfl
      rw [List.length_cons, List.length_map] at q ⊢
      rw [e2]
      omega
theorem mk_same {C : Addr} {H : Hp} {x dx : Addr} (nx : H x = none) (ndx : H dx = none) (hne : dx ≠ x) : Same H (upd (upd H dx (.own x)) x (.ins C dx [])) := by
  have n1 : Same H (upd H dx (.own x)) := same_upd ndx
  have nx2 : upd H dx (.own x) x = none := by rw [upd_ne (fun e => hne e.symm)]; exact nx
  exact n1.trans (same_upd nx2 (o := .ins C dx []))
theorem ok_quiet {f : Addr} {fd : FuncData} (F : Fun K "_law_quiet" "_law_quiet" sQuiet f fd) (T : Bt mg) (DR : DefG P w K mg base 15 "_law_right" ["_law_jug_here"] spRight) : FnG P w K mg base CX0 17 f fd pQuiet spRight := by
  refine fnG0 F scQuiet (fun vs H Q E h => ?_) (fun cdv A outer s H vs Q E hg hr h => ?_)
  · obtain ⟨j, rfl, _⟩ := h
    rfl
  · obtain ⟨j, rfl, J, k⟩ := h
    refine ⟨_, (pss_cons (ps_try_thru0 (pss_one (ps_set (i := 1) scQuiet.nd rfl (Or.inl rfl) (pe_fnG DR hg hr (by decide) (pa_cons (pv 0) pa_nil)))))
      (pss_one (ps_ret (pv 1)))), ?_⟩
    exact ⟨_, rfl, j, rfl, J, fun H' b => ⟨_, rfl, k H' b⟩⟩
theorem ok_law {f : Addr} {fd : FuncData} (F : Fun K "law" "law" sLaw f fd) (T : Bt mg) (DJ : DefX P w K mg base 1 "_law_jug" ["_law_script", "_law_at"] (spJug K)) (DQ : DefG P w K mg base 17 "_law_quiet" pQuiet spRight) : FnG P w K mg base CX0 19 f fd pLaw (spLaw K) := by
  refine fnG0 F scLaw (fun vs H Q E h => ?_) (fun cdv A outer s H vs Q E hg hr h => ?_)
  · obtain ⟨a, ns, rfl, _⟩ := h
    rfl
  · obtain ⟨a, ns, rfl, hS, hlen, k⟩ := h
    refine ⟨_, (pss_one (ps_ret (pe_callB (allL K) (by rfl) T.all (by decide +kernel) (pa_cons (pe_lc (own := [("_law_at", 1)]) (g := gName 1) (tt := tYes) rfl scLaw.nd (pi_range1 rfl T.range (pa_cons (pe_callB (call_max2 rfl) (by rfl) T.max (by decide +kernel) (pa_cons pe_int (pa_cons (pe_callB (call_min2 rfl) (by rfl) T.min (by decide +kernel) (pa_cons (pe_callB (lenQ K) (by rfl) T.len (by decide +kernel) (pa_cons (pv 0) pa_nil)) (pa_cons pe_int pa_nil))) pa_nil))) pa_nil)) (blkOk_by (own := [("_law_at", 1)]) (N := nLaw) (sc := defScope sLaw) (by decide +kernel)) (fun _ _ _ _ _ => (pg_name (i := 1) scLaw.nd rfl (Or.inl rfl))) (fun _ _ _ _ _ => pts_nil)
          (fun _ _ _ _ _ => (pe_fnG DQ hg hr (by decide) (pa_cons (pe_fn DJ hr (by decide) (pa_cons (pv 0) (pa_cons (pv 1) pa_nil))) pa_nil)))) pa_nil)))), ?_⟩
    obtain ⟨n, hn5, hn⟩ : ∃ n : Nat, n ≤ 5 ∧ (if (if (5 : Int) < (ns.map V.int).length then (5 : Int) else (ns.map V.int).length) > 2 then (if (5 : Int) < (ns.map V.int).length then (5 : Int) else (ns.map V.int).length) else 2) = (n : Int) := by
      generalize (ns.map V.int).length = m
      by_cases h5 : (5 : Int) < m
      · refine ⟨5, by decide, ?_⟩
        rw [if_pos h5, if_pos (by decide)]; rfl
      · rw [if_neg h5]
        by_cases h2 : (m : Int) > 2
        · exact ⟨m, by omega, by rw [if_pos h2]⟩
        · exact ⟨2, by decide, by rw [if_neg h2]; rfl⟩
    refine ⟨_, rfl, a, _, rfl, .inl hS, _, _, rfl, _, _, rfl, n, by rw [hn], by omega, by omega, fun D hD => ?_⟩
    refine lc_range (lo := 0) (n := n) (fun i H1 => Same H H1 ∧ H1 D = some (.lst (List.replicate i (V.bl true)))) ⟨same_upd hD, upd_same⟩ ?_ ?_
    · rintro i H1 hi ⟨s1, h1⟩
      refine ⟨rfl, turnY ?_⟩
      refine ⟨_, rfl, _, rfl, a, ns, i, by show [V.ref a, V.int (0 + (i : Int))] = _; rw [Int.zero_add], s1.seq hS, hlen, fun H2 j s2 nj J2 => ?_⟩
      refine ⟨j, rfl, J2, fun H3 b3 => ?_⟩
      have nDj : D ≠ j := ne_of_none h1 nj
      refine ⟨_, b3 D _ nDj (s2 _ _ h1), small1000 (by rw [List.length_replicate]; omega), fun b o e => ?_, ?_⟩
      · rw [upd_ne (ne_of_none e hD)]
        have e1 := s1 b o e
        exact b3 b o (ne_of_none e1 nj) (s2 _ _ e1)
      · rw [upd_same, List.replicate_succ']
    · rintro H1 ⟨s1, h1⟩
      refine ⟨D, List.replicate n true, rfl, SqL.of (by rw [List.map_replicate]; exact h1), ?_⟩
      have e : (List.replicate n true).all id = true := List.all_eq_true.mpr fun x hx => (List.eq_of_mem_replicate hx)
      rw [e]
      exact k H1
end
end M

namespace M
open PySem L2 U
def dPairD (d : List Str × List (List (List Int))) : PyData := .list [dMinds d.1, dWays d.2]
theorem eqv_pair (a b : List Str × List (List (List Int))) : PyData.eqv (dPairD a) (dPairD b) = (decide (a.1 = b.1) && decide (a.2 = b.2)) := by
  unfold dPairD
  simp only [PyData.eqv, PyData.eqvAll]
  rw [eqv_minds, eqv_ways, Bool.and_true]
structure PairAt (H : Hp) (p a b : Addr) (d : List Str × List (List (List Int))) : Prop where
  ls : H p = some (.lst [.ref a, .ref b])
  im : Im H (.ref a) (dMinds d.1)
  iw : Im H (.ref b) (dWays d.2)
  mo : MindsOk d.1
  wo : WaysOk d.1.length d.2
theorem PairAt.same {H H' : Hp} {p a b : Addr} {d : List Str × List (List (List Int))} (s : Same H H') (g : PairAt H p a b d) : PairAt H' p a b d :=
  ⟨s p _ g.ls, Im.mono (Same.tups s) _ _ g.im, Im.mono (Same.tups s) _ _ g.iw, g.mo, g.wo⟩
theorem PairAt.dp {K : PySem.W.Frag} {H : Hp} {p a b : Addr} {d : List Str × List (List (List Int))} (g : PairAt H p a b d) : Dp K H (.ref p) (dPairD d) := .lst (SqL.of g.ls) (.cons (Im.dp _ _ g.im) (.cons (Im.dp _ _ g.iw) .nil))
theorem dPair_lay {d : List Str × List (List (List Int))} (mo : MindsOk d.1) : (dPairD d).canLay0 = true ∧ (dPairD d).depth ≤ 4 := by
  unfold dPairD
  simp only [PyData.canLay0, PyData.canLayAll0, PyData.depth, PyData.depthAll]
  have h1 := dMinds_lay fun x hx => (mo.nm x hx).1
  have h2 := dWays_lay d.2
  refine ⟨by rw [h1.1, h2.1]; rfl, ?_⟩
  have := h1.2
  have := h2.2
  omega
theorem seqP {t u : TS} {D : Ends} {σ : L2.St} {H : Hp} (P : L2.St → Hp → Prop) (h1 : ∀ N : L2.St → Hp → Prop, (∀ σ' H', P σ' H' → N σ' H') → t { D with nx := N } σ H) (h2 : ∀ σ' H', P σ' H' → u D σ' H') : tSeq t u D σ H := h1 (u D) h2
theorem at0 {α : Type} {xs : List α} {i : Nat} {v : α} (h : xs[i]? = some v) : atI xs (0 + (i : Int)) = some v := by rw [Int.zero_add]; exact atI_nat h
theorem waysRev {n : Nat} {ws : List (List (List Int))} (h : WaysOk n ws) : WaysOk n ws.reverse := ⟨by rw [List.length_reverse]; exact h.w1, by rw [List.length_reverse]; exact h.w6, h.n6, fun w hw => h.way w (List.mem_reverse.mp hw)⟩
theorem ImAll.rev {H : Hp} : ∀ {ds : List PyData} {vs : List V}, ImAll H vs ds → ImAll H vs.reverse ds.reverse
  | [], _, q => by cases q; exact .nil
  | d :: ds, _, q => by
    cases q with
    | cons h1 h2 =>
      rw [List.reverse_cons, List.reverse_cons]
      exact ImAll.snoc h1 (ImAll.rev h2)
end M

namespace M
open PySem L2 U
abbrev sPR : Stmt := top 34
abbrev nPR : List Str := ["_law_base", "_law_mate", "_law_due"]
abbrev pPR : List Str := ["_law_base", "_law_mate", "_law_due"]
theorem scPR : FnScope nPR pPR (defScope sPR) := ⟨rfl, rfl, rfl, by decide +kernel, rfl, by decide +kernel, by decide +kernel⟩
abbrev sRight : Stmt := top 35
abbrev nRight : List Str := ["_law_jug_here", "_law_again", "_law_heads_here", "_law_talks", "_law_base", "_law_page_here", "_law_at", "_law_talk_here", "_law_more", "_law_twice", "_law_one", "_law_others", "_law_other", "_law_mate", "_law_thing"]
abbrev pRight : List Str := ["_law_jug_here"]
theorem scRight : FnScope nRight pRight (defScope sRight) := ⟨rfl, rfl, rfl, by decide +kernel, rfl, by decide +kernel, by decide +kernel⟩
/-! ### tuples put together and cut, as plain data -/
def cutL {α : Type} (xs : List α) (lo hi : Option Int) : List α := (xs.drop (HT.sIx xs.length 0 lo)).take (HT.sIx xs.length xs.length hi - HT.sIx xs.length 0 lo)
theorem cutL_to {α : Type} {xs : List α} {i : Nat} (h : i ≤ xs.length) : cutL xs none (some (i : Int)) = xs.take i := by
  have e : HT.sIx xs.length xs.length (some (i : Int)) = i := by rw [HT.sIx_nat]; omega
  unfold cutL
  rw [e, HT.sIx_none, Nat.sub_zero, List.drop_zero]
theorem cutL_from {α : Type} {xs : List α} {i : Nat} (h : i ≤ xs.length) : cutL xs (some (i : Int)) none = xs.drop i := by
  have e : HT.sIx xs.length 0 (some (i : Int)) = i := by rw [HT.sIx_nat]; omega
  unfold cutL
  rw [e, HT.sIx_none]
  exact List.take_of_length_le (by rw [List.length_drop]; exact Nat.le_refl _)
theorem cut1 {α : Type} {xs : List α} (h : 1 ≤ xs.length) : cutL xs (some 1) none = xs.drop 1 := cutL_from (i := 1) h
theorem cutTo1 {α : Type} {xs : List α} (h : 1 ≤ xs.length) : cutL xs none (some 1) = xs.take 1 := cutL_to (i := 1) h
theorem cutFromS {α : Type} {xs : List α} {q : Nat} (h : q + 1 ≤ xs.length) : cutL xs (some ((q : Int) + 1)) none = xs.drop (q + 1) := cutL_from (i := q + 1) h
theorem waysCut {ws : List (List (List Int))} {q : Nat} (hq : q < ws.length) (w : List (List Int)) : PyData.tuple (cutL (ws.map dWay) none (some (q : Int)) ++ [dWay w] ++ cutL (ws.map dWay) (some ((q : Int) + 1)) none) = dWays (ws.take q ++ [w] ++ ws.drop (q + 1)) := by
  rw [cutL_to (by rw [List.length_map]; omega), cutFromS (by rw [List.length_map]; omega)]
  unfold dWays
  rw [List.map_append, List.map_append, List.map_take, List.map_drop]
  rfl
theorem cutLen {α : Type} (xs : List α) (lo hi : Option Int) : (cutL xs lo hi).length ≤ xs.length := by
  unfold cutL
  rw [List.length_take, List.length_drop]
  omega
theorem cutL_last {α : Type} {xs : List α} (h : 1 ≤ xs.length) : cutL xs none (some (-1)) = xs.take (xs.length - 1) := by
  have e : HT.sIx xs.length xs.length (some (-1)) = xs.length - 1 := by
    show (if (-1 : Int) < 0 then ((-1 : Int) + (xs.length : Int)).toNat else min (-1 : Int).toNat xs.length) = _
    rw [if_pos (by decide)]
    omega
  unfold cutL
  rw [e, HT.sIx_none, Nat.sub_zero, List.drop_zero]
theorem ImAll.drop {H : Hp} : ∀ (n : Nat) {ds : List PyData} {vs : List V}, ImAll H vs ds → ImAll H (vs.drop n) (ds.drop n)
  | 0, _, _, h => h
  | n + 1, _, _, .nil => by rw [List.drop_nil, List.drop_nil]; exact .nil
  | n + 1, _, _, .cons _ h2 => ImAll.drop n h2
theorem ImAll.take {H : Hp} : ∀ (n : Nat) {ds : List PyData} {vs : List V}, ImAll H vs ds → ImAll H (vs.take n) (ds.take n)
  | 0, _, _, h => .nil
  | n + 1, _, _, .nil => by rw [List.take_nil, List.take_nil]; exact .nil
  | n + 1, _, _, .cons h1 h2 => .cons h1 (ImAll.take n h2)
theorem ImAll.append {H : Hp} {es : List PyData} {us : List V} (g : ImAll H us es) : ∀ {ds : List PyData} {vs : List V}, ImAll H vs ds → ImAll H (vs ++ us) (ds ++ es)
  | _, _, .nil => g
  | _, _, .cons h1 h2 => .cons h1 (ImAll.append g h2)
theorem slIm {K : PySem.W.Frag} {H : Hp} {x : V} {ds : List PyData} {lo hi : Option Int} {Q : VK} (h : Im H x (.tuple ds)) (k : ∀ (H' : Hp) (p : Addr), Same H H' → Im H' (.ref p) (.tuple (cutL ds lo hi)) → Q (.ref p) H') : rSlA K x lo hi H Q := by
  obtain ⟨a, xs, rfl, ha, hall⟩ := h.tuple
  have hl := hall.length
  refine ⟨a, xs, rfl, SqT.of ha, fun e => ?_, fun _ p np => ?_⟩
  · have e2 : cutL ds lo hi = ds := by
      unfold cutL
      rw [← hl, e.1, e.2, List.drop_zero, Nat.sub_zero]
      exact List.take_of_length_le (Nat.le_of_eq hl.symm)
    exact k H a (Same.refl H) (by rw [e2]; exact .tup ha hall)
  · refine k _ p (same_upd np) (.tup upd_same ?_)
    unfold cutL cutV
    rw [← hl]
    exact ImAll.take _ (ImAll.drop _ (ImAll.mono (TupS.new np) _ _ hall))
theorem slFrom {K : PySem.W.Frag} {H : Hp} {x : V} {σ : L2.St} {ds : List PyData} {lo : Option Int} {Q : VK} (h : Im H x (.tuple ds)) (k : ∀ (H' : Hp) (p : Addr), Same H H' → Im H' (.ref p) (.tuple (cutL ds lo none)) → Q (.ref p) H') : tNoPart σ H (fun u H3 => rSlA K x lo u H3 Q) := slIm h k
theorem catIm {K : PySem.W.Frag} {H : Hp} {x y : V} {ds es : List PyData} {Q : VK} (h : Im H x (.tuple ds)) (g : Im H y (.tuple es)) (hz : ds.length + es.length ≤ 1000) (k : ∀ (H' : Hp) (p : Addr), Same H H' → Im H' (.ref p) (.tuple (ds ++ es)) → Q (.ref p) H') : rCatA K x y H Q := by
  obtain ⟨a, xs, rfl, ha, ia⟩ := h.tuple
  obtain ⟨b, ys, rfl, hb, ib⟩ := g.tuple
  refine ⟨a, b, xs, ys, rfl, rfl, SqT.of ha, SqT.of hb, Nat.le_of_lt (small1000 (by rw [ia.length, ib.length]; exact hz)), fun e => ?_, fun _ e => ?_, fun _ _ p np => ?_⟩
  · subst e
    have e2 : ds = [] := List.length_eq_zero_iff.mp (by rw [← ia.length]; rfl)
    subst e2
    exact k H b (Same.refl H) (.tup hb ib)
  · subst e
    have e2 : es = [] := List.length_eq_zero_iff.mp (by rw [← ib.length]; rfl)
    subst e2
    exact k H a (Same.refl H) (by rw [List.append_nil]; exact .tup ha ia)
  · exact k _ p (same_upd np) (.tup upd_same (ImAll.append (ImAll.mono (TupS.new np) _ _ ib) (ImAll.mono (TupS.new np) _ _ ia)))
/-! ### minds and ways otherwise -/
theorem mindsRev {ms : List Str} (h : MindsOk ms) : MindsOk ms.reverse := ⟨by rw [List.length_reverse]; exact h.m1, by rw [List.length_reverse]; exact h.m6, (List.reverse_perm ms).nodup_iff.mpr h.nd, fun x hx => h.nm x (List.mem_reverse.mp hx)⟩
theorem noOther : ("other" : Str) ∉ pool8 := by decide +kernel
theorem mindsOther {ms : List Str} {ws : List (List (List Int))} (d : Drawn ms ws) : MindsOk (ms.take (ms.length - 1) ++ [("other" : Str)]) := by
  have h := drawn_minds d
  have m1 := h.m1
  have el : (ms.take (ms.length - 1) ++ [("other" : Str)]).length = ms.length := by rw [List.length_append, List.length_take, List.length_singleton]; omega
  refine ⟨by rw [el]; exact h.m1, by rw [el]; exact h.m6, List.nodup_append.mpr ⟨h.nd.sublist (List.take_sublist _ _), List.nodup_cons.mpr ⟨(fun z => nomatch z), List.nodup_nil⟩, fun x hx y hy e => ?_⟩, fun x hx => ?_⟩
  · rw [List.mem_singleton.mp hy] at e
    exact noOther (e ▸ d.pool x (List.mem_of_mem_take hx))
  · rcases List.mem_append.mp hx with q | q
    · exact h.nm x (List.mem_of_mem_take q)
    · rw [List.mem_singleton.mp q]
      decide +kernel
theorem waysSet {n q : Nat} {ws : List (List (List Int))} {w : List (List Int)} (h : WaysOk n ws) (hq : q < ws.length) (g : WayOk n w) : WaysOk n (ws.take q ++ [w] ++ ws.drop (q + 1)) := by
  have el : (ws.take q ++ [w] ++ ws.drop (q + 1)).length = ws.length := by rw [List.length_append, List.length_append, List.length_take, List.length_drop, List.length_singleton]; omega
  refine ⟨by rw [el]; exact h.w1, by rw [el]; exact h.w6, h.n6, fun x hx => ?_⟩
  rcases List.mem_append.mp hx with z | z
  · rcases List.mem_append.mp z with z | z
    · exact h.way x (List.mem_of_mem_take z)
    · rw [List.mem_singleton.mp z]; exact g
  · exact h.way x (List.mem_of_mem_drop z)
theorem waysMore {n : Nat} {ws : List (List (List Int))} (h : WaysOk n ws) (h4 : ws.length ≤ 4) : WaysOk n (ws ++ ws.take 1) := by
  have el : (ws ++ ws.take 1).length = ws.length + min 1 ws.length := by rw [List.length_append, List.length_take]
  refine ⟨by rw [el]; have := h.w1; omega, by rw [el]; omega, h.n6, fun x hx => ?_⟩
  rcases List.mem_append.mp hx with z | z
  · exact h.way x z
  · exact h.way x (List.mem_of_mem_take z)
theorem wayRow0 {n : Nat} {w : List (List Int)} {r : List Int} (h : WayOk n w) (hn : 1 ≤ n) (g : RowOk n r) : WayOk n (r :: w.drop 1) := by
  have := h.1
  refine ⟨by rw [List.length_cons, List.length_drop]; omega, fun x hx => ?_⟩
  rcases List.mem_cons.mp hx with z | z
  · rw [z]; exact g
  · exact h.2 x (List.mem_of_mem_drop z)
theorem rowMore {n : Nat} {z : Int} {r : List Int} (h : RowOk n r) (hn : 1 ≤ n) (h0 : r[0]? = some z) (hz : z < 1000000000) : RowOk n ((z + 1) :: r.drop 1) := by
  have hl := h.1
  have hm := h.2.1 z (List.mem_of_getElem? h0)
  have hx : ∀ x ∈ (z + 1) :: r.drop 1, 0 ≤ x ∧ x ≤ 1000000000 := fun x hx => by
    rcases List.mem_cons.mp hx with q | q
    · rw [q]; omega
    · exact h.2.1 x (List.mem_of_mem_drop q)
  exact ⟨by rw [List.length_cons, List.length_drop]; omega, hx, sum_pos (x := z + 1) (fun x q => (hx x q).1) List.mem_cons_self (by omega)⟩
def f2 (z : Int) : Int := if z < 1000000000 then 2 * z else z - 1
theorem some_pos : ∀ {r : List Int}, 0 < r.sum → ∃ x ∈ r, 0 < x
  | [], h => absurd h (by decide)
  | x :: r, h => by
    by_cases q : 0 < x
    · exact ⟨x, List.mem_cons_self, q⟩
    · rw [List.sum_cons] at h
      obtain ⟨y, hy, p⟩ := some_pos (r := r) (by omega)
      exact ⟨y, List.mem_cons_of_mem _ hy, p⟩
theorem f2_ok {z : Int} (h : 0 ≤ z ∧ z ≤ 1000000000) (g : z ≤ 7 ∨ z = 1000000000) : 0 ≤ f2 z ∧ f2 z ≤ 1000000000 ∧ (0 < z → 0 < f2 z) := by
  unfold f2
  split <;> omega
theorem rowTwice {n : Nat} {r : List Int} (h : RowOk n r) (g : ∀ x ∈ r, x ≤ 7 ∨ x = 1000000000) : RowOk n (r.map f2) := by
  have hx : ∀ x ∈ r.map f2, 0 ≤ x ∧ x ≤ 1000000000 := fun x hx => by
    obtain ⟨z, hz, rfl⟩ := List.mem_map.mp hx
    have := f2_ok (h.2.1 z hz) (g z hz)
    exact ⟨this.1, this.2.1⟩
  obtain ⟨z, hz, p⟩ := some_pos h.2.2
  exact ⟨by rw [List.length_map, h.1], hx, sum_pos (x := f2 z) (fun x q => (hx x q).1) (List.mem_map_of_mem hz) ((f2_ok (h.2.1 z hz) (g z hz)).2.2 p)⟩
theorem dec_comm {α : Type} [DecidableEq α] (x y : α) : decide (x = y) = decide (y = x) := by
  by_cases e : x = y
  · subst e; rfl
  · rw [decide_eq_false e, decide_eq_false (fun z => e z.symm)]
/-! ### an own == that also takes what is no council -/
def spCEqF (C : Addr) : Sp := fun vs H Q E => spCEq C vs H Q E ∨ ∃ (a : Addr) (m wv : V) (ms : List Str) (ws : List (List (List Int))) (y : V) (T : String), vs = [.ref a, y] ∧ CouncilAt C H a m wv ms ws ∧ Fo H y T ∧ Q (.bl false) H
/-- what the text's part says of Council and the built-in classes -/
structure Fa (K : PySem.W.Frag) (C : Addr) : Prop where
  ap : ∀ {H : Hp} {v : V} {T : String}, Fo H v T → Apart K C T
  kit : ∀ {H : Hp} {v : V} {T : String}, Fo H v T → PySem.W.kitOne K (.type T) (.ref C) = some false
section
variable {P : Program} {w : World} {K : PySem.W.Frag} {mg : Str → Option Value} {base : Heap}
theorem ok_ceqF {f C : Addr} {fd : FuncData} (F : Fun K "__eq__" "Council.__eq__" sCEq f fd) (T : Bt mg) (U : Cn K mg C) (A : Fa K C) : FnOk P w K mg base CX0 1 f fd pCEq (spCEqF C) := by
  have G : FnOk P w K mg base CX0 1 f fd pCEq (spCEq C) := ok_ceq F T U
  refine F.ok scCEq (fun vs H Q E h => ?_) (fun cdv A' outer s H vs Q E hr h => ?_)
  · rcases h with h | ⟨a, m, wv, ms, ws, y, t, rfl, _⟩
    · exact G.len _ _ _ _ h
    · rfl
  · rcases h with h | h
    · obtain ⟨a, m, wv, ms, ws, b, m', wv', ms', ws', rfl, c, c', k⟩ := h
      obtain ⟨⟨dx, h1⟩, h2, h3, h4, h5⟩ := c
      obtain ⟨⟨dx', h1'⟩, h2', h3', h4', h5'⟩ := c'
      refine ⟨_, (pss_one (ps_ret (pe_and (pe_callB (isiQ K) (by rfl) T.isinstance (by decide +kernel) (pa_cons (pv 1) (pa_cons (pe_globE U.g) pa_nil))) (pe_and (pe_cmpR (eqD K hr.units) (pe_fld (pv 0) rfl) (pe_fld (pv 1) rfl) (nomark _)) (pe_one (pe_cmpR (eqD K hr.units) (pe_fld (pv 0) rfl) (pe_fld (pv 1) rfl) (nomark _))))))), ?_⟩
      refine ⟨_, rfl, _, _, _, _, true, rfl, .own C, .base (.ins h1' U.cl U.c1 U.c2 U.c3 U.c5), U.c4, _, rfl, iteT ?_⟩
      refine ⟨_, rfl, a, C, dx, _, _, rfl, h1, U.cl, U.nM, cf_m _ _, _, rfl, b, C, dx', _, _, rfl, h1', U.cl, U.nM, cf_m _ _, dMinds ms, dMinds ms', Im.dp _ _ h2, Im.dp _ _ h2', ?_, ?_, _, rfl, ?_⟩
      · exact shaped_of ⟨(dMinds_lay fun x hx => (h4.nm x hx).1).1, Nat.le_trans (dMinds_lay fun x hx => (h4.nm x hx).1).2 (by decide)⟩
      · exact shaped_of ⟨(dMinds_lay fun x hx => (h4'.nm x hx).1).1, Nat.le_trans (dMinds_lay fun x hx => (h4'.nm x hx).1).2 (by decide)⟩
      rw [eqv_minds]
      refine ite2 (fun he => ?_) (fun he => ?_)
      · rw [he, Bool.true_and] at k
        refine ⟨_, rfl, a, C, dx, _, _, rfl, h1, U.cl, U.nW, cf_w _ _, _, rfl, b, C, dx', _, _, rfl, h1', U.cl, U.nW, cf_w _ _, dWays ws, dWays ws', Im.dp _ _ h3, Im.dp _ _ h3', ?_, ?_, ?_⟩
        · exact shaped_of ⟨(dWays_lay ws).1, Nat.le_trans (dWays_lay ws).2 (by decide)⟩
        · exact shaped_of ⟨(dWays_lay ws').1, Nat.le_trans (dWays_lay ws').2 (by decide)⟩
        rw [eqv_ways]
        exact k
      · rw [Bool.eq_false_iff.mpr he, Bool.false_and] at k
        exact k
    · obtain ⟨a, m, wv, ms, ws, y, t, rfl, c, fo, k⟩ := h
      refine ⟨_, (pss_one (ps_ret (pe_and (pe_callB (isiQ K) (by rfl) T.isinstance (by decide +kernel) (pa_cons (pv 1) (pa_cons (pe_globE U.g) pa_nil))) (pe_and (pe_cmpR (eqD K hr.units) (pe_fld (pv 0) rfl) (pe_fld (pv 1) rfl) (nomark _)) (pe_one (pe_cmpR (eqD K hr.units) (pe_fld (pv 0) rfl) (pe_fld (pv 1) rfl) (nomark _))))))), ?_⟩
      exact ⟨_, rfl, _, _, _, _, false, rfl, .own C, fo.tyx, A.kit fo, _, rfl, iteF k⟩
theorem PairAt.lst {H : Hp} {p a b l : Addr} {d : List Str × List (List (List Int))} {xs : List V} {o : HO} (h : H l = some (.lst xs)) (n : p ≠ l) (g : PairAt H p a b d) : PairAt (upd H l o) p a b d :=
  ⟨by rw [upd_ne n]; exact g.ls, Im.mono (TupS.lst h) _ _ g.im, Im.mono (TupS.lst h) _ _ g.iw, g.mo, g.wo⟩
/-- a council and a mate: whether they are told to be equal -/
def Mate (C : Addr) (H : Hp) (ms : List Str) (ws : List (List (List Int))) (y : V) (due : Bool) : Prop :=
  (∃ (b : Addr) (m wv : V) (ms' : List Str) (ws' : List (List (List Int))), y = .ref b ∧ CouncilAt C H b m wv ms' ws' ∧ due = (decide (ms = ms') && decide (ws = ws'))) ∨ (∃ T, Fo H y T ∧ due = false)
def spPR (C : Addr) : Sp := fun vs H Q _ => ∃ (a : Addr) (m wv : V) (ms : List Str) (ws : List (List (List Int))) (y : V) (due : Bool), vs = [.ref a, y, .bl due] ∧ CouncilAt C H a m wv ms ws ∧ Mate C H ms ws y due ∧ ∀ H', Same H H' → Q (.bl true) H'
theorem mateF {C a : Addr} {H : Hp} {m wv y : V} {ms : List Str} {ws : List (List (List Int))} {due : Bool} (c : CouncilAt C H a m wv ms ws) (mt : Mate C H ms ws y due) (ng : Bool → Bool) {Q : VK} (q : Q (.bl (ng due)) H) : rCmp C (spCEqF C) ng (.ref a) y H Q := by
  obtain ⟨dx, h1⟩ := c.ob
  rcases mt with ⟨b, m', wv', ms', ws', rfl, c', rfl⟩ | ⟨T, fo, rfl⟩
  · obtain ⟨dy, h2⟩ := c'.ob
    exact .inl ⟨a, dx, _, rfl, h1, .inl ⟨b, dy, _, rfl, h2⟩, .inl ⟨a, m, wv, ms, ws, b, m', wv', ms', ws', rfl, c, c', _, rfl, q⟩⟩
  · exact .inl ⟨a, dx, _, rfl, h1, .inr ⟨T, fo⟩, .inr ⟨a, m, wv, ms, ws, y, T, rfl, c, fo, _, rfl, q⟩⟩
theorem mateR {C a : Addr} {H : Hp} {m wv y : V} {ms : List Str} {ws : List (List (List Int))} {due : Bool} (c : CouncilAt C H a m wv ms ws) (mt : Mate C H ms ws y due) (ng : Bool → Bool) {Q : VK} (q : Q (.bl (ng due)) H) : rCmp C (spCEqF C) ng y (.ref a) H Q := by
  obtain ⟨dx, h1⟩ := c.ob
  rcases mt with ⟨b, m', wv', ms', ws', rfl, c', rfl⟩ | ⟨T, fo, rfl⟩
  · obtain ⟨dy, h2⟩ := c'.ob
    rw [dec_comm ms ms', dec_comm ws ws'] at q
    exact .inl ⟨b, dy, _, rfl, h2, .inl ⟨a, dx, _, rfl, h1⟩, .inl ⟨b, m', wv', ms', ws', a, m, wv, ms, ws, rfl, c', c, _, rfl, q⟩⟩
  · exact .inr ⟨a, dx, _, T, rfl, h1, fo, .inr ⟨a, m, wv, ms, ws, y, T, rfl, c, fo, _, rfl, q⟩⟩
def dFour (due : Bool) : PyData := .list [.bool due, .bool due, .bool (!due), .bool (!due)]
theorem sh_four (due : Bool) : Sh (dFour due) 8 2 := (Sh.lst (.cons (.bool due) (.cons (.bool due) (.cons (.bool (!due)) (.cons (.bool (!due)) .nil))))).mono (by decide) (by decide)
theorem ok_pr {f C : Addr} {fd : FuncData} (F : Fun K "_law_pair_right" "_law_pair_right" sPR f fd) (T : Bt mg) (U : Kn P w K mg base C) (FA : Fa K C) (EF : SpN P w K mg base C "__eq__" 1 (spCEqF C)) : FnG P w K mg base CX0 9 f fd pPR (spPR C) := by
  refine fnG0 F scPR (fun vs H Q E h => ?_) (fun cdv A outer s H vs Q E hg hr h => ?_)
  · obtain ⟨a, m, wv, ms, ws, y, due, rfl, _⟩ := h
    rfl
  · obtain ⟨a, m, wv, ms, ws, y, due, rfl, c, mt, k⟩ := h
    refine ⟨_, (pss_one (ps_ret (pe_cmpR op_eq (pe_callB (reprD K hg hr.units) (by rfl) T.repr (by decide +kernel) (pa_cons (pe_lst (pa_cons (pe_cmpR (cmpEq EF.at FA.ap hr (by decide)) (pv 0) (pv 1) (nomark _)) (pa_cons (pe_cmpR (cmpEq EF.at FA.ap hr (by decide)) (pv 1) (pv 0) (nomark _)) (pa_cons (pe_cmpR (cmpNe EF.at FA.ap U.ne U.cn.c5 hr (by decide)) (pv 0) (pv 1) (nomark _)) (pa_cons (pe_cmpR (cmpNe EF.at FA.ap U.ne U.cn.c5 hr (by decide)) (pv 1) (pv 0) (nomark _)) pa_nil))))) pa_nil)) (pe_callB (reprD K hg hr.units) (by rfl) T.repr (by decide +kernel) (pa_cons (pe_lst (pa_cons (pv 2) (pa_cons (pv 2) (pa_cons (pe_not (pv 2)) (pa_cons (pe_not (pv 2)) pa_nil))))) pa_nil)) (nomark _)))), ?_⟩
    refine ⟨_, rfl, _, rfl, mateF c mt id ?_⟩
    refine ⟨_, rfl, _, rfl, mateR c mt id ?_⟩
    refine ⟨_, rfl, _, rfl, mateF c mt Bool.not ?_⟩
    refine ⟨_, rfl, _, rfl, mateR c mt Bool.not ?_⟩
    refine ⟨by show 4 ≤ sizeLine; decide, fun l1 n1 => ?_⟩
    refine ⟨.ref l1, dFour due, 8, 2, rfl, .lst (SqL.of upd_same) (.cons (.bl _) (.cons (.bl _) (.cons (.bl _) (.cons (.bl _) .nil)))), sh_four due, by decide, by decide, ?_⟩
    refine ⟨_, rfl, _, rfl, _, rfl, due, rfl, _, rfl, due, rfl, by show 4 ≤ sizeLine; decide, fun l2 n2 => ?_⟩
    refine ⟨.ref l2, dFour due, 8, 2, rfl, .lst (SqL.of upd_same) (.cons (.bl _) (.cons (.bl _) (.cons (.bl _) (.cons (.bl _) .nil)))), sh_four due, by decide, by decide, rfl, ?_⟩
    rw [decide_eq_true rfl]
    exact k _ ((same_upd n1).trans (same_upd n2))
theorem ok_right {f C : Addr} {fd : FuncData} (F : Fun K "_law_right" "_law_right" sRight f fd) (T : Bt mg) (U : Kn P w K mg base C) (DS : DSip P w K mg base) (DPR : DefG P w K mg base 9 "_law_pair_right" pPR (spPR C)) (DP : DefX P w K mg base 5 "_law_pair" ["_law_jug_here", "_law_most_here"] spPair) (DG : DefX P w K mg base 1 "_law_page" pPage spPage) : FnG P w K mg base CX0 15 f fd pRight spRight := by
  refine fnG0 F scRight (fun vs H Q E h => ?_) (fun cdv A outer s H vs Q E hg hr h => ?_)
  · obtain ⟨j, rfl, _⟩ := h
    rfl
  · obtain ⟨j, rfl, J, k⟩ := h
    refine ⟨_, (pss_cons (ps_for PassesOwn.never rfl (pi_range1 rfl T.range (pa_cons pe_int pa_nil)) (pg_name (i := 1) scRight.nd rfl (Or.inl rfl))
        (pss_cons (ps_asg (pe_fn DP hr (by decide) (pa_cons (pv 0) (pa_cons pe_int pa_nil))) (pg_unl (by rfl) (pgs_cons (pg_name (i := 2) scRight.nd rfl (Or.inl rfl)) (pgs_cons (pg_name (i := 3) scRight.nd rfl (Or.inl rfl)) pgs_nil))))
      (pss_cons (ps_par3 (i := 4) (j := 5) (l := 6) (by rfl) scRight.nd rfl rfl rfl (by decide) (by decide) (by decide) rfl rfl rfl (pa_cons (pe_mk U.mk_ hr (by decide) (pa_cons (pv 2) (pa_cons (pv 3) pa_nil))) (pa_cons (pe_fn DG hr (by decide) (pa_cons (pv 2) (pa_cons (pv 3) pa_nil))) (pa_cons (pe_fn DS hr (by decide) (pa_cons (pv 0) (pa_cons (pe_callB (lenQ K) (by rfl) T.len (by decide +kernel) (pa_cons (pv 3) pa_nil)) pa_nil))) pa_nil))) (by rfl))
      (pss_cons (ps_set (i := 7) scRight.nd rfl (Or.inl rfl) (pe_ix (ixT K) (pv 3) (pv 6) (fun _ _ => rfl)))
      (pss_cons (ps_set (i := 8) scRight.nd rfl (Or.inl rfl) (pe_op (catA K) (pe_tup (pa_cons (pe_op op_add (pe_ix (ixT K) (pe_ix (ixT K) (pv 7) pe_int (fun _ _ => rfl)) pe_int (fun _ _ => rfl)) pe_int) pa_nil)) (pe_slice (slA K) (pe_ix (ixT K) (pv 7) pe_int (fun _ _ => rfl)) (po_some pe_int) po_none)))
      (pss_cons (ps_set (i := 9) scRight.nd rfl (Or.inl rfl) (pe_op (catA K) (pe_tup (pa_cons (pe_callTy (tupO K) (by rfl) T.tuple (by decide +kernel) (pa_cons (pe_lc (own := [("_law_one", 10)]) (g := gName 10) (tt := tYes) rfl scRight.nd (piT K (pe_ix (ixT K) (pv 7) pe_int (fun _ _ => rfl))) (blkOk_by (own := [("_law_one", 10)]) (N := nRight) (sc := defScope sRight) (by decide +kernel)) (fun _ _ _ _ _ => (pg_name (i := 10) scRight.nd rfl (Or.inl rfl))) (fun _ _ _ _ _ => pts_nil)
          (fun _ _ _ _ _ => (pe_ifExp (pt_cmpR op_lt (pv 10) (pe_op op_pow pe_int pe_int) (nomark _)) (pe_op op_mul pe_int (pv 10)) (pe_op op_sub (pv 10) pe_int)))) pa_nil)) pa_nil)) (pe_slice (slA K) (pv 7) (po_some pe_int) po_none)))
      (pss_cons (ps_set (i := 11) scRight.nd rfl (Or.inl rfl) (pe_lst (pa_cons (pe_lst (pa_cons (pv 2) (pa_cons (pv 3) pa_nil))) (pa_cons (pe_lst (pa_cons (pe_revT K (pv 2)) (pa_cons (pv 3) pa_nil))) (pa_cons (pe_lst (pa_cons (pe_op (catA K) (pe_slice (slA K) (pv 2) po_none (po_some (pe_un un_neg pe_int))) (pe_tup (pa_cons pe_str pa_nil))) (pa_cons (pv 3) pa_nil))) pa_nil)))))
      (pss_cons (ps_if (pt_cmpR op_lt (pe_ix (ixT K) (pe_ix (ixT K) (pv 7) pe_int (fun _ _ => rfl)) pe_int (fun _ _ => rfl)) (pe_op op_pow pe_int pe_int) (nomark _))
        (pss_one (ps_expr (pbm K PySem.F.plainAttrs_list PySem.F.slot_list_append PySem.F.type_list_append mt_append (pv 11) (pa_cons (pe_lst (pa_cons (pv 2) (pa_cons (pe_op (catA K) (pe_op (catA K) (pe_slice (slA K) (pv 3) po_none (po_some (pv 6))) (pe_tup (pa_cons (pe_op (catA K) (pe_tup (pa_cons (pv 8) pa_nil)) (pe_slice (slA K) (pv 7) (po_some pe_int) po_none)) pa_nil))) (pe_slice (slA K) (pv 3) (po_some (pe_op op_add (pv 6) pe_int)) po_none)) pa_nil))) pa_nil)))) pss_nil)
      (pss_cons (ps_set (i := 11) scRight.nd rfl (Or.inl rfl) (pe_op op_cat (pv 11) (pe_lst (pa_cons (pe_lst (pa_cons (pv 2) (pa_cons (pe_op (catA K) (pe_op (catA K) (pe_slice (slA K) (pv 3) po_none (po_some (pv 6))) (pe_tup (pa_cons (pv 9) pa_nil))) (pe_slice (slA K) (pv 3) (po_some (pe_op op_add (pv 6) pe_int)) po_none)) pa_nil))) (pa_cons (pe_lst (pa_cons (pv 2) (pa_cons (pe_op (catA K) (pv 3) (pe_slice (slA K) (pv 3) po_none (po_some pe_int))) pa_nil))) pa_nil)))))
      (pss_cons (ps_for PassesOwn.never rfl (piL K (pe_op op_cat (pv 11) (pe_lst (pa_cons (pe_lst (pa_cons (pv 2) (pa_cons (pe_revT K (pv 3)) pa_nil))) pa_nil)))) (pg_name (i := 12) scRight.nd rfl (Or.inl rfl))
        (pss_cons (ps_set (i := 13) scRight.nd rfl (Or.inl rfl) (pe_mk U.mk_ hr (by decide) (pa_cons (pe_ix (ixL K) (pv 12) pe_int (fun _ _ => rfl)) (pa_cons (pe_ix (ixL K) (pv 12) pe_int (fun _ _ => rfl)) pa_nil))))
      (pss_one (ps_if (PW.pt (pw_or (pt_not (pt_val (pe_fnG DPR hg hr (by decide) (pa_cons (pv 4) (pa_cons (pv 13) (pa_cons (pe_cmpR (eqD K hr.units) (pv 12) (pe_lst (pa_cons (pv 2) (pa_cons (pv 3) pa_nil))) (nomark _)) pa_nil)))))) (pw_or1 (pt_cmpR op_ne (pe_callTy (strI U.st.at hr (by decide)) (by rfl) T.str (by decide +kernel) (pa_cons (pv 4) pa_nil)) (pv 5) (nomark _)))))
        (pss_one (ps_ret pe_bl)) pss_nil))))
      (pss_cons (ps_if (pt_not (pt_val (pe_fnG DPR hg hr (by decide) (pa_cons (pv 4) (pa_cons (pe_cm U.rd hr (by decide) (pe_globE U.cn.g) (pa_cons (pv 5) pa_nil)) (pa_cons pe_bl pa_nil))))))
        (pss_one (ps_ret pe_bl)) pss_nil)
      (pss_one (ps_for PassesOwn.never rfl (piL K (pe_lst (pa_cons (pv 5) (pa_cons (pv 2) (pa_cons (pv 3) (pa_cons (pe_tup (pa_cons (pv 2) (pa_cons (pv 3) pa_nil))) (pa_cons pe_non (pa_cons pe_bl (pa_cons (pe_callB (lenQ K) (by rfl) T.len (by decide +kernel) (pa_cons (pv 2) pa_nil)) (pa_cons pe_dnewK (pa_cons (pe_lst (pa_cons (pv 4) pa_nil)) (pa_cons pe_str pa_nil)))))))))))) (pg_name (i := 14) scRight.nd rfl (Or.inl rfl))
        (pss_one (ps_if (pt_not (pt_val (pe_fnG DPR hg hr (by decide) (pa_cons (pv 4) (pa_cons (pv 14) (pa_cons pe_bl pa_nil))))))
        (pss_one (ps_ret pe_bl)) pss_nil)))))))))))))))
      (pss_one (ps_ret pe_bl))), ?_⟩
    refine ⟨_, rfl, by decide, by decide, for_range (lo := 0) (n := 4) (fun i σ H1 => ∃ v1 v2 v3 v4 v5 v6 v7 v8 v9 v10 v11 v12 v13 v14 : Option V, σ = [some (.ref j), v1, v2, v3, v4, v5, v6, v7, v8, v9, v10, v11, v12, v13, v14] ∧ But j H H1 ∧ JugAt H1 j)
      ⟨none, none, none, none, none, none, none, none, none, none, none, none, none, none, rfl, But.refl, J⟩ ?_ ?_⟩
    · rintro i0 σ H1 hi ⟨v1, v2, v3, v4, v5, v6, v7, v8, v9, v10, v11, v12, v13, v14, rfl, b1, J1⟩
      refine ⟨_, rfl, j, 5, rfl, by decide, by decide, J1, fun H2 p a b ms ws b2 J2 np hp im2 iw2 dr hm => ?_⟩
      have mo := drawn_minds dr
      have wo := drawn_ways dr
      have m1 := mo.m1
      have m6 := mo.m6
      have w1 := dr.w1
      have w4 := dr.w4
      refine ⟨p, _, rfl, SqL.of hp, rfl, _, _, rfl, _, _, rfl, rfl, ?_⟩
      refine ⟨_, rfl, _, rfl, fun x0 dx nx ndx hne => ?_⟩
      have t3 := mk_same (C := C) nx ndx hne
      refine ⟨x0, dx, _, _, ms, ws, rfl, upd_same, Im.mono (Same.tups t3) _ _ im2, Im.mono (Same.tups t3) _ _ iw2, mo, wo, fun H3 bt3 c3 => ⟨rfl, ?_⟩⟩
      have s3 : Same H2 H3 := fun b o e => bt3 b o (ne_of_none e nx) (t3 b o e)
      refine ⟨_, rfl, _, rfl, .ref a, .ref b, ms, ws, rfl, Im.mono (Same.tups s3) _ _ im2, Im.mono (Same.tups s3) _ _ iw2, mo, wo, fun H4 s4 => ?_⟩
      have s24 := s3.trans s4
      have iw4 := Im.mono (Same.tups s24) _ _ iw2
      have J4 := J2.same s24
      obtain ⟨b', xs, eb, hb4, hall4⟩ := iw4.tuple
      cases eb
      have hxl : xs.length = ws.length := by rw [hall4.length, List.length_map]
      refine ⟨_, rfl, _, rfl, b, xs, rfl, .inr (SqT.of hb4), j, _, rfl, by omega, by omega, J4, fun H5 e b5 J5 e0 e1 => ?_⟩
      obtain ⟨q, rfl⟩ : ∃ q : Nat, e = q := ⟨e.toNat, by omega⟩
      have hq : q < ws.length := by omega
      have T5 := b5.tups J4
      have c5 : CouncilAt C H5 x0 (.ref a) (.ref b) ms ws := (c3.same s4).mono (fun o e => by
        obtain ⟨dy, h1⟩ := (c3.same s4).ob
        obtain ⟨q1, q2, q3, e3, _⟩ := J4
        exact b5 x0 o (ne_of h1 e3 (by intro z; cases z)) e) T5
      have im5 := Im.mono T5 _ _ (Im.mono (Same.tups s24) _ _ im2)
      have iw5 := Im.mono T5 _ _ iw4
      have hb5 := T5 _ _ hb4
      have hall5 := ImAll.mono T5 _ _ hall4
      have B5 : But j H H5 := ((b1.trans b2).trans (But.of s24)).trans b5
      clear im2 iw2 iw4 hb4 hall4 c3 hp
      refine ⟨_, _, _, rfl, ?_⟩
      -- the way, its first row, its first weight
      have hxq : xs[q]? = some (xs[q]'(by omega)) := List.getElem?_eq_getElem (by omega)
      obtain ⟨dw, hdw, imt⟩ := hall5.get hxq
      obtain ⟨wt, hwt⟩ : ∃ wt, ws[q]? = some wt := ⟨ws[q], List.getElem?_eq_getElem hq⟩
      rw [List.getElem?_map, hwt] at hdw
      cases hdw
      obtain ⟨tq, rs, etq, ht5, hrs⟩ := imt.tuple
      have okt := wo.way wt (List.mem_of_getElem? hwt)
      have smt := dr.sm wt (List.mem_of_getElem? hwt)
      have hwl := okt.1
      obtain ⟨r0, hr0⟩ : ∃ r0, wt[0]? = some r0 := ⟨wt[0]'(by omega), List.getElem?_eq_getElem (by omega)⟩
      have hrl : rs.length = wt.length := by rw [hrs.length, List.length_map]
      have hrq : rs[0]? = some (rs[0]'(by omega)) := List.getElem?_eq_getElem (by omega)
      obtain ⟨dr0, hdr0, imr⟩ := hrs.get hrq
      rw [List.getElem?_map, hr0] at hdr0
      cases hdr0
      obtain ⟨ar, zs, ear, har5, hzs⟩ := imr.tuple
      have ezs := hzs.ints
      subst ezs
      have okr := okt.2 r0 (List.mem_of_getElem? hr0)
      have smr := smt r0 (List.mem_of_getElem? hr0)
      have hr0l := okr.1
      obtain ⟨z0, hz0⟩ : ∃ z0, r0[0]? = some z0 := ⟨r0[0]'(by omega), List.getElem?_eq_getElem (by omega)⟩
      have hz0' : (r0.map V.int)[0]? = some (.int z0) := by rw [List.getElem?_map, hz0]; rfl
      have hm0 := okr.2.1 z0 (List.mem_of_getElem? hz0)
      rw [etq] at hxq imt
      rw [ear] at hrq imr
      refine ⟨_, rfl, _, rfl, b, xs, _, .ref tq, rfl, rfl, SqT.of hb5, atI_nat hxq, ?_⟩
      -- more
      refine ⟨_, rfl, tq, rs, _, .ref ar, rfl, rfl, SqT.of ht5, atI_nat (j := 0) hrq, ar, _, _, .int z0, rfl, rfl, SqT.of har5, atI_nat (j := 0) hz0', _, _, rfl, rfl, by show 1 ≤ sizeLine; decide, fun p1 np1 => ?_⟩
      have s6 : Same H5 (upd H5 p1 (.tup [.int (z0 + 1)])) := same_upd np1
      have i1 : Im (upd H5 p1 (.tup [.int (z0 + 1)])) (.ref p1) (.tuple [.int (z0 + 1)]) := .tup upd_same (.cons (.int _) .nil)
      generalize upd H5 p1 (.tup [.int (z0 + 1)]) = H6 at s6 i1 ⊢
      refine ⟨_, rfl, tq, rs, _, .ref ar, rfl, rfl, SqT.of (s6 _ _ ht5), atI_nat (j := 0) hrq, _, rfl, slFrom (Im.mono (Same.tups s6) _ _ imr) fun H7 p2 s7 i2 => ?_⟩
      have s57 := s6.trans s7
      have em : ([PyData.int (z0 + 1)] ++ cutL (r0.map PyData.int) (some 1) none) = ((z0 + 1) :: r0.drop 1).map PyData.int := by
        rw [cut1 (by rw [List.length_map]; omega), List.map_cons, List.map_drop]; rfl
      refine catIm (Im.mono (Same.tups s7) _ _ i1) i2 (by rw [cut1 (by rw [List.length_map]; omega), List.length_drop, List.length_map]; show 1 + (r0.length - 1) ≤ 1000; omega) fun H8 p3x s8 i3 => ?_
      rw [em] at i3
      have i3' : Im H8 (.ref p3x) (dRow ((z0 + 1) :: r0.drop 1)) := i3
      have s58 := s57.trans s8
      -- twice
      refine ⟨_, rfl, tq, rs, _, .ref ar, rfl, rfl, SqT.of (s58 _ _ ht5), atI_nat (j := 0) hrq, ar, rfl, ⟨_, SqT.of (s58 _ _ har5)⟩, fun D hD => ?_⟩
      refine lc_it (walk_tup (K := K) (a := ar) (xs := r0.map V.int)) (PvS H8 D ((r0.map f2).map V.int)) (pvs0 hD) (fun i Hx _ h => SqT.of (h.1 _ _ (s58 _ _ har5))) ?_ (fun H9 h9 => ?_)
      · rintro i x _ Hx hi2 h ⟨rfl, hx⟩
        rw [List.getElem?_map] at hx
        cases hz : r0[i]? with
        | none => rw [hz] at hx; cases hx
        | some z =>
          rw [hz] at hx
          cases hx
          have hmz := okr.2.1 z (List.mem_of_getElem? hz)
          have hf : ((r0.map f2).map V.int)[i]? = some (V.int (f2 z)) := by rw [List.getElem?_map, List.getElem?_map, hz]; rfl
          have fin := fun {Hy : Hp} (sy : Same Hx Hy) => pvs1 hD h sy (by rw [List.length_map, List.length_map]; omega) hf
          refine ⟨rfl, turnY ?_⟩
          refine ⟨_, rfl, _, _, rfl, rfl, ⟨by decide, by decide, by decide⟩, _, _, rfl, rfl, _, rfl, ite2 (fun hlt => ?_) (fun hlt => ?_)⟩
          · have hlt' : z < 1000000000 := of_decide_eq_true hlt
            have ef : f2 z = 2 * z := by unfold f2; rw [if_pos hlt']
            rw [ef] at fin
            exact ⟨_, rfl, _, _, rfl, rfl, .inl ⟨by decide, by decide⟩, fin (Same.refl _)⟩
          · have hlt' : ¬ z < 1000000000 := fun q => hlt (decide_eq_true q)
            have ef : f2 z = z - 1 := by unfold f2; rw [if_neg hlt']
            rw [ef] at fin
            exact ⟨_, rfl, _, _, rfl, rfl, fin (Same.refl _)⟩
      obtain ⟨s9, hl9⟩ := pvsE h9 (by rw [List.length_map, List.length_map, List.length_map])
      refine ⟨D, _, rfl, .inl ⟨SqL.of hl9, fun p4 np4 => ⟨by show 1 ≤ sizeLine; decide, fun p5 np5 => ?_⟩⟩⟩
      have s10 : Same H9 (upd (upd H9 p4 (.tup ((r0.map f2).map V.int))) p5 (.tup [.ref p4])) := (same_upd np4).trans (same_upd np5)
      have i5 : Im (upd (upd H9 p4 (.tup ((r0.map f2).map V.int))) p5 (.tup [.ref p4])) (.ref p5) (.tuple [dRow (r0.map f2)]) :=
        .tup upd_same (.cons (.tup (same_upd np5 _ _ upd_same) (imInts _)) .nil)
      generalize upd (upd H9 p4 (.tup ((r0.map f2).map V.int))) p5 (.tup [.ref p4]) = H10 at s10 i5 ⊢
      have s510 := (s58.trans s9).trans s10
      refine ⟨_, rfl, _, rfl, slFrom (Im.mono (Same.tups s510) _ _ imt) fun H11 p6 s11 i6 => ?_⟩
      have et : ([dRow (r0.map f2)] ++ cutL (wt.map dRow) (some 1) none) = (r0.map f2 :: wt.drop 1).map dRow := by
        rw [cut1 (by rw [List.length_map]; omega), List.map_cons, List.map_drop]; rfl
      refine catIm (Im.mono (Same.tups s11) _ _ i5) i6 (by rw [cut1 (by rw [List.length_map]; omega), List.length_drop, List.length_map]; show 1 + (wt.length - 1) ≤ 1000; omega) fun H12 p7 s12 i7 => ?_
      rw [et] at i7
      have i7' : Im H12 (.ref p7) (dWay (r0.map f2 :: wt.drop 1)) := i7
      have s812 := ((s9.trans s10).trans s11).trans s12
      have s512 := s58.trans s812
      have i3w := Im.mono (Same.tups s812) _ _ i3'
      have okTwice : WayOk ms.length (r0.map f2 :: wt.drop 1) := wayRow0 okt m1 (rowTwice okr smr)
      have ia12 := Im.mono (Same.tups s512) _ _ im5
      have ib12 := Im.mono (Same.tups s512) _ _ iw5
      have it12 := Im.mono (Same.tups s512) _ _ imt
      have ht12 := s512 _ _ ht5
      have ha12 := s512 _ _ har5
      have c12 := c5.same s512
      have J12 := J5.same s512
      have B12 : But j H H12 := B5.trans (But.of s512)
      -- the first three others
      refine ⟨_, rfl, _, rfl, by show 2 ≤ sizeLine; decide, fun q1 nq1 => ?_⟩
      have u1 : Same H12 (upd H12 q1 (.lst [.ref a, .ref b])) := same_upd nq1
      have P1 : PairAt (upd H12 q1 (.lst [.ref a, .ref b])) q1 a b (ms, ws) := ⟨upd_same, Im.mono (Same.tups u1) _ _ ia12, Im.mono (Same.tups u1) _ _ ib12, mo, wo⟩
      generalize upd H12 q1 (.lst [.ref a, .ref b]) = H13 at u1 P1 ⊢
      obtain ⟨a', hs, ea, hsa, hsall⟩ := (Im.mono (Same.tups u1) _ _ ia12).tuple
      cases ea
      refine ⟨_, rfl, a, hs, rfl, SqT.of hsa, fun pr npr => ⟨_, rfl, by show 2 ≤ sizeLine; decide, fun q2 nq2 => ?_⟩⟩
      have u2 : Same H13 (upd (upd H13 pr (.tup hs.reverse)) q2 (.lst [.ref pr, .ref b])) := (same_upd npr).trans (same_upd nq2)
      have er : dMinds ms.reverse = .tuple ((ms.map PyData.str).reverse) := by
        unfold dMinds
        rw [List.map_reverse]
      have P2 : PairAt (upd (upd H13 pr (.tup hs.reverse)) q2 (.lst [.ref pr, .ref b])) q2 pr b (ms.reverse, ws) :=
        ⟨upd_same, by rw [er]; exact .tup (same_upd nq2 _ _ upd_same) (ImAll.rev (ImAll.mono (Same.tups u2) _ _ hsall)), Im.mono (Same.tups (u1.trans u2)) _ _ ib12, mindsRev mo, by show WaysOk ms.reverse.length ws; rw [List.length_reverse]; exact wo⟩
      generalize upd (upd H13 pr (.tup hs.reverse)) q2 (.lst [.ref pr, .ref b]) = H14 at u2 P2 ⊢
      have u12 := u1.trans u2
      refine ⟨_, rfl, _, rfl, _, rfl, slIm (Im.mono (Same.tups u12) _ _ ia12) fun H15 pl u3 il => ⟨by show 1 ≤ sizeLine; decide, fun po npo => ?_⟩⟩
      have u4 : Same H15 (upd H15 po (.tup [.str "other"])) := same_upd npo
      have io : Im (upd H15 po (.tup [.str "other"])) (.ref po) (.tuple [.str "other"]) := .tup upd_same (.cons (.str _) .nil)
      generalize upd H15 po (.tup [.str "other"]) = H16 at u4 io ⊢
      refine catIm (Im.mono (Same.tups u4) _ _ il) io (by have := cutLen (ms.map PyData.str) none (some (-1)); rw [List.length_map] at this; show _ + 1 ≤ 1000; omega) fun H17 p3 u5 im3 => ?_
      have eo : (cutL (ms.map PyData.str) none (some (-1)) ++ [PyData.str "other"]) = (ms.take (ms.length - 1) ++ [("other" : Str)]).map PyData.str := by
        rw [cutL_last (by rw [List.length_map]; omega), List.map_append, List.length_map, List.map_take]; rfl
      rw [eo] at im3
      have u15 := ((u12.trans u3).trans u4).trans u5
      refine ⟨_, rfl, by show 2 ≤ sizeLine; decide, fun q3 nq3 => ?_⟩
      have u6 : Same H17 (upd H17 q3 (.lst [.ref p3, .ref b])) := same_upd nq3
      have el3 : (ms.take (ms.length - 1) ++ [("other" : Str)]).length = ms.length := by rw [List.length_append, List.length_take, List.length_singleton]; omega
      have P3 : PairAt (upd H17 q3 (.lst [.ref p3, .ref b])) q3 p3 b (ms.take (ms.length - 1) ++ [("other" : Str)], ws) :=
        ⟨upd_same, Im.mono (Same.tups u6) _ _ im3, Im.mono (Same.tups (u15.trans u6)) _ _ ib12, mindsOther dr, by show WaysOk (ms.take (ms.length - 1) ++ [("other" : Str)]).length ws; rw [el3]; exact wo⟩
      generalize upd H17 q3 (.lst [.ref p3, .ref b]) = H18 at u6 P3 ⊢
      have u16 := u15.trans u6
      have P1' := P1.same (((((u2.trans u3).trans u4).trans u5)).trans u6)
      have P2' := P2.same ((((u3.trans u4).trans u5)).trans u6)
      refine ⟨by show 3 ≤ sizeLine; decide, fun lo nlo => ?_⟩
      have u7 : Same H18 (upd H18 lo (.lst [.ref q1, .ref q2, .ref q3])) := same_upd nlo
      have hlo : upd H18 lo (.lst [.ref q1, .ref q2, .ref q3]) lo = some (.lst [.ref q1, .ref q2, .ref q3]) := upd_same
      have ne1 := ne_of_none P1'.ls nlo
      have ne2 := ne_of_none P2'.ls nlo
      have ne3 := ne_of_none P3.ls nlo
      have P1o := P1'.same u7
      have P2o := P2'.same u7
      have P3o := P3.same u7
      have u17 := u16.trans u7
      have lofree : H lo = none := (B12.trans (But.of u16)).freeJ (J12.same u16) nlo
      have jlo : lo ≠ j := by
        have := (J12.same u16).ne nlo
        exact fun z => this z.symm
      generalize upd H18 lo (.lst [.ref q1, .ref q2, .ref q3]) = Ho at u7 hlo P1o P2o P3o u17 ⊢
      have iao := Im.mono (Same.tups u17) _ _ ia12
      have ibo := Im.mono (Same.tups u17) _ _ ib12
      have ito := Im.mono (Same.tups u17) _ _ it12
      have hto := u17 _ _ ht12
      have hao := u17 _ _ ha12
      have co := c12.same u17
      have Jo := J12.same u17
      have imore := Im.mono (Same.tups u17) _ _ i3w
      have itwice := Im.mono (Same.tups u17) _ _ i7'
      have Bo : But j H Ho := B12.trans (But.of u17)
      have loT : ∀ {H' : Hp}, But lo Ho H' → TupS Ho H' := fun bt c ys e => bt c _ (ne_of e hlo (by intro z; cases z)) e
      dsimp only
      refine seqP (fun σ H' => ∃ os : List V, σ = [some (.ref j), some (.int (0 + (i0 : Int))), some (.ref a), some (.ref b), some (.ref x0), some (.str (councilT ms ws)), some (.int (q : Int)), some (.ref tq), some (.ref p3x), some (.ref p7), v10, some (.ref lo), v12, v13, v14] ∧ But lo Ho H' ∧ H' lo = some (.lst os) ∧ os.length ≤ 4 ∧ ∀ x ∈ os, ∃ p a' b' d, x = .ref p ∧ PairAt H' p a' b' d) (fun N hN => ?_) ?_
      · refine ⟨_, rfl, tq, rs, _, .ref ar, rfl, rfl, SqT.of hto, atI_nat (j := 0) hrq, ar, _, _, .int z0, rfl, rfl, SqT.of hao, atI_nat (j := 0) hz0', _, _, rfl, rfl, ⟨by decide, by decide, by decide⟩, _, _, rfl, rfl, _, rfl, ite2 (fun hlt => ?_) (fun _ => ?_)⟩
        · have hlt' : z0 < 1000000000 := of_decide_eq_true hlt
          have okMore : WayOk ms.length (((z0 + 1) :: r0.drop 1) :: wt.drop 1) := wayRow0 okt m1 (rowMore okr m1 hz0 hlt')
          refine ⟨_, rfl, .inl ⟨rfl, _, SqL.of hlo⟩, ?_⟩
          refine ⟨_, rfl, _, rfl, _, rfl, _, rfl, slIm ibo fun Ha pa sa ia1 => ?_⟩
          refine ⟨_, rfl, by show 1 ≤ sizeLine; decide, fun pb npb => ?_⟩
          have sb : Same Ha (upd Ha pb (.tup [.ref p3x])) := same_upd npb
          have ib1 : Im (upd Ha pb (.tup [.ref p3x])) (.ref pb) (.tuple [dRow ((z0 + 1) :: r0.drop 1)]) := .tup upd_same (.cons (Im.mono (Same.tups (sa.trans sb)) _ _ imore) .nil)
          generalize upd Ha pb (.tup [.ref p3x]) = Hb at sb ib1 ⊢
          have sab := sa.trans sb
          refine ⟨_, rfl, _, rfl, slFrom (Im.mono (Same.tups sab) _ _ ito) fun Hc pc sc ic => ?_⟩
          have en : ([dRow ((z0 + 1) :: r0.drop 1)] ++ cutL (wt.map dRow) (some 1) none) = (((z0 + 1) :: r0.drop 1) :: wt.drop 1).map dRow := by
            rw [cut1 (by rw [List.length_map]; omega), List.map_cons, List.map_drop]; rfl
          refine catIm (Im.mono (Same.tups sc) _ _ ib1) ic (by have := cutLen (wt.map dRow) (some 1) none; rw [List.length_map] at this; show 1 + _ ≤ 1000; omega) fun Hd pd sd id1 => ?_
          rw [en] at id1
          refine ⟨by show 1 ≤ sizeLine; decide, fun pe npe => ?_⟩
          have se : Same Hd (upd Hd pe (.tup [.ref pd])) := same_upd npe
          have ie1 : Im (upd Hd pe (.tup [.ref pd])) (.ref pe) (.tuple [dWay (((z0 + 1) :: r0.drop 1) :: wt.drop 1)]) := .tup upd_same (.cons (Im.mono (Same.tups se) _ _ id1) .nil)
          generalize upd Hd pe (.tup [.ref pd]) = He at se ie1 ⊢
          have sce := (sc.trans sd).trans se
          refine catIm (Im.mono (Same.tups (sb.trans sce)) _ _ ia1) ie1 (by have := cutLen (ws.map dWay) none (some (q : Int)); rw [List.length_map] at this; show _ + 1 ≤ 1000; omega) fun Hf pf sf if1 => ?_
          have saf := (sab.trans sce).trans sf
          refine ⟨_, rfl, _, rfl, _, _, rfl, rfl, _, rfl, slFrom (Im.mono (Same.tups saf) _ _ ibo) fun Hg pg sg ig => ?_⟩
          refine catIm (Im.mono (Same.tups sg) _ _ if1) ig (by have h1 := cutLen (ws.map dWay) none (some (q : Int)); have h2 := cutLen (ws.map dWay) (some ((q : Int) + 1)) none; rw [List.length_map] at h1 h2; rw [List.length_append]; show _ + 1 + _ ≤ 1000; omega) fun Hh ph sh ih => ?_
          rw [waysCut hq] at ih
          have sah := (saf.trans sg).trans sh
          refine ⟨by show 2 ≤ sizeLine; decide, fun qn nqn => ?_⟩
          have sn : Same Hh (upd Hh qn (.lst [.ref a, .ref ph])) := same_upd nqn
          have P4 : PairAt (upd Hh qn (.lst [.ref a, .ref ph])) qn a ph (ms, ws.take q ++ [((z0 + 1) :: r0.drop 1) :: wt.drop 1] ++ ws.drop (q + 1)) := ⟨upd_same, Im.mono (Same.tups (sah.trans sn)) _ _ iao, Im.mono (Same.tups sn) _ _ ih, mo, waysSet wo hq okMore⟩
          have ne4 : qn ≠ lo := fun z => by rw [z] at nqn; rw [sah _ _ hlo] at nqn; cases nqn
          generalize upd Hh qn (.lst [.ref a, .ref ph]) = Hi at sn P4 ⊢
          have sai := sah.trans sn
          have hloi := sai _ _ hlo
          refine ⟨lo, _, .ref qn, rfl, rfl, hloi, by show 3 < sizeLine; decide, hN _ _ ⟨_, rfl, fun c o n e => ?_, upd_same, by show 4 ≤ 4; decide, fun x hx => ?_⟩⟩
          · rw [upd_ne n]
            exact sai c o e
          · have hx' : x ∈ [V.ref q1, .ref q2, .ref q3, .ref qn] := hx
            simp only [List.mem_cons, List.not_mem_nil, or_false] at hx'
            rcases hx' with rfl | rfl | rfl | rfl
            · exact ⟨q1, _, _, _, rfl, (P1o.same sai).lst hloi ne1⟩
            · exact ⟨q2, _, _, _, rfl, (P2o.same sai).lst hloi ne2⟩
            · exact ⟨q3, _, _, _, rfl, (P3o.same sai).lst hloi ne3⟩
            · exact ⟨qn, _, _, _, rfl, P4.lst hloi ne4⟩
        · refine hN _ _ ⟨[.ref q1, .ref q2, .ref q3], rfl, fun c o _ e => e, hlo, by show 3 ≤ 4; decide, fun x hx => ?_⟩
          simp only [List.mem_cons, List.not_mem_nil, or_false] at hx
          rcases hx with rfl | rfl | rfl
          · exact ⟨q1, _, _, _, rfl, P1o⟩
          · exact ⟨q2, _, _, _, rfl, P2o⟩
          · exact ⟨q3, _, _, _, rfl, P3o⟩
      · rintro σ Hq ⟨os, rfl, bp, hlp, hos, hall⟩
        have tp := loT bp
        have iaq := Im.mono tp _ _ iao
        have ibq := Im.mono tp _ _ ibo
        have itw := Im.mono tp _ _ itwice
        have cq : CouncilAt C Hq x0 (.ref a) (.ref b) ms ws := co.mono (fun o e => by
          obtain ⟨dy, h1⟩ := co.ob
          exact bp x0 o (ne_of h1 hlo (by intro z; cases z)) e) tp
        have Jq : JugAt Hq j := by
          obtain ⟨g1, g2, g3, e3, g4⟩ := Jo
          exact ⟨g1, g2, g3, bp j _ jlo.symm e3, g4⟩
        have Bq : But j H Hq := fun c o n e => bp c o (ne_of_none e lofree) (Bo c o n e)
        -- two others more
        refine ⟨_, rfl, _, rfl, _, rfl, _, rfl, _, rfl, slIm ibq fun Ha pa sa ia1 => ?_⟩
        refine ⟨_, rfl, by show 1 ≤ sizeLine; decide, fun pb npb => ?_⟩
        have sb : Same Ha (upd Ha pb (.tup [.ref p7])) := same_upd npb
        have ib1 : Im (upd Ha pb (.tup [.ref p7])) (.ref pb) (.tuple [dWay (r0.map f2 :: wt.drop 1)]) := .tup upd_same (.cons (Im.mono (Same.tups (sa.trans sb)) _ _ itw) .nil)
        generalize upd Ha pb (.tup [.ref p7]) = Hb at sb ib1 ⊢
        refine catIm (Im.mono (Same.tups sb) _ _ ia1) ib1 (by have := cutLen (ws.map dWay) none (some (q : Int)); rw [List.length_map] at this; show _ + 1 ≤ 1000; omega) fun Hc pc sc ic => ?_
        have sac := (sa.trans sb).trans sc
        refine ⟨_, rfl, _, rfl, _, _, rfl, rfl, _, rfl, slFrom (Im.mono (Same.tups sac) _ _ ibq) fun Hd pd sd id1 => ?_⟩
        refine catIm (Im.mono (Same.tups sd) _ _ ic) id1 (by have h1 := cutLen (ws.map dWay) none (some (q : Int)); have h2 := cutLen (ws.map dWay) (some ((q : Int) + 1)) none; rw [List.length_map] at h1 h2; rw [List.length_append]; show _ + 1 + _ ≤ 1000; omega) fun He pe se ie => ?_
        rw [waysCut hq] at ie
        have sae := (sac.trans sd).trans se
        refine ⟨by show 2 ≤ sizeLine; decide, fun q4 nq4 => ?_⟩
        have s4' : Same He (upd He q4 (.lst [.ref a, .ref pe])) := same_upd nq4
        have P4 : PairAt (upd He q4 (.lst [.ref a, .ref pe])) q4 a pe (ms, ws.take q ++ [r0.map f2 :: wt.drop 1] ++ ws.drop (q + 1)) := ⟨upd_same, Im.mono (Same.tups (sae.trans s4')) _ _ iaq, Im.mono (Same.tups s4') _ _ ie, mo, waysSet wo hq okTwice⟩
        generalize upd He q4 (.lst [.ref a, .ref pe]) = Hf at s4' P4 ⊢
        have saf := sae.trans s4'
        refine ⟨_, rfl, _, rfl, _, rfl, _, rfl, slIm (Im.mono (Same.tups saf) _ _ ibq) fun Hg pg sg ig => ?_⟩
        refine catIm (Im.mono (Same.tups (saf.trans sg)) _ _ ibq) ig (by have h1 := cutLen (ws.map dWay) none (some 1); rw [List.length_map] at h1 ⊢; omega) fun Hh ph sh ih => ?_
        have e5 : PyData.tuple (ws.map dWay ++ cutL (ws.map dWay) none (some 1)) = dWays (ws ++ ws.take 1) := by
          rw [cutTo1 (by rw [List.length_map]; omega)]
          unfold dWays
          rw [List.map_append, List.map_take]
        rw [e5] at ih
        have sah := (saf.trans sg).trans sh
        refine ⟨by show 2 ≤ sizeLine; decide, fun q5 nq5 => ?_⟩
        have s5' : Same Hh (upd Hh q5 (.lst [.ref a, .ref ph])) := same_upd nq5
        have P5 : PairAt (upd Hh q5 (.lst [.ref a, .ref ph])) q5 a ph (ms, ws ++ ws.take 1) := ⟨upd_same, Im.mono (Same.tups (sah.trans s5')) _ _ iaq, Im.mono (Same.tups s5') _ _ ih, mo, waysMore wo w4⟩
        have P4' := P4.same ((sg.trans sh).trans s5')
        generalize upd Hh q5 (.lst [.ref a, .ref ph]) = Hi at s5' P5 P4' ⊢
        have sai := sah.trans s5'
        refine ⟨by show 2 ≤ sizeLine; decide, fun lz nlz => ?_⟩
        have sz : Same Hi (upd Hi lz (.lst [.ref q4, .ref q5])) := same_upd nlz
        have hlz : upd Hi lz (.lst [.ref q4, .ref q5]) lz = some (.lst [.ref q4, .ref q5]) := upd_same
        generalize upd Hi lz (.lst [.ref q4, .ref q5]) = Hj at sz hlz ⊢
        have saj := sai.trans sz
        refine ⟨lo, lz, _, _, rfl, rfl, saj _ _ hlp, hlz, by show os.length + 2 ≤ sizeLine; rw [sizeLine_eq]; omega, fun l2 nl2 => ?_⟩
        have s2' : Same Hj (upd Hj l2 (.lst (os ++ [.ref q4, .ref q5]))) := same_upd nl2
        have hl2 : upd Hj l2 (.lst (os ++ [.ref q4, .ref q5])) l2 = some (.lst (os ++ [.ref q4, .ref q5])) := upd_same
        generalize upd Hj l2 (.lst (os ++ [.ref q4, .ref q5])) = Hk at s2' hl2 ⊢
        have sak := saj.trans s2'
        -- over all others and one more
        have ibk := Im.mono (Same.tups sak) _ _ ibq
        obtain ⟨b'', bs, eb, hbs, hbsall⟩ := ibk.tuple
        cases eb
        refine ⟨_, rfl, _, rfl, _, rfl, b, bs, rfl, SqT.of hbs, fun pr2 npr2 => ⟨by show 2 ≤ sizeLine; decide, fun q6 nq6 => ?_⟩⟩
        have s6' : Same Hk (upd (upd Hk pr2 (.tup bs.reverse)) q6 (.lst [.ref a, .ref pr2])) := (same_upd npr2).trans (same_upd nq6)
        have er2 : dWays ws.reverse = .tuple ((ws.map dWay).reverse) := by
          unfold dWays
          rw [List.map_reverse]
        have P6 : PairAt (upd (upd Hk pr2 (.tup bs.reverse)) q6 (.lst [.ref a, .ref pr2])) q6 a pr2 (ms, ws.reverse) :=
          ⟨upd_same, Im.mono (Same.tups (sak.trans s6')) _ _ iaq, by show Im _ _ (dWays ws.reverse); rw [er2]; exact .tup (same_upd nq6 _ _ upd_same) (ImAll.rev (ImAll.mono (Same.tups s6') _ _ hbsall)), mo, waysRev wo⟩
        generalize upd (upd Hk pr2 (.tup bs.reverse)) q6 (.lst [.ref a, .ref pr2]) = Hl at s6' P6 ⊢
        refine ⟨by show 1 ≤ sizeLine; decide, fun lw nlw => ?_⟩
        have sw : Same Hl (upd Hl lw (.lst [.ref q6])) := same_upd nlw
        have hlw : upd Hl lw (.lst [.ref q6]) lw = some (.lst [.ref q6]) := upd_same
        generalize upd Hl lw (.lst [.ref q6]) = Hm at sw hlw ⊢
        refine ⟨l2, lw, _, _, rfl, rfl, sw _ _ (s6' _ _ hl2), hlw, by rw [List.length_append]; show os.length + 2 + 1 ≤ sizeLine; rw [sizeLine_eq]; omega, fun l3 nl3 => ?_⟩
        have s3' : Same Hm (upd Hm l3 (.lst ((os ++ [.ref q4, .ref q5]) ++ [.ref q6]))) := same_upd nl3
        have hl3 : upd Hm l3 (.lst ((os ++ [.ref q4, .ref q5]) ++ [.ref q6])) l3 = some (.lst ((os ++ [.ref q4, .ref q5]) ++ [.ref q6])) := upd_same
        generalize upd Hm l3 (.lst ((os ++ [.ref q4, .ref q5]) ++ [.ref q6])) = HL at s3' hl3 ⊢
        have skL := (s6'.trans sw).trans s3'
        have saL := sak.trans skL
        have every : ∀ x ∈ (os ++ [.ref q4, .ref q5]) ++ [V.ref q6], ∃ p a' b' d, x = .ref p ∧ PairAt HL p a' b' d := fun x hx => by
          rcases List.mem_append.mp hx with z | z
          · rcases List.mem_append.mp z with z | z
            · obtain ⟨p, a', b', d, e, g⟩ := hall x z
              exact ⟨p, a', b', d, e, g.same saL⟩
            · simp only [List.mem_cons, List.not_mem_nil, or_false] at z
              rcases z with rfl | rfl
              · exact ⟨q4, _, _, _, rfl, P4'.same ((sz.trans s2').trans skL)⟩
              · exact ⟨q5, _, _, _, rfl, P5.same ((sz.trans s2').trans skL)⟩
          · rw [List.mem_singleton.mp z]
            exact ⟨q6, _, _, _, rfl, P6.same (sw.trans s3')⟩
        have iaL := Im.mono (Same.tups saL) _ _ iaq
        have ibL := Im.mono (Same.tups saL) _ _ ibq
        have cL := cq.same saL
        refine ⟨l3, rfl, ⟨_, SqL.of hl3⟩, for_list (K := K) (a := l3) (xs := (os ++ [.ref q4, .ref q5]) ++ [.ref q6]) (fun i σ Hn => ∃ v12 v13 : Option V, σ = [some (.ref j), some (.int (0 + (i0 : Int))), some (.ref a), some (.ref b), some (.ref x0), some (.str (councilT ms ws)), some (.int (q : Int)), some (.ref tq), some (.ref p3x), some (.ref p7), v10, some (.ref l2), v12, v13, v14] ∧ Same HL Hn)
          ⟨v12, v13, rfl, Same.refl _⟩ (fun i σ Hn _ ⟨_, _, _, sn⟩ => SqL.of (sn _ _ hl3)) ?_ ?_⟩
        · rintro i x σ Hn hx ⟨w12, w13, rfl, sn⟩
          obtain ⟨pp, a', b', d, rfl, gp⟩ := every x (List.mem_of_getElem? hx)
          have gn := gp.same sn
          refine ⟨_, rfl, pp, _, _, .ref a', rfl, rfl, SqL.of gn.ls, atI_nat (j := 0) rfl, _, rfl, pp, _, _, .ref b', rfl, rfl, SqL.of gn.ls, atI_nat (j := 1) rfl, fun y dy ny ndy hney => ?_⟩
          have ty := mk_same (C := C) ny ndy hney
          refine ⟨y, dy, _, _, d.1, d.2, rfl, upd_same, Im.mono (Same.tups ty) _ _ gn.im, Im.mono (Same.tups ty) _ _ gn.iw, gn.mo, gn.wo, fun Hy bty cy => ⟨rfl, ?_⟩⟩
          have sy : Same Hn Hy := fun b o e => bty b o (ne_of_none e ny) (ty b o e)
          refine ⟨_, rfl, _, rfl, _, rfl, _, rfl, _, rfl, by show 2 ≤ sizeLine; decide, fun le nle => ?_⟩
          have se : Same Hy (upd Hy le (.lst [.ref a, .ref b])) := same_upd nle
          have sLe := (sn.trans sy).trans se
          have P0 : PairAt (upd Hy le (.lst [.ref a, .ref b])) le a b (ms, ws) := ⟨upd_same, Im.mono (Same.tups sLe) _ _ iaL, Im.mono (Same.tups sLe) _ _ ibL, mo, wo⟩
          have sh1 := dPair_lay gn.mo
          have sh2 := dPair_lay (d := (ms, ws)) mo
          refine ⟨dPairD d, dPairD (ms, ws), (gp.same sLe).dp, P0.dp, shaped_of ⟨sh1.1, Nat.le_trans sh1.2 (by decide)⟩, shaped_of ⟨sh2.1, Nat.le_trans sh2.2 (by decide)⟩, ?_⟩
          refine ⟨x0, _, _, ms, ws, .ref y, _, rfl, cL.same sLe, .inl ⟨y, _, _, d.1, d.2, rfl, cy.same se, by rw [eqv_pair, dec_comm ms d.1, dec_comm ws d.2]⟩, fun Hr sr => ⟨_, rfl, iteF ?_⟩⟩
          have cr := cL.same (sLe.trans sr)
          obtain ⟨dr', hr'⟩ := cr.ob
          refine ⟨_, rfl, x0, dr', _, rfl, hr', x0, _, _, ms, ws, rfl, cr, fun Hs ss => ⟨_, rfl, _, rfl, rfl, _, rfl, ?_⟩⟩
          rw [decide_eq_true rfl]
          exact iteF ⟨_, _, rfl, (sLe.trans sr).trans ss⟩
        · rintro σ Hn ⟨w12, w13, rfl, sn⟩
          refine ⟨_, rfl, rfl, _, rfl, ms, ws, rfl, mo, wo, fun Hz z mz wz sz nz cz => ?_⟩
          have snz := sn.trans sz
          refine ⟨x0, _, _, ms, ws, .ref z, true, rfl, cL.same snz, .inl ⟨z, mz, wz, ms, ws, rfl, cz, by rw [decide_eq_true rfl, decide_eq_true rfl]; rfl⟩, fun Hr sr => ⟨_, rfl, iteF ?_⟩⟩
          have snr := snz.trans sr
          refine ⟨_, rfl, _, rfl, _, rfl, _, rfl, _, rfl, by show 2 ≤ sizeLine; decide, fun pt npt => ?_⟩
          have sp1 : Same Hr (upd Hr pt (.tup [.ref a, .ref b])) := same_upd npt
          have hpt : upd Hr pt (.tup [.ref a, .ref b]) pt = some (.tup [.ref a, .ref b]) := upd_same
          generalize upd Hr pt (.tup [.ref a, .ref b]) = Ht at sp1 hpt ⊢
          obtain ⟨a1, as1, ea1, ha1, iaa⟩ := (Im.mono (Same.tups (snr.trans sp1)) _ _ iaL).tuple
          cases ea1
          obtain ⟨b1', bs1, eb1, hb1, ibb⟩ := (Im.mono (Same.tups (snr.trans sp1)) _ _ ibL).tuple
          cases eb1
          refine ⟨_, rfl, a, as1, rfl, .inr (SqT.of ha1), fun dd ndd => ?_⟩
          have sp2 : Same Ht (upd Ht dd (.dK [])) := same_upd ndd
          have hdd : upd Ht dd (.dK []) dd = some (.dK []) := upd_same
          generalize upd Ht dd (.dK []) = Hu at sp2 hdd ⊢
          refine ⟨_, rfl, by show 1 ≤ sizeLine; decide, fun lb nlb => ?_⟩
          have sp3 : Same Hu (upd Hu lb (.lst [.ref x0])) := same_upd nlb
          have hlb : upd Hu lb (.lst [.ref x0]) lb = some (.lst [.ref x0]) := upd_same
          generalize upd Hu lb (.lst [.ref x0]) = Hv at sp3 hlb ⊢
          refine ⟨by show 10 ≤ sizeLine; decide, fun lt nlt => ?_⟩
          have sp4 : Same Hv (upd Hv lt (.lst [.str (councilT ms ws), .ref a, .ref b, .ref pt, .non, .bl true, .int as1.length, .ref dd, .ref lb, .str ""])) := same_upd nlt
          have hlt : upd Hv lt (.lst [.str (councilT ms ws), .ref a, .ref b, .ref pt, .non, .bl true, .int as1.length, .ref dd, .ref lb, .str ""]) lt = some (.lst [.str (councilT ms ws), .ref a, .ref b, .ref pt, .non, .bl true, .int as1.length, .ref dd, .ref lb, .str ""]) := upd_same
          generalize upd Hv lt (.lst [.str (councilT ms ws), .ref a, .ref b, .ref pt, .non, .bl true, .int as1.length, .ref dd, .ref lb, .str ""]) = HT at sp4 hlt ⊢
          have s34 := sp3.trans sp4
          have s24 := sp2.trans s34
          have foes : ∀ x ∈ ([.str (councilT ms ws), .ref a, .ref b, .ref pt, .non, .bl true, .int as1.length, .ref dd, .ref lb, .str ""] : List V), ∃ T, Fo HT x T := fun x hx => by
            simp only [List.mem_cons, List.not_mem_nil, or_false] at hx
            rcases hx with rfl | rfl | rfl | rfl | rfl | rfl | rfl | rfl | rfl | rfl
            · exact ⟨_, .str _⟩
            · exact ⟨_, .tup (s24 _ _ ha1)⟩
            · exact ⟨_, .tup (s24 _ _ hb1)⟩
            · exact ⟨_, .tup (s24 _ _ hpt)⟩
            · exact ⟨_, .non⟩
            · exact ⟨_, .bl _⟩
            · exact ⟨_, .int _⟩
            · exact ⟨_, .dic (s34 _ _ hdd)⟩
            · exact ⟨_, .lst (sp4 _ _ hlb)⟩
            · exact ⟨_, .str _⟩
          have sLT := (snr.trans sp1).trans s24
          refine ⟨lt, rfl, ⟨_, SqL.of hlt⟩, for_list (K := K) (a := lt) (xs := [.str (councilT ms ws), .ref a, .ref b, .ref pt, .non, .bl true, .int as1.length, .ref dd, .ref lb, .str ""]) (fun i σ Hw => ∃ v14 : Option V, σ = [some (.ref j), some (.int (0 + (i0 : Int))), some (.ref a), some (.ref b), some (.ref x0), some (.str (councilT ms ws)), some (.int (q : Int)), some (.ref tq), some (.ref p3x), some (.ref p7), v10, some (.ref l2), w12, w13, v14] ∧ Same HT Hw)
            ⟨v14, rfl, Same.refl _⟩ (fun i σ Hw _ ⟨_, _, sw'⟩ => SqL.of (sw' _ _ hlt)) ?_ ?_⟩
          · rintro i x σ Hw hx ⟨w14, rfl, sw'⟩
            obtain ⟨TT, fo⟩ := foes x (List.mem_of_getElem? hx)
            exact ⟨_, rfl, _, rfl, x0, _, _, ms, ws, x, false, rfl, cL.same (sLT.trans sw'), .inr ⟨TT, fo.same sw', rfl⟩, fun Hr2 sr2 => ⟨_, rfl, iteF ⟨_, rfl, sw'.trans sr2⟩⟩⟩
          · rintro σ Hw ⟨w14, rfl, sw'⟩
            have sEnd := saL.trans (sLT.trans sw')
            exact ⟨_, _, _, _, _, _, _, _, _, _, _, _, _, _, rfl, Bq.trans (But.of sEnd), Jq.same sEnd⟩
    · rintro σ H1 ⟨v1, v2, v3, v4, v5, v6, v7, v8, v9, v10, v11, v12, v13, v14, rfl, b1, J1⟩
      exact k H1 b1
end
end M

namespace M
open PySem L2 U
abbrev sCMn : Stmt := inClass (top 26) 2
abbrev nCMn : List Str := ["self"]
abbrev pCMn : List Str := ["self"]
theorem scCMn : FnScope nCMn pCMn (defScope sCMn) := ⟨rfl, rfl, rfl, by decide +kernel, rfl, by decide +kernel, by decide +kernel⟩
abbrev sCWy : Stmt := inClass (top 26) 3
abbrev nCWy : List Str := ["self"]
abbrev pCWy : List Str := ["self"]
theorem scCWy : FnScope nCWy pCWy (defScope sCWy) := ⟨rfl, rfl, rfl, by decide +kernel, rfl, by decide +kernel, by decide +kernel⟩
abbrev pJug : List Str := ["_law_script", "_law_at"]
abbrev pSip : List Str := ["_law_jug_here", "_law_most"]
abbrev pRow : List Str := ["_law_jug_here", "_law_size"]
abbrev pTalk : List Str := ["_law_jug_here", "_law_size"]
abbrev pPair : List Str := ["_law_jug_here", "_law_most_here"]
theorem kit_self (K : PySem.W.Frag) (C : Addr) : PySem.W.kitOne K (.ref C) (.ref C) = some true := by
  unfold PySem.W.kitOne
  rw [if_pos (beq_iff_eq.mpr rfl)]
theorem vals_rev : ∀ {vs : List V} {us : List Value}, Vals vs us → Vals vs.reverse us.reverse
  | _, _, .nil => .nil
  | _, _, .cons r1 rr => by
    rw [List.reverse_cons, List.reverse_cons]
    exact (vals_rev rr).append (.cons r1 .nil)
theorem kit_no {K : PySem.W.Frag} {C : Addr} {T : String} (hd : PySem.W.hasDictIn K C = true) (ty : PySem.W.typeIn K (.ref C) = some (.type "type")) (dn : PySem.W.subIn K (.type T) (.ref C) = some false) : PySem.W.kitOne K (.type T) (.ref C) = some false := by
  have hc : (PySem.W.clsIn K C).isSome = true := by
    obtain ⟨cd, hc, _⟩ := PySem.W.any_some hd
    rw [hc]; rfl
  have z : ((PySem.W.clsIn K C).isSome && PySem.W.typeIn K (.ref C) == some (.type "type")) = true := by rw [hc, ty]; exact beq_iff_eq.mpr rfl
  have n : ¬ ((Value.type T == Value.ref C) = true) := fun q => nomatch beq_iff_eq.mp q
  unfold PySem.W.kitOne
  rw [if_neg n]
  show (if ((PySem.W.clsIn K C).isSome && PySem.W.typeIn K (.ref C) == some (.type "type")) = true then PySem.W.subIn K (.type T) (.ref C) else none) = some false
  rw [if_pos z]
  exact dn
theorem all_mk {l : PySem.W.OpenLaw} {w : World} {K : PySem.W.Frag} {h : Heap} {mg : Str → Option Value} {fa : Addr} (X : K.In h) (G : h.Ns mainGlobals mg) (hfa : mg "law" = some (.ref fa))
    {fInt : Addr} {odInt anInt : Option Addr} {slInt : Array (Option Value)} {ocInt kVInt dcInt pmInt cdInt ctInt : Value}
    {fName : Addr} {odName anName : Option Addr} {slName : Array (Option Value)} {ocName kVName dcName pmName cdName ctName : Value}
    {fWgt : Addr} {odWgt anWgt : Option Addr} {slWgt : Array (Option Value)} {ocWgt kVWgt dcWgt pmWgt cdWgt ctWgt : Value}
    {fRoww : Addr} {odRoww anRoww : Option Addr} {slRoww : Array (Option Value)} {ocRoww kVRoww dcRoww pmRoww cdRoww ctRoww : Value}
    {fWay : Addr} {odWay anWay : Option Addr} {slWay : Array (Option Value)} {ocWay kVWay dcWay pmWay cdWay ctWay : Value}
    {fCMi : Addr} {odCMi anCMi : Option Addr} {slCMi : Array (Option Value)} {ocCMi kVCMi dcCMi pmCMi cdCMi ctCMi : Value}
    {fCWa : Addr} {odCWa anCWa : Option Addr} {slCWa : Array (Option Value)} {ocCWa kVCWa dcCWa pmCWa cdCWa ctCWa : Value}
    {fWT : Addr} {odWT anWT : Option Addr} {slWT : Array (Option Value)} {ocWT kVWT dcWT pmWT cdWT ctWT : Value}
    {fRWy : Addr} {odRWy anRWy : Option Addr} {slRWy : Array (Option Value)} {ocRWy kVRWy dcRWy pmRWy cdRWy ctRWy : Value}
    {fRWt : Addr} {odRWt anRWt : Option Addr} {slRWt : Array (Option Value)} {ocRWt kVRWt dcRWt pmRWt cdRWt ctRWt : Value}
    {fJug : Addr} {odJug anJug : Option Addr} {slJug : Array (Option Value)} {ocJug kVJug dcJug pmJug cdJug ctJug : Value}
    {fSip : Addr} {odSip anSip : Option Addr} {slSip : Array (Option Value)} {ocSip kVSip dcSip pmSip cdSip ctSip : Value}
    {fRow : Addr} {odRow anRow : Option Addr} {slRow : Array (Option Value)} {ocRow kVRow dcRow pmRow cdRow ctRow : Value}
    {fTalk : Addr} {odTalk anTalk : Option Addr} {slTalk : Array (Option Value)} {ocTalk kVTalk dcTalk pmTalk cdTalk ctTalk : Value}
    {fPair : Addr} {odPair anPair : Option Addr} {slPair : Array (Option Value)} {ocPair kVPair dcPair pmPair cdPair ctPair : Value}
    {fPage : Addr} {odPage anPage : Option Addr} {slPage : Array (Option Value)} {ocPage kVPage dcPage pmPage cdPage ctPage : Value}
    {fRight : Addr} {odRight anRight : Option Addr} {slRight : Array (Option Value)} {ocRight kVRight dcRight pmRight cdRight ctRight : Value}
    {fQuiet : Addr} {odQuiet anQuiet : Option Addr} {slQuiet : Array (Option Value)} {ocQuiet kVQuiet dcQuiet pmQuiet cdQuiet ctQuiet : Value}
    {fLaw : Addr} {odLaw anLaw : Option Addr} {slLaw : Array (Option Value)} {ocLaw kVLaw dcLaw pmLaw cdLaw ctLaw : Value}
    {fPR : Addr} {odPR anPR : Option Addr} {slPR : Array (Option Value)} {ocPR kVPR dcPR pmPR cdPR ctPR : Value}
    {cC : Addr}
    {fCIn : Addr} {odCIn anCIn : Option Addr} {slCIn : Array (Option Value)} {ocCIn kVCIn dcCIn pmCIn cdCIn ctCIn : Value}
    {fCLe : Addr} {odCLe anCLe : Option Addr} {slCLe : Array (Option Value)} {ocCLe kVCLe dcCLe pmCLe cdCLe ctCLe : Value}
    {fCSt : Addr} {odCSt anCSt : Option Addr} {slCSt : Array (Option Value)} {ocCSt kVCSt dcCSt pmCSt cdCSt ctCSt : Value}
    {fCEq : Addr} {odCEq anCEq : Option Addr} {slCEq : Array (Option Value)} {ocCEq kVCEq dcCEq pmCEq cdCEq ctCEq : Value}
    {fCRd qCRd : Addr} {rCRd : List Value} {odCRd anCRd : Option Addr} {slCRd : Array (Option Value)} {ocCRd kVCRd dcCRd pmCRd cdCRd ctCRd : Value}
    {fCMn qCMn : Addr} {rCMn : List Value} {odCMn anCMn : Option Addr} {slCMn : Array (Option Value)} {ocCMn kVCMn dcCMn pmCMn cdCMn ctCMn : Value}
    {fCWy qCWy : Addr} {rCWy : List Value} {odCWy anCWy : Option Addr} {slCWy : Array (Option Value)} {ocCWy kVCWy dcCWy pmCWy cdCWy ctCWy : Value}
    {tLETTERS : Tok}
    {tLETTERS_AND_DIGITS : Tok}
    {tLONGEST_NAME : Tok}
    {tMOST_MINDS : Tok}
    {tMOST_WAYS : Tok}
    {tMOST_WEIGHT : Tok}
    (aInt : PySem.W.nsIn K mainGlobals "is_integer" = some (some (.ref fInt)))
    (lInt : K.lookup fInt = some ⟨ocInt, odInt, .func (PySem.W.fnOf "is_integer" "is_integer" (defArgs sInt) (defBody sInt) (defScope sInt) .none kVInt dcInt pmInt anInt cdInt ctInt), slInt⟩)
    (cInt : PySem.W.codeIn K cdInt "is_integer" = true)
    (kInt : PySem.W.keepIn K (.ref fInt) = true)
    (aName : PySem.W.nsIn K mainGlobals "is_name" = some (some (.ref fName)))
    (lName : K.lookup fName = some ⟨ocName, odName, .func (PySem.W.fnOf "is_name" "is_name" (defArgs sName) (defBody sName) (defScope sName) .none kVName dcName pmName anName cdName ctName), slName⟩)
    (cName : PySem.W.codeIn K cdName "is_name" = true)
    (kName : PySem.W.keepIn K (.ref fName) = true)
    (aWgt : PySem.W.nsIn K mainGlobals "is_weight" = some (some (.ref fWgt)))
    (lWgt : K.lookup fWgt = some ⟨ocWgt, odWgt, .func (PySem.W.fnOf "is_weight" "is_weight" (defArgs sWgt) (defBody sWgt) (defScope sWgt) .none kVWgt dcWgt pmWgt anWgt cdWgt ctWgt), slWgt⟩)
    (cWgt : PySem.W.codeIn K cdWgt "is_weight" = true)
    (kWgt : PySem.W.keepIn K (.ref fWgt) = true)
    (aRoww : PySem.W.nsIn K mainGlobals "is_row" = some (some (.ref fRoww)))
    (lRoww : K.lookup fRoww = some ⟨ocRoww, odRoww, .func (PySem.W.fnOf "is_row" "is_row" (defArgs sRoww) (defBody sRoww) (defScope sRoww) .none kVRoww dcRoww pmRoww anRoww cdRoww ctRoww), slRoww⟩)
    (cRoww : PySem.W.codeIn K cdRoww "is_row" = true)
    (kRoww : PySem.W.keepIn K (.ref fRoww) = true)
    (aWay : PySem.W.nsIn K mainGlobals "is_way" = some (some (.ref fWay)))
    (lWay : K.lookup fWay = some ⟨ocWay, odWay, .func (PySem.W.fnOf "is_way" "is_way" (defArgs sWay) (defBody sWay) (defScope sWay) .none kVWay dcWay pmWay anWay cdWay ctWay), slWay⟩)
    (cWay : PySem.W.codeIn K cdWay "is_way" = true)
    (kWay : PySem.W.keepIn K (.ref fWay) = true)
    (aCMi : PySem.W.nsIn K mainGlobals "check_minds" = some (some (.ref fCMi)))
    (lCMi : K.lookup fCMi = some ⟨ocCMi, odCMi, .func (PySem.W.fnOf "check_minds" "check_minds" (defArgs sCMi) (defBody sCMi) (defScope sCMi) .none kVCMi dcCMi pmCMi anCMi cdCMi ctCMi), slCMi⟩)
    (cCMi : PySem.W.codeIn K cdCMi "check_minds" = true)
    (kCMi : PySem.W.keepIn K (.ref fCMi) = true)
    (aCWa : PySem.W.nsIn K mainGlobals "check_ways" = some (some (.ref fCWa)))
    (lCWa : K.lookup fCWa = some ⟨ocCWa, odCWa, .func (PySem.W.fnOf "check_ways" "check_ways" (defArgs sCWa) (defBody sCWa) (defScope sCWa) .none kVCWa dcCWa pmCWa anCWa cdCWa ctCWa), slCWa⟩)
    (cCWa : PySem.W.codeIn K cdCWa "check_ways" = true)
    (kCWa : PySem.W.keepIn K (.ref fCWa) = true)
    (aWT : PySem.W.nsIn K mainGlobals "way_text" = some (some (.ref fWT)))
    (lWT : K.lookup fWT = some ⟨ocWT, odWT, .func (PySem.W.fnOf "way_text" "way_text" (defArgs sWT) (defBody sWT) (defScope sWT) .none kVWT dcWT pmWT anWT cdWT ctWT), slWT⟩)
    (cWT : PySem.W.codeIn K cdWT "way_text" = true)
    (kWT : PySem.W.keepIn K (.ref fWT) = true)
    (aRWy : PySem.W.nsIn K mainGlobals "read_way" = some (some (.ref fRWy)))
    (lRWy : K.lookup fRWy = some ⟨ocRWy, odRWy, .func (PySem.W.fnOf "read_way" "read_way" (defArgs sRWy) (defBody sRWy) (defScope sRWy) .none kVRWy dcRWy pmRWy anRWy cdRWy ctRWy), slRWy⟩)
    (cRWy : PySem.W.codeIn K cdRWy "read_way" = true)
    (kRWy : PySem.W.keepIn K (.ref fRWy) = true)
    (aRWt : PySem.W.nsIn K mainGlobals "read_weight" = some (some (.ref fRWt)))
    (lRWt : K.lookup fRWt = some ⟨ocRWt, odRWt, .func (PySem.W.fnOf "read_weight" "read_weight" (defArgs sRWt) (defBody sRWt) (defScope sRWt) .none kVRWt dcRWt pmRWt anRWt cdRWt ctRWt), slRWt⟩)
    (cRWt : PySem.W.codeIn K cdRWt "read_weight" = true)
    (kRWt : PySem.W.keepIn K (.ref fRWt) = true)
    (aJug : PySem.W.nsIn K mainGlobals "_law_jug" = some (some (.ref fJug)))
    (lJug : K.lookup fJug = some ⟨ocJug, odJug, .func (PySem.W.fnOf "_law_jug" "_law_jug" (defArgs sJug) (defBody sJug) (defScope sJug) .none kVJug dcJug pmJug anJug cdJug ctJug), slJug⟩)
    (cJug : PySem.W.codeIn K cdJug "_law_jug" = true)
    (kJug : PySem.W.keepIn K (.ref fJug) = true)
    (aSip : PySem.W.nsIn K mainGlobals "_law_sip" = some (some (.ref fSip)))
    (lSip : K.lookup fSip = some ⟨ocSip, odSip, .func (PySem.W.fnOf "_law_sip" "_law_sip" (defArgs sSip) (defBody sSip) (defScope sSip) .none kVSip dcSip pmSip anSip cdSip ctSip), slSip⟩)
    (cSip : PySem.W.codeIn K cdSip "_law_sip" = true)
    (kSip : PySem.W.keepIn K (.ref fSip) = true)
    (aRow : PySem.W.nsIn K mainGlobals "_law_row" = some (some (.ref fRow)))
    (lRow : K.lookup fRow = some ⟨ocRow, odRow, .func (PySem.W.fnOf "_law_row" "_law_row" (defArgs sRow) (defBody sRow) (defScope sRow) .none kVRow dcRow pmRow anRow cdRow ctRow), slRow⟩)
    (cRow : PySem.W.codeIn K cdRow "_law_row" = true)
    (kRow : PySem.W.keepIn K (.ref fRow) = true)
    (aTalk : PySem.W.nsIn K mainGlobals "_law_talk" = some (some (.ref fTalk)))
    (lTalk : K.lookup fTalk = some ⟨ocTalk, odTalk, .func (PySem.W.fnOf "_law_talk" "_law_talk" (defArgs sTalk) (defBody sTalk) (defScope sTalk) .none kVTalk dcTalk pmTalk anTalk cdTalk ctTalk), slTalk⟩)
    (cTalk : PySem.W.codeIn K cdTalk "_law_talk" = true)
    (kTalk : PySem.W.keepIn K (.ref fTalk) = true)
    (aPair : PySem.W.nsIn K mainGlobals "_law_pair" = some (some (.ref fPair)))
    (lPair : K.lookup fPair = some ⟨ocPair, odPair, .func (PySem.W.fnOf "_law_pair" "_law_pair" (defArgs sPair) (defBody sPair) (defScope sPair) .none kVPair dcPair pmPair anPair cdPair ctPair), slPair⟩)
    (cPair : PySem.W.codeIn K cdPair "_law_pair" = true)
    (kPair : PySem.W.keepIn K (.ref fPair) = true)
    (aPage : PySem.W.nsIn K mainGlobals "_law_page" = some (some (.ref fPage)))
    (lPage : K.lookup fPage = some ⟨ocPage, odPage, .func (PySem.W.fnOf "_law_page" "_law_page" (defArgs sPage) (defBody sPage) (defScope sPage) .none kVPage dcPage pmPage anPage cdPage ctPage), slPage⟩)
    (cPage : PySem.W.codeIn K cdPage "_law_page" = true)
    (kPage : PySem.W.keepIn K (.ref fPage) = true)
    (aRight : PySem.W.nsIn K mainGlobals "_law_right" = some (some (.ref fRight)))
    (lRight : K.lookup fRight = some ⟨ocRight, odRight, .func (PySem.W.fnOf "_law_right" "_law_right" (defArgs sRight) (defBody sRight) (defScope sRight) .none kVRight dcRight pmRight anRight cdRight ctRight), slRight⟩)
    (cRight : PySem.W.codeIn K cdRight "_law_right" = true)
    (kRight : PySem.W.keepIn K (.ref fRight) = true)
    (aQuiet : PySem.W.nsIn K mainGlobals "_law_quiet" = some (some (.ref fQuiet)))
    (lQuiet : K.lookup fQuiet = some ⟨ocQuiet, odQuiet, .func (PySem.W.fnOf "_law_quiet" "_law_quiet" (defArgs sQuiet) (defBody sQuiet) (defScope sQuiet) .none kVQuiet dcQuiet pmQuiet anQuiet cdQuiet ctQuiet), slQuiet⟩)
    (cQuiet : PySem.W.codeIn K cdQuiet "_law_quiet" = true)
    (kQuiet : PySem.W.keepIn K (.ref fQuiet) = true)
    (aLaw : PySem.W.nsIn K mainGlobals "law" = some (some (.ref fLaw)))
    (lLaw : K.lookup fLaw = some ⟨ocLaw, odLaw, .func (PySem.W.fnOf "law" "law" (defArgs sLaw) (defBody sLaw) (defScope sLaw) .none kVLaw dcLaw pmLaw anLaw cdLaw ctLaw), slLaw⟩)
    (cLaw : PySem.W.codeIn K cdLaw "law" = true)
    (kLaw : PySem.W.keepIn K (.ref fLaw) = true)
    (aPR : PySem.W.nsIn K mainGlobals "_law_pair_right" = some (some (.ref fPR)))
    (lPR : K.lookup fPR = some ⟨ocPR, odPR, .func (PySem.W.fnOf "_law_pair_right" "_law_pair_right" (defArgs sPR) (defBody sPR) (defScope sPR) .none kVPR dcPR pmPR anPR cdPR ctPR), slPR⟩)
    (cPR : PySem.W.codeIn K cdPR "_law_pair_right" = true)
    (kPR : PySem.W.keepIn K (.ref fPR) = true)
    (acC : PySem.W.nsIn K mainGlobals "Council" = some (some (.ref cC)))
    (aCIn : PySem.W.findIn K (.ref cC) "__init__" = some (some (.ref fCIn)))
    (iCIn : PySem.W.isFn K (.ref fCIn) = true)
    (lCIn : K.lookup fCIn = some ⟨ocCIn, odCIn, .func (PySem.W.fnOf "__init__" "Council.__init__" (defArgs sCIn) (defBody sCIn) (defScope sCIn) .none kVCIn dcCIn pmCIn anCIn cdCIn ctCIn), slCIn⟩)
    (cCIn : PySem.W.codeIn K cdCIn "Council.__init__" = true)
    (kCIn : PySem.W.keepIn K (.ref fCIn) = true)
    (aCLe : PySem.W.findIn K (.ref cC) "__len__" = some (some (.ref fCLe)))
    (iCLe : PySem.W.isFn K (.ref fCLe) = true)
    (lCLe : K.lookup fCLe = some ⟨ocCLe, odCLe, .func (PySem.W.fnOf "__len__" "Council.__len__" (defArgs sCLe) (defBody sCLe) (defScope sCLe) .none kVCLe dcCLe pmCLe anCLe cdCLe ctCLe), slCLe⟩)
    (cCLe : PySem.W.codeIn K cdCLe "Council.__len__" = true)
    (kCLe : PySem.W.keepIn K (.ref fCLe) = true)
    (aCSt : PySem.W.findIn K (.ref cC) "__str__" = some (some (.ref fCSt)))
    (iCSt : PySem.W.isFn K (.ref fCSt) = true)
    (lCSt : K.lookup fCSt = some ⟨ocCSt, odCSt, .func (PySem.W.fnOf "__str__" "Council.__str__" (defArgs sCSt) (defBody sCSt) (defScope sCSt) .none kVCSt dcCSt pmCSt anCSt cdCSt ctCSt), slCSt⟩)
    (cCSt : PySem.W.codeIn K cdCSt "Council.__str__" = true)
    (kCSt : PySem.W.keepIn K (.ref fCSt) = true)
    (aCEq : PySem.W.findIn K (.ref cC) "__eq__" = some (some (.ref fCEq)))
    (iCEq : PySem.W.isFn K (.ref fCEq) = true)
    (lCEq : K.lookup fCEq = some ⟨ocCEq, odCEq, .func (PySem.W.fnOf "__eq__" "Council.__eq__" (defArgs sCEq) (defBody sCEq) (defScope sCEq) .none kVCEq dcCEq pmCEq anCEq cdCEq ctCEq), slCEq⟩)
    (cCEq : PySem.W.codeIn K cdCEq "Council.__eq__" = true)
    (kCEq : PySem.W.keepIn K (.ref fCEq) = true)
    (uCRd : PySem.W.findCls K (.ref cC) (.type "type") "read" = some (.get (.builtin "classmethod.__get__") (.ref qCRd) .none (.ref cC)))
    (vCRd : PySem.W.recIn K qCRd "classmethod" = some (.ref fCRd :: rCRd))
    (wCRd : PySem.W.fnIn K fCRd = true)
    (lCRd : K.lookup fCRd = some ⟨ocCRd, odCRd, .func (PySem.W.fnOf "read" "Council.read" (defArgs sCRd) (defBody sCRd) (defScope sCRd) .none kVCRd dcCRd pmCRd anCRd cdCRd ctCRd), slCRd⟩)
    (cCRd : PySem.W.codeIn K cdCRd "Council.read" = true)
    (kCRd : PySem.W.keepIn K (.ref fCRd) = true)
    (uCMn : PySem.W.findIn K (.ref cC) "minds" = some (some (.ref qCMn)))
    (vCMn : PySem.W.specialIn K (.ref qCMn) "__get__" = some (some (.builtin "property.__get__")))
    (wCMn : PySem.W.takesIn K (.ref qCMn) = some true)
    (xCMn : PySem.W.recIn K qCMn "property" = some (.ref fCMn :: rCMn))
    (lCMn : K.lookup fCMn = some ⟨ocCMn, odCMn, .func (PySem.W.fnOf "minds" "Council.minds" (defArgs sCMn) (defBody sCMn) (defScope sCMn) .none kVCMn dcCMn pmCMn anCMn cdCMn ctCMn), slCMn⟩)
    (cCMn : PySem.W.codeIn K cdCMn "Council.minds" = true)
    (kCMn : PySem.W.keepIn K (.ref fCMn) = true)
    (uCWy : PySem.W.findIn K (.ref cC) "ways" = some (some (.ref qCWy)))
    (vCWy : PySem.W.specialIn K (.ref qCWy) "__get__" = some (some (.builtin "property.__get__")))
    (wCWy : PySem.W.takesIn K (.ref qCWy) = some true)
    (xCWy : PySem.W.recIn K qCWy "property" = some (.ref fCWy :: rCWy))
    (lCWy : K.lookup fCWy = some ⟨ocCWy, odCWy, .func (PySem.W.fnOf "ways" "Council.ways" (defArgs sCWy) (defBody sCWy) (defScope sCWy) .none kVCWy dcCWy pmCWy anCWy cdCWy ctCWy), slCWy⟩)
    (cCWy : PySem.W.codeIn K cdCWy "Council.ways" = true)
    (kCWy : PySem.W.keepIn K (.ref fCWy) = true)
    (pg : PySem.W.plainGet K cC Str.empty = true)
    (hd : PySem.W.hasDictIn K cC = true)
    (po : PySem.W.plainOver K cC = true)
    (sa : PySem.W.findIn K (.ref cC) "__setattr__" = some (some (.builtin "object.__setattr__")))
    (mk : PySem.W.makesIn K cC = true)
    (kc : PySem.W.keepIn K (.ref cC) = true)
    (nM : PySem.W.findIn K (.ref cC) "_minds" = some none)
    (nW : PySem.W.findIn K (.ref cC) "_ways" = some none)
    (o1 : PySem.W.findIn K (.ref cC) "__class__" = some (some (.builtin "object.__class__")))
    (o2 : PySem.W.specialIn K (.builtin "object.__class__") "__get__" = some (some (.builtin "getset_descriptor.__get__")))
    (o3 : PySem.W.takesIn K (.builtin "object.__class__") = some true)
    (o5 : PySem.W.mroIn K cC (.type "object") = some true)
    (cr : PySem.W.readsIn K cC (.type "type") = true)
    (cg : PySem.W.specialIn K (.ref cC) "__getattribute__" = some (some (.builtin "type.__getattribute__")))
    (ne : PySem.W.findIn K (.ref cC) "__ne__" = some (some (.builtin "object.__ne__")))
    (bo : PySem.W.findIn K (.ref cC) "__bool__" = some none)
    (tyC : PySem.W.typeIn K (.ref cC) = some (.type "type"))
    (upNoneType : PySem.W.subIn K (.ref cC) (.type "NoneType") = some false)
    (upbool : PySem.W.subIn K (.ref cC) (.type "bool") = some false)
    (upint : PySem.W.subIn K (.ref cC) (.type "int") = some false)
    (upstr : PySem.W.subIn K (.ref cC) (.type "str") = some false)
    (uplist : PySem.W.subIn K (.ref cC) (.type "list") = some false)
    (uptuple : PySem.W.subIn K (.ref cC) (.type "tuple") = some false)
    (updict : PySem.W.subIn K (.ref cC) (.type "dict") = some false)
    (dnNoneType : PySem.W.subIn K (.type "NoneType") (.ref cC) = some false)
    (dnbool : PySem.W.subIn K (.type "bool") (.ref cC) = some false)
    (dnint : PySem.W.subIn K (.type "int") (.ref cC) = some false)
    (dnstr : PySem.W.subIn K (.type "str") (.ref cC) = some false)
    (dnlist : PySem.W.subIn K (.type "list") (.ref cC) = some false)
    (dntuple : PySem.W.subIn K (.type "tuple") (.ref cC) = some false)
    (dndict : PySem.W.subIn K (.type "dict") (.ref cC) = some false)
    (gLETTERS : PySem.W.nsIn K mainGlobals "LETTERS" = some (some (.str "abcdefghijklmnopqrstuvwxyz" tLETTERS)))
    (gLETTERS_AND_DIGITS : PySem.W.nsIn K mainGlobals "LETTERS_AND_DIGITS" = some (some (.str "abcdefghijklmnopqrstuvwxyz0123456789" tLETTERS_AND_DIGITS)))
    (gLONGEST_NAME : PySem.W.nsIn K mainGlobals "LONGEST_NAME" = some (some (.int 8 tLONGEST_NAME)))
    (gMOST_MINDS : PySem.W.nsIn K mainGlobals "MOST_MINDS" = some (some (.int 6 tMOST_MINDS)))
    (gMOST_WAYS : PySem.W.nsIn K mainGlobals "MOST_WAYS" = some (some (.int 6 tMOST_WAYS)))
    (gMOST_WEIGHT : PySem.W.nsIn K mainGlobals "MOST_WEIGHT" = some (some (.int 1000000000 tMOST_WEIGHT)))
    (zlen : PySem.W.nsIn K mainGlobals "len" = some none)
    (zrange : PySem.W.nsIn K mainGlobals "range" = some none)
    (zint : PySem.W.nsIn K mainGlobals "int" = some none)
    (zabs : PySem.W.nsIn K mainGlobals "abs" = some none)
    (zdivmod : PySem.W.nsIn K mainGlobals "divmod" = some none)
    (zsum : PySem.W.nsIn K mainGlobals "sum" = some none)
    (ztuple : PySem.W.nsIn K mainGlobals "tuple" = some none)
    (zall : PySem.W.nsIn K mainGlobals "all" = some none)
    (zmax : PySem.W.nsIn K mainGlobals "max" = some none)
    (zmin : PySem.W.nsIn K mainGlobals "min" = some none)
    (zstr : PySem.W.nsIn K mainGlobals "str" = some none)
    (zbool : PySem.W.nsIn K mainGlobals "bool" = some none)
    (zisinstance : PySem.W.nsIn K mainGlobals "isinstance" = some none)
    (zenumerate : PySem.W.nsIn K mainGlobals "enumerate" = some none)
    (zrepr : PySem.W.nsIn K mainGlobals "repr" = some none) :
    ∃ fd : FuncData, (∀ (s : Shared) (v : Value), BindsTo s fd ⟨[v], []⟩ [("_law_script", v)]) ∧ ∀ base : Heap, K.In base → base.Ns mainGlobals mg → FnG l.prog w K mg base CX0 19 fa fd ["_law_script"] (spLaw K) := by
  have e := hfa.symm.trans (PySem.W.mg_of X G aLaw)
  cases e
  have FInt := fun_mk (st := sInt) lInt cInt kInt
  have bInt := FInt.binds (ps := pInt) fun _ _ _ _ _ _ us hl => match us, hl with | [_], _ => rfl
  have FName := fun_mk (st := sName) lName cName kName
  have bName := FName.binds (ps := pName) fun _ _ _ _ _ _ us hl => match us, hl with | [_], _ => rfl
  have FWgt := fun_mk (st := sWgt) lWgt cWgt kWgt
  have bWgt := FWgt.binds (ps := pWgt) fun _ _ _ _ _ _ us hl => match us, hl with | [_], _ => rfl
  have FRoww := fun_mk (st := sRoww) lRoww cRoww kRoww
  have bRoww := FRoww.binds (ps := pRoww) fun _ _ _ _ _ _ us hl => match us, hl with | [_, _], _ => rfl
  have FWay := fun_mk (st := sWay) lWay cWay kWay
  have bWay := FWay.binds (ps := pWay) fun _ _ _ _ _ _ us hl => match us, hl with | [_, _], _ => rfl
  have FCMi := fun_mk (st := sCMi) lCMi cCMi kCMi
  have bCMi := FCMi.binds (ps := pCMi) fun _ _ _ _ _ _ us hl => match us, hl with | [_], _ => rfl
  have FCWa := fun_mk (st := sCWa) lCWa cCWa kCWa
  have bCWa := FCWa.binds (ps := pCWa) fun _ _ _ _ _ _ us hl => match us, hl with | [_, _], _ => rfl
  have FWT := fun_mk (st := sWT) lWT cWT kWT
  have bWT := FWT.binds (ps := pWT) fun _ _ _ _ _ _ us hl => match us, hl with | [_], _ => rfl
  have FRWy := fun_mk (st := sRWy) lRWy cRWy kRWy
  have bRWy := FRWy.binds (ps := pRWy) fun _ _ _ _ _ _ us hl => match us, hl with | [_], _ => rfl
  have FRWt := fun_mk (st := sRWt) lRWt cRWt kRWt
  have bRWt := FRWt.binds (ps := pRWt) fun _ _ _ _ _ _ us hl => match us, hl with | [_], _ => rfl
  have FJug := fun_mk (st := sJug) lJug cJug kJug
  have bJug := FJug.binds (ps := pJug) fun _ _ _ _ _ _ us hl => match us, hl with | [_, _], _ => rfl
  have FSip := fun_mk (st := sSip) lSip cSip kSip
  have bSip := FSip.binds (ps := pSip) fun _ _ _ _ _ _ us hl => match us, hl with | [_, _], _ => rfl
  have FRow := fun_mk (st := sRow) lRow cRow kRow
  have bRow := FRow.binds (ps := pRow) fun _ _ _ _ _ _ us hl => match us, hl with | [_, _], _ => rfl
  have FTalk := fun_mk (st := sTalk) lTalk cTalk kTalk
  have bTalk := FTalk.binds (ps := pTalk) fun _ _ _ _ _ _ us hl => match us, hl with | [_, _], _ => rfl
  have FPair := fun_mk (st := sPair) lPair cPair kPair
  have bPair := FPair.binds (ps := pPair) fun _ _ _ _ _ _ us hl => match us, hl with | [_, _], _ => rfl
  have FPage := fun_mk (st := sPage) lPage cPage kPage
  have bPage := FPage.binds (ps := pPage) fun _ _ _ _ _ _ us hl => match us, hl with | [_, _], _ => rfl
  have FRight := fun_mk (st := sRight) lRight cRight kRight
  have bRight := FRight.binds (ps := pRight) fun _ _ _ _ _ _ us hl => match us, hl with | [_], _ => rfl
  have FQuiet := fun_mk (st := sQuiet) lQuiet cQuiet kQuiet
  have bQuiet := FQuiet.binds (ps := pQuiet) fun _ _ _ _ _ _ us hl => match us, hl with | [_], _ => rfl
  have FLaw := fun_mk (st := sLaw) lLaw cLaw kLaw
  have bLaw := FLaw.binds (ps := pLaw) fun _ _ _ _ _ _ us hl => match us, hl with | [_], _ => rfl
  have FPR := fun_mk (st := sPR) lPR cPR kPR
  have bPR := FPR.binds (ps := pPR) fun _ _ _ _ _ _ us hl => match us, hl with | [_, _, _], _ => rfl
  have FCIn := fun_mk (st := sCIn) lCIn cCIn kCIn
  have bCIn := FCIn.binds (ps := pCIn) fun _ _ _ _ _ _ us hl => match us, hl with | [_, _, _], _ => rfl
  have FCLe := fun_mk (st := sCLe) lCLe cCLe kCLe
  have bCLe := FCLe.binds (ps := pCLe) fun _ _ _ _ _ _ us hl => match us, hl with | [_], _ => rfl
  have FCSt := fun_mk (st := sCSt) lCSt cCSt kCSt
  have bCSt := FCSt.binds (ps := pCSt) fun _ _ _ _ _ _ us hl => match us, hl with | [_], _ => rfl
  have FCEq := fun_mk (st := sCEq) lCEq cCEq kCEq
  have bCEq := FCEq.binds (ps := pCEq) fun _ _ _ _ _ _ us hl => match us, hl with | [_, _], _ => rfl
  have FCRd := fun_mk (st := sCRd) lCRd cCRd kCRd
  have bCRd := FCRd.binds (ps := pCRd) fun _ _ _ _ _ _ us hl => match us, hl with | [_, _], _ => rfl
  have FCMn := fun_mk (st := sCMn) lCMn cCMn kCMn
  have bCMn := FCMn.binds (ps := pCMn) fun _ _ _ _ _ _ us hl => match us, hl with | [_], _ => rfl
  have FCWy := fun_mk (st := sCWy) lCWy cCWy kCWy
  have bCWy := FCWy.binds (ps := pCWy) fun _ _ _ _ _ _ us hl => match us, hl with | [_], _ => rfl
  have T : Bt mg := ⟨PySem.W.mg_none_of X G zlen, PySem.W.mg_none_of X G zrange, PySem.W.mg_none_of X G zint, PySem.W.mg_none_of X G zabs, PySem.W.mg_none_of X G zdivmod, PySem.W.mg_none_of X G zsum, PySem.W.mg_none_of X G ztuple, PySem.W.mg_none_of X G zall,
    PySem.W.mg_none_of X G zmax, PySem.W.mg_none_of X G zmin, PySem.W.mg_none_of X G zstr, PySem.W.mg_none_of X G zbool, PySem.W.mg_none_of X G zisinstance, PySem.W.mg_none_of X G zenumerate, PySem.W.mg_none_of X G zrepr,
    ⟨_, PySem.W.mg_of X G gLETTERS, _, rfl⟩, ⟨_, PySem.W.mg_of X G gLETTERS_AND_DIGITS, _, rfl⟩, ⟨_, PySem.W.mg_of X G gLONGEST_NAME, _, rfl⟩, ⟨_, PySem.W.mg_of X G gMOST_MINDS, _, rfl⟩, ⟨_, PySem.W.mg_of X G gMOST_WAYS, _, rfl⟩, ⟨_, PySem.W.mg_of X G gMOST_WEIGHT, _, rfl⟩⟩
  have U : Cn K mg cC := ⟨⟨pg, hd, po, sa⟩, nM, nW, PySem.W.mg_of X G acC, o1, o2, o3, o5, kit_self K cC⟩
  refine ⟨PySem.W.fnOf "law" "law" (defArgs sLaw) (defBody sLaw) (defScope sLaw) .none kVLaw dcLaw pmLaw anLaw cdLaw ctLaw, fun s v => .of_eq rfl, fun base _ _ => ?_⟩
  have dInt : DefX l.prog w K mg base 1 "is_integer" pInt (spInt K) := ⟨_, _, ok_int FInt T, PySem.W.mg_of X G aInt, kInt, bInt⟩
  have dName : DefX l.prog w K mg base 1 "is_name" pName spName := ⟨_, _, ok_name FName T, PySem.W.mg_of X G aName, kName, bName⟩
  have dWgt : DefX l.prog w K mg base 3 "is_weight" pWgt spWgt := ⟨_, _, ok_wgt FWgt T dInt, PySem.W.mg_of X G aWgt, kWgt, bWgt⟩
  have dRoww : DefX l.prog w K mg base 5 "is_row" pRoww spRoww := ⟨_, _, ok_roww FRoww T dWgt, PySem.W.mg_of X G aRoww, kRoww, bRoww⟩
  have dWay : DefX l.prog w K mg base 7 "is_way" pWay spWay := ⟨_, _, ok_way FWay T dRoww, PySem.W.mg_of X G aWay, kWay, bWay⟩
  have dCMi : DefX l.prog w K mg base 3 "check_minds" pCMi spCMi := ⟨_, _, ok_cmi FCMi T dName, PySem.W.mg_of X G aCMi, kCMi, bCMi⟩
  have dCWa : DefX l.prog w K mg base 9 "check_ways" pCWa spCWa := ⟨_, _, ok_cwa FCWa T dWay, PySem.W.mg_of X G aCWa, kCWa, bCWa⟩
  have dRWt : DefX l.prog w K mg base 1 "read_weight" pRWt spRWt := ⟨_, _, ok_rwt FRWt T, PySem.W.mg_of X G aRWt, kRWt, bRWt⟩
  have dWT : DefX l.prog w K mg base 1 "way_text" pWT spWT := ⟨_, _, ok_wt FWT T, PySem.W.mg_of X G aWT, kWT, bWT⟩
  have dRWy : DefX l.prog w K mg base 3 "read_way" pRWy spRWy := ⟨_, _, ok_rwy FRWy T dRWt, PySem.W.mg_of X G aRWy, kRWy, bRWy⟩
  have mkC : Mk K cC fCIn := ⟨mk, aCIn, iCIn, kc⟩
  have gIn : FnOk l.prog w K mg base CX0 11 fCIn _ pCIn (spCIn cC) := ok_cin FCIn T U dCMi dCWa
  have gRd : FnOk l.prog w K mg base CX0 13 fCRd _ pCRd (spCRd cC) := ok_crd FCRd T mkC gIn bCIn dRWy
  have V : Kn l.prog w K mg base cC := {
    cn := U
    mk_ := ⟨⟨_, _, mkC, gIn, bCIn, fun_kb FCIn (fun _ _ _ _ _ _ us ws h1 h2 => match us, ws, h1, h2 with | [_], [_, _], _, _ => rfl) fun r1 r2 => r1.append (vals_rev r2)⟩, PySem.W.mg_of X G acC⟩
    rd := ⟨⟨_, _, _, _, ⟨cr, cg⟩, ⟨uCRd, ⟨_, vCRd⟩, wCRd⟩, gRd, bCRd, fun_kb FCRd (fun _ _ _ _ _ _ us ws h1 h2 => match us, ws, h1, h2 with | [_], [_], _, _ => rfl) fun r1 r2 => r1.append r2⟩⟩
    gM := ⟨⟨_, _, _, _, ⟨uCMn, vCMn, wCMn, ⟨_, xCMn⟩⟩, fn_getter lCMn cCMn scCMn rfl rfl U.cl nM, bCMn⟩⟩
    gW := ⟨⟨_, _, _, _, ⟨uCWy, vCWy, wCWy, ⟨_, xCWy⟩⟩, fn_getter lCWy cCWy scCWy rfl rfl U.cl nW, bCWy⟩⟩
    le := ⟨⟨_, _, _, ok_cle FCLe T U, aCLe, iCLe, bCLe⟩⟩
    st := ⟨⟨_, _, _, ok_cst FCSt T U dWT, aCSt, iCSt, bCSt⟩⟩
    eq := ⟨⟨_, _, _, ok_ceq FCEq T U, aCEq, iCEq, bCEq⟩⟩
    ne := ne
    bo := bo }
  have dJug : DefX l.prog w K mg base 1 "_law_jug" ["_law_script", "_law_at"] (spJug K) := ⟨_, _, ok_jug FJug T, PySem.W.mg_of X G aJug, kJug, bJug⟩
  have dSip : DSip l.prog w K mg base := ⟨_, _, ok_sip FSip T, PySem.W.mg_of X G aSip, kSip, bSip⟩
  have dRow : DRow l.prog w K mg base := ⟨_, _, ok_row FRow T dSip, PySem.W.mg_of X G aRow, kRow, bRow⟩
  have dTalk : DTalk l.prog w K mg base := ⟨_, _, ok_talk FTalk T dRow, PySem.W.mg_of X G aTalk, kTalk, bTalk⟩
  have dPair : DefX l.prog w K mg base 5 "_law_pair" ["_law_jug_here", "_law_most_here"] spPair := ⟨_, _, ok_pair FPair T dSip dTalk, PySem.W.mg_of X G aPair, kPair, bPair⟩
  have dPage : DefX l.prog w K mg base 1 "_law_page" pPage spPage := ⟨_, _, ok_page FPage T, PySem.W.mg_of X G aPage, kPage, bPage⟩
  have fa : Fa K cC := ⟨fun fo => by
      cases fo with
      | non => exact ⟨upNoneType, dnNoneType⟩
      | bl b => exact ⟨upbool, dnbool⟩
      | int i => exact ⟨upint, dnint⟩
      | str y => exact ⟨upstr, dnstr⟩
      | lst h => exact ⟨uplist, dnlist⟩
      | tup h => exact ⟨uptuple, dntuple⟩
      | dic h => exact ⟨updict, dndict⟩, fun fo => by
      cases fo with
      | non => exact kit_no hd tyC dnNoneType
      | bl b => exact kit_no hd tyC dnbool
      | int i => exact kit_no hd tyC dnint
      | str y => exact kit_no hd tyC dnstr
      | lst h => exact kit_no hd tyC dnlist
      | tup h => exact kit_no hd tyC dntuple
      | dic h => exact kit_no hd tyC dndict⟩
  have eF : SpN l.prog w K mg base cC "__eq__" 1 (spCEqF cC) := ⟨⟨_, _, _, ok_ceqF FCEq T U fa, aCEq, iCEq, bCEq⟩⟩
  have dPR : DefG l.prog w K mg base 9 "_law_pair_right" pPR (spPR cC) := ⟨_, _, ok_pr FPR T V fa eF, PySem.W.mg_of X G aPR, kPR, bPR⟩
  have dRight : DefG l.prog w K mg base 15 "_law_right" pRight spRight := ⟨_, _, ok_right FRight T V dSip dPR dPair dPage, PySem.W.mg_of X G aRight, kRight, bRight⟩
  have dQuiet : DefG l.prog w K mg base 17 "_law_quiet" pQuiet spRight := ⟨_, _, ok_quiet FQuiet T dRight, PySem.W.mg_of X G aQuiet, kQuiet, bQuiet⟩
  exact ok_law FLaw T dJug dQuiet
end M

open PySem PySem.W PyProof.Rows
set_option maxRecDepth 100000 in
set_option maxHeartbeats 0 in
theorem PySem.Challenge.cw_alwaysagree_k07_councils_compared_holds : PySem.Challenge.rw_alwaysagree_k07_councils_compared.Holds := by
  w_on; o_law; k_head; (case hw => w_witness2)
  k_fill
  refine U.walkG (l := PySem.Challenge.rw_alwaysagree_k07_councils_compared) (n := 63) (k := 19) (x := "_law_script") (sp := M.spLaw) rfl (by decide) rfl ⟨rfl, by decide, by decide⟩ (fun w h Y => PySem.W.kIn_of Y) ?F (fun K H a ns hl hS => ⟨a, ns, rfl, hS, hl, fun _ => rfl⟩)
  case F =>
    intro w mg fa h KX G hmg
    refine' M.all_mk KX G hmg ?aInt ?lInt ?cInt ?kInt ?aName ?lName ?cName ?kName ?aWgt ?lWgt ?cWgt ?kWgt ?aRoww ?lRoww ?cRoww ?kRoww ?aWay ?lWay ?cWay ?kWay ?aCMi ?lCMi ?cCMi ?kCMi ?aCWa ?lCWa ?cCWa ?kCWa ?aWT ?lWT ?cWT ?kWT ?aRWy ?lRWy ?cRWy ?kRWy ?aRWt ?lRWt ?cRWt ?kRWt ?aJug ?lJug ?cJug ?kJug ?aSip ?lSip ?cSip ?kSip ?aRow ?lRow ?cRow ?kRow ?aTalk ?lTalk ?cTalk ?kTalk ?aPair ?lPair ?cPair ?kPair ?aPage ?lPage ?cPage ?kPage ?aRight ?lRight ?cRight ?kRight ?aQuiet ?lQuiet ?cQuiet ?kQuiet ?aLaw ?lLaw ?cLaw ?kLaw ?aPR ?lPR ?cPR ?kPR ?acC ?aCIn ?iCIn ?lCIn ?cCIn ?kCIn ?aCLe ?iCLe ?lCLe ?cCLe ?kCLe ?aCSt ?iCSt ?lCSt ?cCSt ?kCSt ?aCEq ?iCEq ?lCEq ?cCEq ?kCEq ?uCRd ?vCRd ?wCRd ?lCRd ?cCRd ?kCRd ?uCMn ?vCMn ?wCMn ?xCMn ?lCMn ?cCMn ?kCMn ?uCWy ?vCWy ?wCWy ?xCWy ?lCWy ?cCWy ?kCWy ?pg ?hd ?po ?sa ?mk ?kc ?nM ?nW ?o1 ?o2 ?o3 ?o5 ?cr ?cg ?ne ?bo ?tyC ?upNoneType ?upbool ?upint ?upstr ?uplist ?uptuple ?updict ?dnNoneType ?dnbool ?dnint ?dnstr ?dnlist ?dntuple ?dndict ?gLETTERS ?gLETTERS_AND_DIGITS ?gLONGEST_NAME ?gMOST_MINDS ?gMOST_WAYS ?gMOST_WEIGHT ?zlen ?zrange ?zint ?zabs ?zdivmod ?zsum ?ztuple ?zall ?zmax ?zmin ?zstr ?zbool ?zisinstance ?zenumerate ?zrepr
    (case aInt => k_is)
    (case lInt => k_is)
    (case cInt => k_is)
    (case kInt => k_is)
    (case aName => k_is)
    (case lName => k_is)
    (case cName => k_is)
    (case kName => k_is)
    (case aWgt => k_is)
    (case lWgt => k_is)
    (case cWgt => k_is)
    (case kWgt => k_is)
    (case aRoww => k_is)
    (case lRoww => k_is)
    (case cRoww => k_is)
    (case kRoww => k_is)
    (case aWay => k_is)
    (case lWay => k_is)
    (case cWay => k_is)
    (case kWay => k_is)
    (case aCMi => k_is)
    (case lCMi => k_is)
    (case cCMi => k_is)
    (case kCMi => k_is)
    (case aCWa => k_is)
    (case lCWa => k_is)
    (case cCWa => k_is)
    (case kCWa => k_is)
    (case aWT => k_is)
    (case lWT => k_is)
    (case cWT => k_is)
    (case kWT => k_is)
    (case aRWy => k_is)
    (case lRWy => k_is)
    (case cRWy => k_is)
    (case kRWy => k_is)
    (case aRWt => k_is)
    (case lRWt => k_is)
    (case cRWt => k_is)
    (case kRWt => k_is)
    (case aJug => k_is)
    (case lJug => k_is)
    (case cJug => k_is)
    (case kJug => k_is)
    (case aSip => k_is)
    (case lSip => k_is)
    (case cSip => k_is)
    (case kSip => k_is)
    (case aRow => k_is)
    (case lRow => k_is)
    (case cRow => k_is)
    (case kRow => k_is)
    (case aTalk => k_is)
    (case lTalk => k_is)
    (case cTalk => k_is)
    (case kTalk => k_is)
    (case aPair => k_is)
    (case lPair => k_is)
    (case cPair => k_is)
    (case kPair => k_is)
    (case aPage => k_is)
    (case lPage => k_is)
    (case cPage => k_is)
    (case kPage => k_is)
    (case aRight => k_is)
    (case lRight => k_is)
    (case cRight => k_is)
    (case kRight => k_is)
    (case aQuiet => k_is)
    (case lQuiet => k_is)
    (case cQuiet => k_is)
    (case kQuiet => k_is)
    (case aLaw => k_is)
    (case lLaw => k_is)
    (case cLaw => k_is)
    (case kLaw => k_is)
    (case aPR => k_is)
    (case lPR => k_is)
    (case cPR => k_is)
    (case kPR => k_is)
    (case acC => k_is)
    (case aCIn => k_is)
    (case iCIn => k_is)
    (case lCIn => k_is)
    (case cCIn => k_is)
    (case kCIn => k_is)
    (case aCLe => k_is)
    (case iCLe => k_is)
    (case lCLe => k_is)
    (case cCLe => k_is)
    (case kCLe => k_is)
    (case aCSt => k_is)
    (case iCSt => k_is)
    (case lCSt => k_is)
    (case cCSt => k_is)
    (case kCSt => k_is)
    (case aCEq => k_is)
    (case iCEq => k_is)
    (case lCEq => k_is)
    (case cCEq => k_is)
    (case kCEq => k_is)
    (case uCRd => k_is)
    (case vCRd => k_is)
    (case wCRd => k_is)
    (case lCRd => k_is)
    (case cCRd => k_is)
    (case kCRd => k_is)
    (case uCMn => k_is)
    (case vCMn => k_is)
    (case wCMn => k_is)
    (case xCMn => k_is)
    (case lCMn => k_is)
    (case cCMn => k_is)
    (case kCMn => k_is)
    (case uCWy => k_is)
    (case vCWy => k_is)
    (case wCWy => k_is)
    (case xCWy => k_is)
    (case lCWy => k_is)
    (case cCWy => k_is)
    (case kCWy => k_is)
    (case pg => k_is)
    (case hd => k_is)
    (case po => k_is)
    (case sa => k_is)
    (case mk => k_is)
    (case kc => k_is)
    (case nM => k_is)
    (case nW => k_is)
    (case o1 => k_is)
    (case o2 => k_is)
    (case o3 => k_is)
    (case o5 => k_is)
    (case cr => k_is)
    (case cg => k_is)
    (case ne => k_is)
    (case bo => k_is)
    (case tyC => k_is)
    (case upNoneType => k_is)
    (case upbool => k_is)
    (case upint => k_is)
    (case upstr => k_is)
    (case uplist => k_is)
    (case uptuple => k_is)
    (case updict => k_is)
    (case dnNoneType => k_is)
    (case dnbool => k_is)
    (case dnint => k_is)
    (case dnstr => k_is)
    (case dnlist => k_is)
    (case dntuple => k_is)
    (case dndict => k_is)
    (case gLETTERS => k_is)
    (case gLETTERS_AND_DIGITS => k_is)
    (case gLONGEST_NAME => k_is)
    (case gMOST_MINDS => k_is)
    (case gMOST_WAYS => k_is)
    (case gMOST_WEIGHT => k_is)
    (case zlen => k_is)
    (case zrange => k_is)
    (case zint => k_is)
    (case zabs => k_is)
    (case zdivmod => k_is)
    (case zsum => k_is)
    (case ztuple => k_is)
    (case zall => k_is)
    (case zmax => k_is)
    (case zmin => k_is)
    (case zstr => k_is)
    (case zbool => k_is)
    (case zisinstance => k_is)
    (case zenumerate => k_is)
    (case zrepr => k_is)

