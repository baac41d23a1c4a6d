import PyProof.Rows.All
import Wide.All
import OpenK.AllK
import Wide.FinOn
import KE.KStateDown
import Lean
import HandS.ForMost
import HandS.Codes
import HandS.Defaults
import HandS.IsInst
import HandS.Wide
import HandS.WideBits
import HandS.Flow
import HandS.Deep
import HandS.Style
import HandS.Ends
import HandS.Small
import HandS.TupAny
import HandS.SortInts
import HandS.Head0
import HandS.Head1
import HandS.Head2
import HandS.HeadEnd
import HandS.HeadHook1
import HandS.HeadHook2
import HandS.AnyAll
import HandS.GenOver
import HandS.GenBody
import HandS.GenList
import HandS.GenYield
import HandS.Comp
import HandS.EndTab
import HandS.HeadHook3
import HandS.HeadHook4
import HandS.HeadWalk
import HandS.NestedK
import PyProof.Rows.ReprR
import PyProof.ReprBulk
import PyProof.Rows.RegStrFacts
import HandS.Star
import HandS.ExcField
import HandS.ExcValue
import HandS.ExcIs
import HandS.ExcOwn
import HandS.ExcInit
import KE.KExcIs
import HandS.SetFor
import HandS.Strs
import KE.DataMinMax
import HandS.Conv
import KE.KRevSl
import KE.GoesEnum
import HandS.Iter
import HandS.Walk
import HandS.SetBool
import HandS.TupMul
import HandS.TupLe
import KE.KMathGC
import HandS.Gcd
import HandS.Flt
import HandS.Head3
import HandS.Text
import HandS.Dict
import HandS.More
import HandS.Zip
import HandS.Rev
import PyProof.TupleOfSeq
import HandS.FStr
import HandS.RaiseMore
import HandS.WordsExc
import PySem.Challenge.RW_keytellers_k00_errors
set_option Elab.async false
set_option linter.all false
set_option maxRecDepth 100000
set_option maxHeartbeats 4000000
/-! ### what my proofs share: bundles of a def, calls by names alone, decks, data -/
namespace Ky
open PySem PySem.Spec PyProof.Rows L2
/-- a def of the text as it stands behind the top -/
structure Here (K : PySem.W.Frag) (mg : Str → Option Value) (x : Str) (st : Stmt) : Prop where
  ex : ∃ (f : Addr) (fd : FuncData), FunD K x x (defArgs st) (defBody st) (defScope st) [] [] f fd ∧ mg x = some (.ref f)
/-- .. and it keeps a promise -/
structure CalD (P : Program) (w : World) (K : PySem.W.Frag) (mg : Str → Option Value) (base : Heap) (k : Nat) (x : Str) (st : Stmt) (ps : List Str) (sp : Sp) : Prop where
  ex : ∃ (f : Addr) (fd : FuncData), FnOk P w K mg base CX0 k f fd ps sp ∧ FunD K x x (defArgs st) (defBody st) (defScope st) [] [] f fd ∧ mg x = some (.ref f) ∧ Binds K fd ps []
section
variable {P : Program} {w : World} {K : PySem.W.Frag} {mg : Str → Option Value} {base : Heap} {k : Nat} {x : Str} {st : Stmt} {ps : List Str} {sp : Sp}
theorem cal_mk {N : List Str} (D : Here K mg x st) (S : FnScope N ps (defScope st))
    (hb : ∀ (kV doc pm : Value) (an : Option Addr) (cdv ct : Value) (us : List Value), us.length = ps.length → bindArgs (PySem.W.fnOf x x (defArgs st) (defBody st) (defScope st) .none kV doc pm an cdv ct) ⟨us, []⟩ = pure (ps.zip us))
    (len : ∀ vs H Q E, sp vs H Q E → vs.length = ps.length)
    (hbody : ∀ (f : Addr) (cdv : Value) (A : Around) (outer : List Env) (s : Shared) (H : Hp) (vs : List V) (Q : VK) (E : XK), Room k (A.deeper (envOfC x (defScope st) s.heap.objs.size f cdv)) → sp vs H Q E →
      ∃ t, PSs (cxOf CX0 P w K mg base N x (defScope st) f cdv A outer s H E).nox (defBody st) t ∧ t { nx := fun _ H' => Q .non H', rt := Q } (start N vs) H) : CalD P w K mg base (k + 1) x st ps sp := by
  obtain ⟨f, fd, F, g⟩ := D.ex
  refine ⟨f, fd, F.ok S len fun cdv A outer s H vs Q E hr h => ?_, F, g, F.bindsN hb⟩
  obtain ⟨t, h1, h2⟩ := hbody f cdv A outer s H vs Q E hr h
  exact ⟨t, h1.nox, h2⟩
end
theorem pe_f {X : Cx} {k j : Nat} {x : Str} {st : Stmt} {ps : List Str} {sp : Sp} {p pos : Pos} {e : Expr} {es : List Expr} {t : TA} (c : CalD X.prog X.w X.K X.mg X.base k x st ps sp) (hr : Room j X.A) (hk : k ≤ j) (hg : Gl X x) (ha : PA X (e :: es) t)
    (hdb : (x == ("__debug__" : Str)) = false := by decide) (he : starEach (e :: es) X.env = (false, eval e X.env) :: starEach es X.env := by rfl) (hpl : (backTo pos (starEach es X.env)).any (·.1) = false := by rfl) :
    PE X (.Call (.Name x p) (e :: es) [] pos) (tCall sp [] E0 t) := by
  obtain ⟨f, fd, F, D, hm, b⟩ := c.ex
  exact pe_call F (hr.mono hk) hg hm D.kp b .nil pass0 ha hdb he hpl
/-! ### f(k = v, ..), names alone -/
def permL {α : Type} (perm : List Nat) (zs : List α) : List α := perm.filterMap fun i => zs[i]?
theorem permL_rel {vs : List V} {us : List Value} (r : Vals vs us) : ∀ perm : List Nat, Vals (permL perm vs) (permL perm us)
  | [] => .nil
  | i :: is => by
    unfold permL
    rw [List.filterMap_cons, List.filterMap_cons]
    have ih := permL_rel r is
    cases e : vs[i]? with
    | none =>
      rw [r.none_of e]
      exact ih
    | some v =>
      obtain ⟨u, e2, r2⟩ := r.get e
      rw [e2]
      exact .cons r2 ih
def tCallP (n : Nat) (perm : List Nat) (sp : Sp) (tk : TA) : TE := fun σ H Q => tk σ H fun zs H2 => zs.length = n ∧ sp (permL perm zs) H2 Q E0
theorem pe_k0 {X : Cx} {k j : Nat} {x : Str} {st : Stmt} {ps : List Str} {sp : Sp} {p pos : Pos} {kws : List Keyword} {tk : TA} (ks : List Str) (perm : List Nat)
    (h : ∀ (kV doc pm : Value) (an : Option Addr) (cdv ct : Value) (ws : List Value), ws.length = ks.length → bindArgs (PySem.W.fnOf x x (defArgs st) (defBody st) (defScope st) .none kV doc pm an cdv ct) ⟨[], ks.zip ws⟩ = pure (ps.zip (permL perm ws)))
    (c : CalD X.prog X.w X.K X.mg X.base k x st ps sp) (hr : Room j X.A) (hk : k ≤ j) (hg : Gl X x) (hkw : PK X kws tk)
    (hall : (backToKw pos (keywordEach kws X.env)).all (·.1.isSome) = true := by rfl) (hks : (backToKw pos (keywordEach kws X.env)).filterMap (·.1) = ks := by rfl) (hdb : (x == ("__debug__" : Str)) = false := by decide)
    (hpl : ((backTo pos (starEach [] X.env)).any (·.1) || (backToKw pos (keywordEach kws X.env)).any (·.1.isNone)) = false := by rfl) :
    PE X (.Call (.Name x p) [] kws pos) (tCallP ks.length perm sp tk) := by
  obtain ⟨f, fd, F, D, hm, b⟩ := c.ex
  have kb : KBn X.K fd ps 0 ks (fun _ ws => permL perm ws) (fun _ zs => permL perm zs) := by
    obtain ⟨oc, od, dV, kV, doc, pm, an, cdv, ct, osl, rfl, lk, hcd, hD, hK⟩ := D.ex
    rcases hD with ⟨_, rfl⟩ | ⟨e, _⟩
    · refine ⟨fun s us ws _ l1 l2 => ?_, fun _ r => permL_rel r perm⟩
      have e := List.eq_nil_of_length_eq_zero l1
      subst e
      exact .of_eq (h kV doc pm an cdv ct ws l2)
    · exact absurd rfl e
  refine ⟨fun pins s σ H Q I hh => ?_⟩
  refine wpAny_Call_Name_kw (ld_glob I hg hm ?_ hdb)
  refine PySem.W.callWith_KW0 (h₀ := X.base) I.ok.mod.kin D.kp hall ?_ hpl
  refine thn (hkw.run pos pins s σ H _ I hh) fun ws s2 ⟨zs, H2, I2, rz, l2, q2⟩ => ⟨I2.kIn, ?_⟩
  rw [hks]
  exact run_fnN (us := []) (vs := []) (F.mono hk) hr kb pass0 I2 .nil rz rfl l2 q2
/-! ### the heap but for one object -/
def Off (a : Addr) (H H' : Hp) : Prop := ∀ b o, b ≠ a → H b = some o → H' b = some o
theorem Off.refl (a : Addr) (H : Hp) : Off a H H := fun _ _ _ h => h
theorem Off.trans {a : Addr} {H H1 H2 : Hp} (h : Off a H H1) (h2 : Off a H1 H2) : Off a H H2 := fun b o n e => h2 b o n (h b o n e)
theorem Off.of {a : Addr} {H H' : Hp} (h : Same H H') : Off a H H' := fun b o _ e => h b o e
theorem Off.upd (a : Addr) (H : Hp) (o : HO) : Off a H (upd H a o) := fun b u n e => by rw [upd_ne n]; exact e
theorem same_upd {H : Hp} {p : Addr} {o : HO} (h : H p = none) : Same H (upd H p o) := fun b x e => by
  rw [upd_ne (ne_of_none e h)]
  exact e
theorem Same.tupS {K : PySem.W.Frag} {H H' : Hp} {a : Addr} {xs : List V} (e : Same H H') (h : SqT K H a xs) : SqT K H' a xs := by
  rcases h with (h | ⟨o, h⟩) | h
  · exact .inl (.inl (e _ _ h))
  · exact .inl (.inr ⟨o, e _ _ h⟩)
  · exact .inr h
theorem log2_small {z : Int} (h : z.natAbs < 2 ^ 200) : z.natAbs.log2 < 9000 := Nat.lt_of_lt_of_le (PySem.Flt.log2_lt_of (by decide) h) (by decide)
/-! ### decks of drawn numbers -/
def DeckAt (H : Hp) (a : Addr) : Prop := ∃ x y : Int, H a = some (.lst [.int x, .int y]) ∧ 0 ≤ y ∧ y < 18446744073709551616
theorem DeckAt.upd (H : Hp) (a : Addr) (x : Int) {y : Int} (h0 : 0 ≤ y) (h1 : y < 18446744073709551616) : DeckAt (upd H a (.lst [.int x, .int y])) a := ⟨x, y, upd_same, h0, h1⟩
theorem DeckAt.same {H H' : Hp} {a : Addr} (h : DeckAt H a) (s : Same H H') : DeckAt H' a := by
  obtain ⟨x, y, e, h0, h1⟩ := h
  exact ⟨x, y, s _ _ e, h0, h1⟩
def spTake : Sp := fun vs H Q _ => ∃ (a : Addr) (m : Int), vs = [.ref a, .int m] ∧ DeckAt H a ∧ 0 < m ∧ m.natAbs.log2 < 9000 ∧
  ∀ (t x y : Int), 0 ≤ t → t < m → 0 ≤ y → y < 18446744073709551616 → Q (.int t) (upd H a (.lst [.int x, .int y]))
def spDeck (K : PySem.W.Frag) : Sp := fun vs H Q _ => ∃ (s : Addr) (ns : List Int) (j : Nat), vs = [.ref s, .int (j : Int)] ∧ SqL K H s (ns.map V.int) ∧ j < 1000000 ∧
  ∀ (H' : Hp) (p : Addr), Same H H' → H p = none → DeckAt H' p → Q (.ref p) H'
theorem em61 (z : Int) : (z % 2305843009213693951).natAbs < 2 ^ 61 := by
  have h1 := Int.emod_nonneg z (show (2305843009213693951 : Int) ≠ 0 by decide)
  have h2 := Int.emod_lt_of_pos z (show (0 : Int) < 2305843009213693951 by decide)
  omega
/-! ### data -/
mutual
theorem Dp.same {K : PySem.W.Frag} {H H' : Hp} (s : Same H H') : ∀ (d : PyData) (v : V), Dp K H v d → Dp K H' v d
  | .none, _, h => by cases h; exact .non
  | .bool b, _, h => by cases h; exact .bl b
  | .int i, _, h => by cases h; exact .int i
  | .str x, _, h => by cases h; exact .str x
  | .list ds, _, h => by
    cases h with
    | lst h1 h2 => exact .lst (s.seq h1) (DpAll.same s ds _ h2)
  | .tuple ds, _, h => by
    cases h with
    | tup h1 h2 => exact .tup (Same.tupS s h1) (DpAll.same s ds _ h2)
  | .dict _, _, h => nomatch h
theorem DpAll.same {K : PySem.W.Frag} {H H' : Hp} (s : Same H H') : ∀ (ds : List PyData) (vs : List V), DpAll K H vs ds → DpAll K H' vs ds
  | [], _, h => by cases h; exact .nil
  | d :: ds, _, h => by
    cases h with
    | cons h1 h2 => exact .cons (Dp.same s d _ h1) (DpAll.same s ds _ h2)
end
/-- of nesting below n, no dicts, lists and tuples of fewer than 2 ^ 62 items -/
def Fit : Nat → PyData → Prop
  | 0, _ => False
  | _ + 1, .none => True
  | _ + 1, .bool _ => True
  | _ + 1, .int _ => True
  | _ + 1, .str _ => True
  | n + 1, .list ds => ds.length < 4611686018427387904 ∧ ∀ e ∈ ds, Fit n e
  | n + 1, .tuple ds => ds.length < 4611686018427387904 ∧ ∀ e ∈ ds, Fit n e
  | _ + 1, .dict _ => False
theorem DpAll.get {K : PySem.W.Frag} {H : Hp} : ∀ (ds : List PyData) {vs : List V} {i : Nat} {d : PyData}, DpAll K H vs ds → ds[i]? = some d → ∃ v, vs[i]? = some v ∧ Dp K H v d
  | [], _, _, _, _, e => by simp at e
  | d0 :: ds, _, i, d, h, e => by
    cases h with
    | cons h1 h2 =>
      cases i with
      | zero =>
        have e2 := Option.some.inj (show some d0 = some d from e)
        subst e2
        exact ⟨_, rfl, h1⟩
      | succ i =>
        obtain ⟨v, e1, e2⟩ := DpAll.get ds (i := i) h2 (by simpa using e)
        exact ⟨v, by simpa using e1, e2⟩
theorem DpAll.length {K : PySem.W.Frag} {H : Hp} : ∀ (ds : List PyData) {vs : List V}, DpAll K H vs ds → vs.length = ds.length
  | [], _, h => by cases h; rfl
  | d :: ds, _, h => by
    cases h with
    | cons h1 h2 => exact congrArg (· + 1) (DpAll.length ds h2)
theorem ty_list {K : PySem.W.Frag} {H : Hp} {a : Addr} {xs : List V} (h : SqL K H a xs) : TyX K H (.ref a) (.type "list") := by
  rcases h with (h | ⟨o, h⟩) | ⟨o, its, n, hk, hc, _⟩
  · exact .base (.lst h)
  · exact .base (.frz h)
  · exact .kList hk hc
theorem ty_tuple {K : PySem.W.Frag} {H : Hp} {a : Addr} {xs : List V} (h : SqT K H a xs) : TyX K H (.ref a) (.type "tuple") := by
  rcases h with (h | ⟨o, h⟩) | ⟨o, its, n, hk, hc, _⟩
  · exact .base (.tup h)
  · exact .fTuple h
  · exact .kTuple hk hc
/-- the built-in type of such data -/
def tyD : PyData → String
  | .none => "NoneType"
  | .bool _ => "bool"
  | .int _ => "int"
  | .str _ => "str"
  | .list _ => "list"
  | .tuple _ => "tuple"
  | .dict _ => "dict"
theorem ty_data {K : PySem.W.Frag} {H : Hp} {v : V} {d : PyData} (h : Dp K H v d) : TyX K H v (.type (tyD d)) := by
  cases h with
  | non => exact .base .non
  | bl b => exact .base (.bl b)
  | int i => exact .base (.int i)
  | str x => exact .base (.str x)
  | lst h _ => exact ty_list h
  | tup h _ => exact ty_tuple h
theorem kit2 {K : PySem.W.Frag} {a b c : String} {r s : Bool} (h1 : kitB a b = some r) (h2 : kitB a c = some s) : PySem.W.kitAny K (.type a) [.type b, .type c] = some (r || s) := by
  unfold PySem.W.kitAny
  rw [kit_ty h1]
  cases r with
  | true => rfl
  | false =>
    show PySem.W.kitAny K (.type a) [.type c] = some s
    unfold PySem.W.kitAny
    rw [kit_ty h2]
    cases s <;> rfl
/-- the same data at both: True -/
def spSame (K : PySem.W.Frag) (n : Nat) : Sp := fun vs H Q _ => ∃ (x y : V) (d : PyData), vs = [x, y] ∧ Dp K H x d ∧ Dp K H y d ∧ Fit n d ∧ ∀ H', Same H H' → Q (.bl true) H'
theorem dpI {K : PySem.W.Frag} {H : Hp} : ∀ l : List Int, DpAll K H (l.map V.int) (l.map PyData.int)
  | [] => .nil
  | i :: l => .cons (.int i) (dpI l)
theorem dpB {K : PySem.W.Frag} {H : Hp} : ∀ l : List Bool, DpAll K H (l.map V.bl) (l.map PyData.bool)
  | [] => .nil
  | i :: l => .cons (.bl i) (dpB l)
theorem fitI (n : Nat) (l : List Int) (h : l.length < 1000000) : Fit (n + 2) (.list (l.map PyData.int)) ∧ Fit (n + 2) (.tuple (l.map PyData.int)) := by
  have h1 : (l.map PyData.int).length < 4611686018427387904 := by
    rw [List.length_map]
    omega
  have h2 : ∀ e ∈ l.map PyData.int, Fit (n + 1) e := fun e he => by
    obtain ⟨i, _, rfl⟩ := List.mem_map.mp he
    exact trivial
  exact ⟨⟨h1, h2⟩, ⟨h1, h2⟩⟩
theorem fitB (n : Nat) (l : List Bool) (h : l.length < 1000000) : Fit (n + 2) (.list (l.map PyData.bool)) := by
  have h1 : (l.map PyData.bool).length < 4611686018427387904 := by
    rw [List.length_map]
    omega
  exact ⟨h1, fun e he => by
    obtain ⟨i, _, rfl⟩ := List.mem_map.mp he
    exact trivial⟩
/-- two lists of ints, one behind the other, that hold the same -/
theorem two_i {K : PySem.W.Frag} {H : Hp} {p1 p2 : Addr} (l l' : List Int) (e : l = l') (h1 : H p1 = some (.lst (l.map V.int))) (h2 : H p2 = none) :
    Dp K (upd H p2 (.lst (l'.map V.int))) (.ref p1) (.list (l.map PyData.int)) ∧ Dp K (upd H p2 (.lst (l'.map V.int))) (.ref p2) (.list (l.map PyData.int)) := by
  subst e
  exact ⟨.lst (SqL.of (same_upd h2 _ _ h1)) (dpI l), .lst (SqL.of upd_same) (dpI l)⟩
theorem two_b {K : PySem.W.Frag} {H : Hp} {p1 p2 : Addr} (l l' : List Bool) (e : l = l') (h1 : H p1 = some (.lst (l.map V.bl))) (h2 : H p2 = none) :
    Dp K (upd H p2 (.lst (l'.map V.bl))) (.ref p1) (.list (l.map PyData.bool)) ∧ Dp K (upd H p2 (.lst (l'.map V.bl))) (.ref p2) (.list (l.map PyData.bool)) := by
  subst e
  exact ⟨.lst (SqL.of (same_upd h2 _ _ h1)) (dpB l), .lst (SqL.of upd_same) (dpB l)⟩
/-! ### rules with the written part named (within a comprehension) -/
section
variable {X : Cx}
def tTru (K : PySem.W.Frag) (ta : TE) : TT := fun σ H Q => ta σ H fun x H' => ∃ k, TruV K x H' k ∧ Q k H'
theorem pt_truth_at (K : PySem.W.Frag) (e : X.K = K) {a : Expr} {ta : TE} (ha : PE X a ta) (he : ∀ whole, isTrue a X.env whole = (do let v ← whole; standAt a.pos; holding [v] (truthy v))) :
    PT X a (tTru K ta) := by subst e; exact pt_truth ha he
theorem ix_seq_at (K : PySem.W.Frag) (e : X.K = K) : IxR X (rIx K) := by subst e; exact ix_seq
theorem ix_list_at (K : PySem.W.Frag) (e : X.K = K) : IxR X (rIxL K) := by subst e; exact ix_list
theorem ix_tup_at (K : PySem.W.Frag) (e : X.K = K) : IxR X (rIxT K) := by subst e; exact ix_tup
theorem call_isi_at (K : PySem.W.Frag) (e : X.K = K) : CallR X (.builtin "isinstance") (rIsi K) := by subst e; exact call_isi
theorem call_isiT_at (K : PySem.W.Frag) (e : X.K = K) : CallR X (.builtin "isinstance") (rIsiT K) := by subst e; exact call_isiT
theorem call_len_seq_at (K : PySem.W.Frag) (e : X.K = K) : CallR X (.builtin "len") (fun xs H Q => ∃ p ys, xs = [.ref p] ∧ (SqL K H p ys ∨ SqT K H p ys) ∧ Q (.int ys.length) H) := by subst e; exact call_len_seq
end
/-! ### the end -/
theorem here_mk {fa : List He.Fa} {fn : List He.DefD} {K : PySem.W.Frag} {h : Heap} {mg : Str → Option Value} (X : K.In h) (G : h.Ns mainGlobals mg) (c : He.SaysD fa fn K) (i j : Nat) {x : Str} {st : Stmt}
    (hi : fn[i]? = some ⟨(x, none), x, x, defArgs st, defBody st, defScope st, [], []⟩) (hj : fa[j]? = some (.glo x)) : Here K mg x st := by
  obtain ⟨fd, F⟩ := c.def_ i hi
  exact ⟨_, fd, F, He.glo_ok X G (c.fact j hj)⟩
/-- a law over the script's list: True -/
def spLaw (K : PySem.W.Frag) : Sp := fun vs H Q _ => ∃ (s : Addr) (ns : List Int), vs = [.ref s] ∧ SqL K H s (ns.map V.int) ∧ ns.length ≤ 63 ∧ ∀ H', Q (.bl true) H'
theorem law_fin {P : Program} {w : World} {K : PySem.W.Frag} {h : Heap} {mg : Str → Option Value} {fa : Addr} {k : Nat} {st : Stmt} (X : K.In h) (G : h.Ns mainGlobals mg) (hmg : mg ("law" : Str) = some (.ref fa)) (D : Here K mg "law" st)
    (hb : ∀ (kV doc pm : Value) (an : Option Addr) (cdv ct : Value) (us : List Value), us.length = (["script"] : List Str).length → bindArgs (PySem.W.fnOf "law" "law" (defArgs st) (defBody st) (defScope st) .none kV doc pm an cdv ct) ⟨us, []⟩ = pure ((["script"] : List Str).zip us))
    (C : ∀ base : Heap, CalD P w K mg base k "law" st ["script"] (spLaw K)) :
    ∃ (K : PySem.W.Frag) (fd : FuncData) (sp : Sp), K.In h ∧ (∀ (s : Shared) (u : Value), BindsTo s fd ⟨[u], []⟩ [(("script" : Str), u)]) ∧
      (∀ (H : Hp) (a : Addr) (ns : List Int), ns.length ≤ 63 → Only H → SqL K H a (ns.map V.int) → sp [.ref a] H (fun v _ => v = .bl true) fun _ _ _ => False) ∧
      ∀ base : Heap, K.In base → base.Ns mainGlobals mg → FnOk P w K mg base CX0 k fa fd ["script"] sp := by
  obtain ⟨f, fd, F, g⟩ := D.ex
  have e := hmg.symm.trans g
  cases e
  have b := FunD.bindsA (ps := ["script"]) F hb
  refine ⟨K, fd, spLaw K, X, fun s v => b s [v] rfl, fun H a ns hl _ hS => ⟨a, ns, rfl, hS, hl, fun _ => rfl⟩, fun base _ _ => ?_⟩
  obtain ⟨f2, fd2, F2, D2, g2, _⟩ := (C base).ex
  have e2 := g.symm.trans g2
  cases e2
  have e3 : fd = fd2 := by
    obtain ⟨_, _, _, _, _, _, _, _, _, _, _, l1, _⟩ := F.ex
    obtain ⟨_, _, _, _, _, _, _, _, _, _, _, l2, _⟩ := D2.ex
    have l3 := l1.symm.trans l2
    injection l3 with l4
    injection l4 with _ _ l5
    injection l5
  rw [e3]
  exact F2
end Ky
/-! ### all(e for x in xs), any(..): the element of any kind, by the frame of its own -/
namespace Gx
open PySem PySem.Spec PyProof.Rows L2
/-- the frame's context -/
abbrev gxC (X : Cx) (A : Around) (s : Shared) (H : Hp) (cenv : Env) (fp : List Addr) : Cx :=
  { X with A := A, s_0 := s, H_0 := H, env := cenv, outer := X.stack, stack := cenv :: X.stack, ex := fp, fn := fun _ => false, calm := true, pn := [], xe := fun _ _ => False }
theorem inv_swap {X : Cx} {pins : List (Addr × Obj)} {σ : L2.St} {H : Hp} {s s' : Shared} (I : Inv X pins σ H s) (e : s'.heap = s.heap) (os : s'.os = s.os) (b : AllBare s'.gens) : Inv X pins σ H s' where
  ok := I.ok
  os := os.trans I.os
  bare := b
  base := by rw [e]; exact I.base
  loc := by rw [e]; exact I.loc
  cell := by rw [e]; exact I.cell
  free := I.free
  freeC := I.freeC
  pin := by rw [e]; exact I.pin
  hok := by rw [e]; exact I.hok
  len := I.len
/-- between two turns -/
structure At (Z : Cx) (pins : List (Addr × Obj)) (fp : List Addr) (tn : Nat → Heap → Prop) (σ : L2.St) (i : Nat) (H : Hp) (s : Shared) : Prop where
  inv : Inv Z pins σ H s
  tn : tn i s.heap
  fp : ∀ b ∈ fp, H b = none
abbrev genE (elt tg iter : Expr) (scope : Scope) (pos : Pos) : Expr := .GeneratorExp elt [⟨tg, iter, [], 0⟩] scope pos
section
variable {Z : Cx} {pins : List (Addr × Obj)} {fp : List Addr} {tn : Nat → Heap → Prop} {σ : L2.St} {n : Nat} {b : Nat → Bool} {Nx : Nat → Hp → Prop} {Pv : Nat → Hp → Prop}
/-- an item is handed out: the i-th, b i; what follows if it is gone on -/
def Yg (Z : Cx) (pins : List (Addr × Obj)) (fp : List Addr) (tn : Nat → Heap → Prop) (σ : L2.St) (n : Nat) (b : Nat → Bool) (Nx : Nat → Hp → Prop) : Protocol := fun m _ v s kap =>
  ∃ i H, m + 1 + i = n ∧ v = .bool (b i) ∧ At Z pins fp tn σ (i + 1) H s ∧ Nx i H ∧ ((Nx i H → ∀ s', s'.heap = s.heap → s'.os = s.os → AllBare s'.gens → b i = true → kap (.send .none) s'))
/-- the end: none is left -/
def Rg (Z : Cx) (pins : List (Addr × Obj)) (fp : List Addr) (tn : Nat → Heap → Prop) (σ : L2.St) (n : Nat) (Pv : Nat → Hp → Prop) : GenEnd := fun m _ r s =>
  ((r = .ok (.ret .none) ∨ r = .ok .next) ∧ (∃ H, Inv Z pins σ H s ∧ Pv n H)) ∨ ∃ e, r = .error e ∧ False
theorem gx_loop {B : Around} {elt tg iter : Expr} {scope : Scope} {pos : Pos} {it : Addr} {J : It} {g : TG} {te : TE} {vs : List Nat}
    (hA : B.over (.compLoop (genE elt tg iter scope pos) 0 (.ref it) .none Z.env) [] = Z.A) (hx : Z.ex = fp) (hpn : Z.pn = []) (hxe : Z.xe = fun _ _ => False) (hc : Z.calm = true) (hco : Z.env.scope.isCoroutine = false) (hpf : ∀ p ∈ pins, p.1 ∉ fp)
    (T : Turn Z.prog Z.w Z.K tg J fp it tn) (pg : PG Z tg g) (pe : PE Z elt te)
    (turn : ∀ i H, i < n → Pv i H → J.go i H ∧ ∀ x H', J.yld i H x H' → g x σ H' fun σ2 H2 => wipe σ2 vs = σ ∧ te σ2 H2 fun y H3 => y = .bl (b i) ∧ Nx i H3)
    (goon : ∀ i H, Nx i H → b i = true → Pv (i + 1) H) (done : ∀ H, Pv n H → J.stop n H) :
    ∀ (k i : Nat) (s₀ s : Shared) (H : Hp), n - i = k → i ≤ n → Pv i H → At Z pins fp tn σ i H s →
      Seg (model Z.prog Z.w) B (Rg Z pins fp tn σ n Pv) (Yg Z pins fp tn σ n b Nx) k s₀ (.compLoop (genE elt tg iter scope pos) 0 (.ref it) .none Z.env)
        ((model Z.prog Z.w).den (.compLoop (genE elt tg iter scope pos) 0 (.ref it) .none Z.env)) [] s := by
  have stat : ∀ {σ' : L2.St} {H' : Hp} {s' : Shared} {ps : List (Addr × Obj)}, (∀ p ∈ ps, p.1 ∉ fp) → Inv Z ps σ' H' s' → (∀ b ∈ fp, H' b = none) → ∀ b ∈ fp, FpOk Z ps H' b := fun {σ' H' s' ps} hp I' hn b hb => by
    have hb2 : b ∈ Z.ex := by rw [hx]; exact hb
    refine ⟨hn b hb, (I'.ok.exf b hb2).1, I'.ok.exfs b hb2, .inl hb2, fun x c e => (I'.ok.exf b hb2).2 x c e, fun p hq z => ?_⟩
    rw [hpn, List.nil_append] at hq
    exact hp p hq (by rw [z]; exact hb)
  intro k
  induction k with
  | zero =>
    intro i s₀ s H hk hi hP hI
    have hin : i = n := by omega
    subst hin
    show Seg _ B _ _ _ s₀ _ ((compTurn (genE elt tg iter scope pos) 0 (.ref it) .none Z.env).onRaise (leaving Z.env)) [] s
    rw [compTurn_gen, Sem.onRaise_eq_wrap]
    refine seg_bind_wrap (wpAny_standAt ?_)
    have td := T.done Z rfl rfl rfl hc i pins s σ H (fun _ _ => False) hI.inv (stat hpf hI.inv hI.fp) hI.tn (done H hP)
    rw [← hA] at td
    refine seg_bind_wrap (thnF td fun r s1 ⟨hr, I1⟩ => ?_)
    subst hr
    exact seg_end (.ok .next) (.inl ⟨.inr rfl, H, I1, hP⟩)
  | succ k ih =>
    intro i s₀ s H hk hi hP hI
    have hlt : i < n := by omega
    obtain ⟨go, step⟩ := turn i H hlt hP
    show Seg _ B _ _ _ s₀ _ ((compTurn (genE elt tg iter scope pos) 0 (.ref it) .none Z.env).onRaise (leaving Z.env)) [] s
    rw [compTurn_gen, Sem.onRaise_eq_wrap]
    refine seg_bind_wrap (wpAny_standAt ?_)
    have ti := T.item Z rfl rfl rfl hc i pins s σ H (fun _ _ => False) hI.inv (stat hpf hI.inv hI.fp) hI.tn go
    rw [← hA] at ti
    refine seg_bind_wrap (thnF ti fun r s1 ⟨u, hr, h1⟩ => ?_)
    subst hr
    refine seg_bind_wrap (thnF h1 fun _ s2 ⟨x, H2, I2, r2, y2, st2, n2⟩ => ?_)
    have I2' := I2.pinned (stat hpf I2 n2) (T.obj _ _ st2)
    have h3 := pg.run _ s2 _ H2 x u _ I2' r2 (step x H2 y2)
    rw [← hA, hxe] at h3
    refine seg_bind_wrap (thnF h3 fun _ s3 ⟨σ3, H3, I3, hw3, q3⟩ => ?_)
    simp only [List.forIn_nil]
    refine seg_bind_wrap (wpAny_pure ?_)
    simp only [if_true]
    have hy : ∀ v, yieldOut Z.env v = yieldValue v := fun v => by simp only [yieldOut, hco, Bool.false_eq_true, if_false]
    simp only [hy]
    rw [Sem.bind_eq_wrap', Sem.bind_eq_wrap', Sem.wrap_wrap, Sem.wrap_wrap]
    have h4 := pe.run _ s3 σ3 H3 _ I3 q3
    rw [← hA, hxe] at h4
    refine seg_wrap (thnF h4 fun v s4 ⟨yv, H4, I4, r4, e4, nx⟩ => ?_)
    subst e4
    cases r4
    have pin' : ∀ c ∈ fp, ∀ o, s2.heap.get? c = some o → s4.heap.get? c = some o ∧ H4 c = none := fun c hc o e =>
      let z := I4.pin (c, o) (List.mem_append_right _ (List.mem_append_right _ (mem_pinsAt hc e)))
      ⟨z.1, z.2.1⟩
    have hl : σ.length = σ3.length := by rw [← hw3, wipe_length]
    have at4 : At Z pins fp tn σ (i + 1) H4 s4 := ⟨(I4.unpinned (pins := pins)).weak hl (fun j v e => by
        rw [← hw3] at e
        exact (wipe_some e).1), T.keep _ _ _ st2 fun c hc o e => (pin' c hc o e).1, fun c hc => by
        obtain ⟨o, e, _⟩ := T.obj _ _ st2 c hc
        exact (pin' c hc o e).2⟩
    refine seg_at (seg_yield rfl rfl rfl ⟨i, H4, by omega, rfl, at4, nx, fun nx' s'' e1 e2 e3 hb => ?_⟩)
    refine seg_again rfl (ih (i + 1) s'' s'' H4 (by omega) hlt (goon i H4 nx' hb) ⟨inv_swap at4.inv e1 e2 e3, ?_, at4.fp⟩)
    rw [e1]
    exact at4.tn
/-- the loop of all: each item asked, until one is false -/
theorem all_loop {A : Around} {ga : Addr} {gn : Nat} {gobj : Obj} {Rr : Result → Shared → Prop} (hh : A.handled = none) (hd : A.depth < recursionLimit) (hgo : ∀ h : Heap, h.get? ga = some gobj → h.IsGen ga gn) (hpi : (ga, gobj) ∈ pins)
    (goon : ∀ i H, Nx i H → b i = true → Pv (i + 1) H)
    (hend : ∀ s' H', Inv Z pins σ H' s' → Pv n H' → ∀ s'' : Shared, s''.os = s'.os → AllBare s''.gens → (∀ c o, s'.heap.get? c = some o → s''.heap.get? c = some o) → Rr (.ok (.ret (.bool true))) s'')
    (hno : ∀ s' H' i, Inv Z pins σ H' s' → Nx i H' → b i = false → ∀ s'' : Shared, s''.os = s'.os → AllBare s''.gens → s''.heap = s'.heap → Rr (.ok (.ret (.bool false))) s'') :
    ∀ (m : Nat) (s : Shared), s.heap.IsGen ga gn → s.heap.NoLimit →
      (∃ gs, s.gens[gn]? = some gs ∧ gs.Goes (model Z.prog Z.w) A.in1.in1 (Rg Z pins fp tn σ n Pv) (Yg Z pins fp tn σ n b Nx) m (.send .none) (s.setGen gn .running)) →
      codeAny (model Z.prog Z.w) A (.builtin "all.loop" ⟨[.ref ga], []⟩) Rr s := by
  intro m
  induction m with
  | zero =>
    intro s hg hl ⟨gs, hgs, hgo2⟩
    have hgl : gn < s.gens.size := (Array.getElem?_eq_some_iff.mp hgs).1
    refine codeAny_builtin F.entry_all_loop ?_
    rw [Around.under_plainId F.plain_all_loop _]
    show wpAny _ A.in1 (pyNext (.ref ga) >>= _) _ _ s
    refine wpAny_bind (next_genG (A := A.in1) (F := fun _ _ s₁ => ∃ H, Inv Z pins σ H s₁ ∧ Pv n H) (Er := fun _ _ => False) hh hl hd hg hgs hgo2 (fun v s₁ gs' hbare hv => ?_) (fun s₁ hp h' hk => ?_) fun e s₁ he => he.elim)
    · obtain ⟨i, H, hi, rfl, hat, hnx, hk⟩ := hv
      cases hb : b i with
      | true => exact (hk hnx s₁ rfl rfl hat.inv.bare hb).elim
      | false =>
        refine wpAny_bind (wpAny_holding (wpAny_truthy_bool ?_))
        refine wpAny_bind (wpAny_letGo ?_)
        simp only [Bool.false_eq_true, if_false]
        refine wpAny_bind (wpAny_rule (wpAny_pure ?_))
        exact hno s₁ H i hat.inv hnx hb _ rfl (allBare_setGen hat.inv.bare hbare) rfl
    · obtain ⟨H, I1, hP⟩ := hp
      refine wpAny_bind (wpAny_rule (wpAny_pure ?_))
      exact hend s₁ H I1 hP _ rfl (allBare_setGen I1.bare rfl) hk
  | succ m ih =>
    intro s hg hl ⟨gs, hgs, hgo2⟩
    have hgl : gn < s.gens.size := (Array.getElem?_eq_some_iff.mp hgs).1
    refine codeAny_builtin F.entry_all_loop ?_
    rw [Around.under_plainId F.plain_all_loop _]
    show wpAny _ A.in1 (pyNext (.ref ga) >>= _) _ _ s
    refine wpAny_bind (GenW.wpAny_gsz (n := gn + 1) hgl (next_genG (A := A.in1) (F := fun _ _ s₁ => ∃ H, Inv Z pins σ H s₁ ∧ Pv n H) (Er := fun _ _ => False) hh hl hd hg hgs hgo2 (fun v s₁ gs' hbare hv => ?_) (fun s₁ hp h' hk => ?_) fun e s₁ he => he.elim))
    · intro hsz
      obtain ⟨i, H, hi, rfl, hat, hnx, hk⟩ := hv
      cases hb : b i with
      | true =>
        refine wpAny_bind (wpAny_holding (wpAny_truthy_bool ?_))
        refine wpAny_bind (wpAny_letGo ?_)
        simp only [if_true]
        have hsz1 : gn < s₁.gens.size := by
          have q : (s₁.setGen gn gs').gens.size = s₁.gens.size := GenW.setGen_size _ _ _
          have hsz' : gn + 1 ≤ (s₁.setGen gn gs').gens.size := hsz
          omega
        have hpin := (hat.inv.pin (ga, gobj) (List.mem_append_right _ hpi)).1
        refine wpAny_pure ⟨plainId_quiet F.plain_all_loop _, ih (s₁.setGen gn gs') (hgo _ hpin) hat.inv.nolimit ⟨gs', setGen_at hsz1, ?_⟩⟩
        exact hk hnx _ rfl rfl (allBare_setGen (allBare_setGen hat.inv.bare hbare) rfl) hb
      | false =>
        refine wpAny_bind (wpAny_holding (wpAny_truthy_bool ?_))
        refine wpAny_bind (wpAny_letGo ?_)
        simp only [Bool.false_eq_true, if_false]
        refine wpAny_bind (wpAny_rule (wpAny_pure ?_))
        exact hno s₁ H i hat.inv hnx hb _ rfl (allBare_setGen hat.inv.bare hbare) rfl
    · intro hsz
      obtain ⟨H, I1, hP⟩ := hp
      refine wpAny_bind (wpAny_rule (wpAny_pure ?_))
      exact hend s₁ H I1 hP _ rfl (allBare_setGen I1.bare rfl) hk
end
section
variable {X : Cx} {pins : List (Addr × Obj)} {σ : L2.St} {H : Hp} {s : Shared}
/-- the frame begins -/
theorem gx_start {scope : Scope} {own : List (Str × Nat)} {x : Str} {fp : List Addr} {A' : Around} {code : Value} {hh : Heap} {mm : Str → Option Value} {gobj : Obj} {gs : GenState} {tk : Nat}
    (I : Inv X pins σ H s) (S : GxR.GenS X.env scope x) (ok : BlkOk X.N X.env.scope scope own) (hN : X.N.Nodup) (hfp : ∀ c ∈ fp, FpOk X pins H c ∧ c < s.heap.objs.size)
    (hA : A'.frames = some (genEnv scope (cloFrom X.env.cells scope.names []) s.heap.objs.size code builtinsNs X.env :: X.stack)) (hd : A'.handled = none)
    (hn : hh.Ns s.heap.objs.size mm) (hk : ∀ c o, s.heap.get? c = some o → hh.get? c = some o) (hz : hh.objs.size = s.heap.objs.size + 1) (hgb : gs.bare = true) (hgl : gobj.isFreed = false) (hgd : ∀ v, gobj.data ≠ .cell v) :
    Inv (gxC X A' s H (genEnv scope (cloFrom X.env.cells scope.names []) s.heap.objs.size code builtinsNs X.env) fp) [(hh.objs.size, gobj)] (wipe σ (own.map (·.2))) H { s with gens := s.gens.push gs, toks := tk, heap := hh.push gobj } := by
  have kp : ∀ c o, s.heap.get? c = some o → (hh.push gobj).get? c = some o := fun c o e => Heap.get?_push_of_some _ (hk c o e)
  have cm : ∀ {y : Str} {c : Addr}, (y, c) ∈ cloFrom X.env.cells scope.names [] → (y, NameKind.free) ∈ scope.names ∧ X.env.cells.lookup y = some c := fun {y c} hm => by
    rcases cloFrom_mem hm with h1 | ⟨h1, rfl⟩
    · cases h1
    · obtain ⟨c, hc⟩ := S.free _ h1 rfl
      refine ⟨h1, ?_⟩
      have hc2 : X.env.cells.lookup y = some c := hc
      rw [hc2] <;> rfl
  have cl : ∀ {y : Str}, (y, NameKind.free) ∈ scope.names → ∃ c, (cloFrom X.env.cells scope.names []).lookup y = some c ∧ X.env.cells.lookup y = some c := fun {y} hy => by
    obtain ⟨c', e'⟩ := mem_lookup (cloFrom_has (cells := X.env.cells) (acc := []) hy)
    exact ⟨c', e', (cm (PySem.mem_of_lookup e')).2⟩
  have lt : ∀ {y : Str} {c : Addr}, X.env.cells.lookup y = some c → c < s.heap.objs.size := fun {y c} e => by
    obtain ⟨v, q⟩ := I.cell y c e
    exact q.lt
  have okG : (gxC X A' s H (genEnv scope (cloFrom X.env.cells scope.names []) s.heap.objs.size code builtinsNs X.env) fp).Ok := by
    refine ⟨I.ok.mod, S.kind, I.ok.glob, rfl, Nat.le_refl _, fun y z c e1 e2 => ?_, fun y hy => ?_, fun y c z _ => (by cases z), fun _ => hd, hA, .inr ⟨rfl, rfl⟩, fun c hc => ⟨Nat.ne_of_lt (hfp c hc).2, fun y c' e z => ?_⟩, I.bs, Nat.le_trans I.ok.bsz I.sz, fun c o e hc => ?_, fun c hc z => ?_, I.stack, I.stkFree⟩
    · exact I.ok.inj y z c (cm (PySem.mem_of_lookup (show (cloFrom X.env.cells scope.names []).lookup y = some c from e1))).2 (cm (PySem.mem_of_lookup (show (cloFrom X.env.cells scope.names []).lookup z = some c from e2))).2
    · have hy2 : scope.names.lookup y = some .cell ∨ scope.names.lookup y = some .free := hy
      rcases hy2 with h1 | h1
      · exact absurd rfl (S.cell _ (PySem.mem_of_lookup h1))
      · obtain ⟨c, e, _⟩ := cl (PySem.mem_of_lookup h1)
        exact ⟨c, e⟩
    · have e2 := (cm (PySem.mem_of_lookup (show (cloFrom X.env.cells scope.names []).lookup y = some c' from e))).2
      exact (hfp c hc).1.2.2.2.2.1 y c' e2 z
    · rcases (hfp c hc).1.2.2.2.1 with z | z
      · exact I.ok.noex c o e z
      · exact absurd (Nat.lt_of_lt_of_le (Heap.lt_size e) (Nat.le_trans I.ok.bsz z)) (Nat.lt_irrefl _)
    · rcases List.mem_cons.mp (I.stkSub c z) with z2 | z2
      · exact (hfp c hc).1.2.1 z2
      · exact (hfp c hc).1.2.2.1 z2
  refine ⟨okG, rfl, I.bare.push hgb, Un.kept kp, ⟨mm, hn.push _, fun i y v e1 e2 e3 => ?_⟩, fun y c e => ?_, I.hok.fresh (Nat.le_refl _), fun y c e => ?_, fun p hp => ?_, I.hok.kept kp, by rw [wipe_length]; exact I.len⟩
  · obtain ⟨e4, hne⟩ := wipe_some e2
    have notLoc : scope.names.lookup y = some .free := by
      have e3' : scope.names.lookup y = some .local ∨ scope.names.lookup y = some .cell ∨ scope.names.lookup y = some .free := e3
      have no : ¬ ((y, NameKind.local) ∈ scope.names) := fun hm => by
        rcases ok.own _ hm (.inl rfl) with h1 | h1
        · obtain ⟨p, hp, ep⟩ := List.mem_map.mp h1
          have e5 := ok.ix p hp
          rw [ep] at e5
          have e6 := nodup_ix hN e1 e5
          exact hne (List.mem_map.mpr ⟨p, hp, e6.symm⟩)
        · exact h1 (List.mem_of_getElem? e1)
      rcases e3' with h1 | h1 | h1
      · exact absurd (PySem.mem_of_lookup h1) no
      · exact absurd rfl (S.cell _ (PySem.mem_of_lookup h1))
      · exact h1
    have hf := PySem.mem_of_lookup notLoc
    obtain ⟨c, e5, e6⟩ := cl hf
    obtain ⟨m0, hn0, hl0⟩ := I.loc
    have hk0 := ok.free _ hf rfl
    obtain ⟨u, ru, lk⟩ := hl0 i y v e1 e4 (by rcases hk0 with z | z; exact .inr (.inl z); exact .inr (.inr z))
    refine ⟨u, ru, .inr ⟨.inr notLoc, c, e5, ?_⟩⟩
    rcases lk with ⟨z1, _⟩ | ⟨_, c2, z2, z3⟩
    · have z4 : X.env.scope.names.lookup y = some .local := z1
      rcases hk0 with z | z
      · rw [z4] at z; cases z
      · rw [z4] at z; cases z
    · rw [e6] at z2
      cases z2
      exact z3.keeps kp
  · have e2 := (cm (PySem.mem_of_lookup (show (cloFrom X.env.cells scope.names []).lookup y = some c from e))).2
    obtain ⟨v, q⟩ := I.cell y c e2
    exact ⟨v, q.keeps kp⟩
  · exact I.freeC y c (cm (PySem.mem_of_lookup (show (cloFrom X.env.cells scope.names []).lookup y = some c from e))).2
  · have hp2 : p = (hh.objs.size, gobj) := List.mem_singleton.mp hp
    subst hp2
    have hge : s.heap.objs.size ≤ hh.objs.size := by omega
    refine ⟨Heap.get?_push_size _ ?_, I.hok.fresh hge, ?_, fun hm => ?_, hgd⟩
    · exact hgl
    · show hh.objs.size ≠ s.heap.objs.size
      omega
    · obtain ⟨_, o, ho, _⟩ := I.stack.mem hm
      exact absurd (Nat.lt_of_lt_of_le (Heap.lt_size ho) hge) (Nat.lt_irrefl _)
end
/-- all(e for x in xs): wi what is walked, i the place of x, te the element; behind it the def's table may have grown -/
def tAllG (P : Addr) (wi : TI) (i : Nat) (te : TE) (vs : List Nat) : TE := fun σ H Q => wi σ H fun J H1 => GxR.TabG H1 P ∧ ∀ H2, GxR.Tabbed P H1 H2 →
  ∃ (n : Nat) (b : Nat → Bool) (Pv Nx : Nat → Hp → Prop), Pv 0 H2 ∧
    (∀ k H, k < n → Pv k H → J.go k H ∧ ∀ x H', J.yld k H x H' → gName i x (wipe σ vs) H' fun σ2 H3 => wipe σ2 vs = wipe σ vs ∧ te σ2 H3 fun y H4 => y = .bl (b k) ∧ Nx k H4) ∧
    (∀ k H, Nx k H → b k = true → Pv (k + 1) H) ∧ (∀ k H, Nx k H → b k = false → Q (.bl false) H) ∧ (∀ H, Pv n H → J.stop n H ∧ Q (.bl true) H)
section
variable {X : Cx}
/-- what the walk over the made generator asks -/
def Asks (σ : L2.St) (Q : VK) (i : Nat) (te : TE) (vs : List Nat) (J : It) (H2 : Hp) : Prop :=
  ∃ (n : Nat) (b : Nat → Bool) (Pv Nx : Nat → Hp → Prop), Pv 0 H2 ∧
    (∀ k H, k < n → Pv k H → J.go k H ∧ ∀ x H', J.yld k H x H' → gName i x (wipe σ vs) H' fun σ2 H3 => wipe σ2 vs = wipe σ vs ∧ te σ2 H3 fun y H4 => y = .bl (b k) ∧ Nx k H4) ∧
    (∀ k H, Nx k H → b k = true → Pv (k + 1) H) ∧ (∀ k H, Nx k H → b k = false → Q (.bl false) H) ∧ (∀ H, Pv n H → J.stop n H ∧ Q (.bl true) H)
theorem gx_go {k i : Nat} {elt iter : Expr} {x : Str} {px gpos : Pos} {scope : Scope} {own : List (Str × Nat)} {te : TE} {pins : List (Addr × Obj)} {σ : L2.St} {Q : VK} {H3 : Hp} {s3 : Shared} {it : Addr} {fp : List Addr} {tn : Nat → Heap → Prop} {J : It} {code : Value} {h' : Heap} {gobj : Obj} {tk : Nat}
    (hr : Room (k + 1) X.A) (S : GxR.GenS X.env scope x) (hN : X.N.Nodup) (ok : BlkOk X.N X.env.scope scope own)
    (hgn : ∀ (A : Around) (s : Shared) (H : Hp) (cl : List (Str × Addr)) (C : Addr) (code : Value) (fp : List Addr), PG (gxC X A s H (genEnv scope cl C code builtinsNs X.env) fp) (.Name x px) (gName i))
    (hel : ∀ (A : Around) (s : Shared) (H : Hp) (cl : List (Str × Addr)) (C : Addr) (code : Value) (fp : List Addr), Room k A → PE (gxC X A s H (genEnv scope cl C code builtinsNs X.env) fp) elt te)
    (I : Inv X pins σ H3 s3) (T : Turn X.prog X.w X.K (.Name x px) J fp it tn) (st : tn 0 s3.heap) (hfp : ∀ b ∈ fp, FpOk X pins H3 b) (q : Asks σ Q i te (own.map (·.2)) J H3)
    (hn : h'.Ns s3.heap.objs.size (fun y => if y = ".0" then some (.ref it) else none)) (hs : Heap.SameBut s3.heap.objs.size (s3.heap.push { cls := .type "frame", data := .dict #[] }) h')
    (hgo : ∀ h : Heap, h.get? h'.objs.size = some gobj → h.IsGen h'.objs.size s3.gens.size) (hgl : gobj.isFreed = false) (hgd : ∀ v, gobj.data ≠ .cell v) (E : Value → Shared → Prop) :
    wpAny (model X.prog X.w) X.A (call (.builtin "all") [.ref h'.objs.size]) (EP X pins σ Q) E
      { s3 with gens := s3.gens.push (.fresh (.compStart (genE elt (.Name x px) iter scope gpos) 0 (.ref it) .none (genEnv scope (cloFrom X.env.cells scope.names []) s3.heap.objs.size code builtinsNs X.env))), toks := tk, heap := h'.push gobj } := by
  generalize hce : genEnv scope (cloFrom X.env.cells scope.names []) s3.heap.objs.size code builtinsNs X.env = cenv
  have hsz : h'.objs.size = s3.heap.objs.size + 1 := by rw [hs.1, Heap.size_push]
  have keep' : ∀ b o, s3.heap.get? b = some o → h'.get? b = some o := fun b o e => hs.extBut b o (Nat.ne_of_lt (Heap.lt_size e)) (Heap.get?_push_of_some _ e)
  have lt3 : ∀ b ∈ fp, b < s3.heap.objs.size := fun b hb => by
    obtain ⟨o, e, _⟩ := T.obj _ _ st b hb
    exact Heap.lt_size e
  have hfr : (X.A.in1.in1.over (.compLoop (genE elt (.Name x px) iter scope gpos) 0 (.ref it) .none cenv) []).frames = some (cenv :: X.stack) := by
    have e := I.ok.frames
    show (X.A.frames).map _ = _
    rw [e] <;> rfl
  have rk : Room k (X.A.in1.in1.over (.compLoop (genE elt (.Name x px) iter scope gpos) 0 (.ref it) .none cenv) []) := by
    refine ⟨hr.hd, ?_, ?_⟩
    · have := hr.dp
      show X.A.depth + 0 + 1 + 3 * k + 5 < _
      omega
    · have := hr.un
      show X.A.units + 1 + 1 + 0 + 3 + 16 * k + 200 < _
      omega
  have I5 := gx_start (own := own) (x := x) (A' := X.A.in1.in1.over (.compLoop (genE elt (.Name x px) iter scope gpos) 0 (.ref it) .none cenv) []) (code := code) (gs := .fresh (.compStart (genE elt (.Name x px) iter scope gpos) 0 (.ref it) .none cenv)) (tk := tk)
    I S ok hN (fun b hb => ⟨hfp b hb, lt3 b hb⟩) (by rw [hce]; exact hfr) hr.hd hn keep' hsz rfl hgl hgd
  rw [hce] at I5
  have pe := hel _ s3 H3 (cloFrom X.env.cells scope.names []) s3.heap.objs.size code fp rk
  have pg := hgn (X.A.in1.in1.over (.compLoop (genE elt (.Name x px) iter scope gpos) 0 (.ref it) .none cenv) []) s3 H3 (cloFrom X.env.cells scope.names []) s3.heap.objs.size code fp
  rw [hce] at pe pg
  have ltp : ∀ c o, s3.heap.get? c = some o → (h'.push gobj).get? c = some o := fun c o e => Heap.get?_push_of_some _ (keep' c o e)
  have hgp : (h'.push gobj).IsGen h'.objs.size s3.gens.size := hgo _ (Heap.get?_push_size _ hgl)
  generalize hst : ({ s3 with gens := s3.gens.push (.fresh (.compStart (genE elt (.Name x px) iter scope gpos) 0 (.ref it) .none cenv)), toks := tk, heap := h'.push gobj } : Shared) = st0 at I5 ⊢
  have hst1 : st0.heap = h'.push gobj := by rw [← hst]
  have hst2 : st0.gens = s3.gens.push (.fresh (.compStart (genE elt (.Name x px) iter scope gpos) 0 (.ref it) .none cenv)) := by rw [← hst]
  have hst3 : st0.os = s3.os := by rw [← hst]
  obtain ⟨n, b, Pv, Nx, p0, turn, goon, qno, qyes⟩ := q
  have fin : ∀ (v : Bool) (s' : Shared) (H' : Hp), Inv (gxC X (X.A.in1.in1.over (.compLoop (genE elt (.Name x px) iter scope gpos) 0 (.ref it) .none cenv) []) s3 H3 cenv fp) [(h'.objs.size, gobj)] (wipe σ (own.map (·.2))) H' s' → Q (.bl v) H' →
      ∀ s'' : Shared, s''.os = s'.os → AllBare s''.gens → (∀ c o, s'.heap.get? c = some o → s''.heap.get? c = some o) → EP X pins σ Q (.bool v) s'' := fun v s' H' J hq s'' e1 e2 e3 => by
    refine ⟨.bl v, H', I.call' (ch := fp) (e1.trans J.os) (J.base.trans (Un.kept e3)) (J.hok.kept e3) e2 (fun c hc => ?_), rfl, hq⟩
    obtain ⟨f1, f2, f3, f4, f5, f6⟩ := hfp c hc
    exact ⟨f4, f2, f5, f6⟩
  have hh1 : X.A.in1.handled = none := hr.hd
  refine call_function_tree F.kind_all F.plain_all F.entry_all (F.args_all1 _) ?_
  unfold Builtin.«all»
  refine wpAny_bind (m := oneArg "all" _) (wpAny_pure ?_)
  refine wpAny_bind (wpAny_pyIter_gen (s := st0) (by rw [hst1]; exact hgp) ?_)
  refine wpAny_pure ⟨plainId_quiet F.plain_all_loop _, ?_⟩
  refine all_loop (Z := gxC X (X.A.in1.in1.over (.compLoop (genE elt (.Name x px) iter scope gpos) 0 (.ref it) .none cenv) []) s3 H3 cenv fp) (pins := [(h'.objs.size, gobj)]) (fp := fp) (tn := tn) (σ := wipe σ (own.map (·.2))) (n := n) (b := b) (Nx := Nx) (Pv := Pv)
    (gobj := gobj) hr.hd (by have := hr.dp; omega) hgo (List.mem_singleton.mpr rfl) goon (fun s' H' J hp s'' e1 e2 e3 => fin true s' H' J (qyes H' hp).2 s'' e1 e2 e3) (fun s' H' j J hn hb s'' e1 e2 e3 => fin false s' H' J (qno j H' hn hb) s'' e1 e2 (fun c o e => by rw [e3]; exact e))
    n st0 (by rw [hst1]; exact hgp) I5.nolimit ⟨.fresh (.compStart (genE elt (.Name x px) iter scope gpos) 0 (.ref it) .none cenv), by rw [hst2]; exact Array.getElem?_push_size, ?_⟩
  refine ⟨rfl, ?_⟩
  have I6 := inv_swap (s' := st0.setGen s3.gens.size .running) I5 rfl rfl (allBare_setGen I5.bare rfl)
  have loop := gx_loop (Z := gxC X (X.A.in1.in1.over (.compLoop (genE elt (.Name x px) iter scope gpos) 0 (.ref it) .none cenv) []) s3 H3 cenv fp) (pins := [(h'.objs.size, gobj)]) (fp := fp) (tn := tn) (σ := wipe σ (own.map (·.2))) (n := n) (b := b) (Nx := Nx) (Pv := Pv)
    (B := X.A.in1.in1) (elt := elt) (tg := .Name x px) (iter := iter) (scope := scope) (pos := gpos) (it := it) (vs := own.map (·.2)) rfl rfl rfl rfl rfl (by rw [← hce]; exact S.co) (fun p hp hm => by
      rw [List.mem_singleton.mp hp] at hm
      have := lt3 _ hm
      have h2 : h'.objs.size < s3.heap.objs.size := this
      omega) T pg pe turn goon (fun H' hp => (qyes H' hp).1) n 0 (st0.setGen s3.gens.size .running) (st0.setGen s3.gens.size .running) H3 (Nat.sub_zero _) (Nat.zero_le _) p0
    ⟨I6, T.keep _ _ _ st fun c hc o e => (by show st0.heap.get? c = some o; rw [hst1]; exact ltp c o e), fun c hc => (hfp c hc).1⟩
  show Seg _ X.A.in1.in1 _ _ _ _ _ ((compStart (genE elt (.Name x px) iter scope gpos) 0 (.ref it) .none cenv).onRaise (leaving cenv)) [] _
  unfold compStart
  rw [Sem.onRaise_eq_wrap]
  show Seg _ X.A.in1.in1 _ _ _ _ _ ((ask >>= _).wrap _ _ _ _) [] _
  refine seg_bind_wrap (wpAny_askSetting ?_)
  have hself : ∀ A' : Around, ∀ (Q' : Value → Shared → Prop) (E' : Value → Shared → Prop), Q' (.ref it) (st0.setGen s3.gens.size .running) → wpAny (model X.prog X.w) A' (pyIter (.ref it)) Q' E' (st0.setGen s3.gens.size .running) := fun A' Q' E' hq =>
    T.self A' 0 _ Q' E' (T.keep _ _ _ st fun c hc o e => (by show st0.heap.get? c = some o; rw [hst1]; exact ltp c o e)) hq
  split
  · exact seg_again rfl loop
  · first
      | exact seg_bind_wrap (wpAny_rule (seg_bind_wrap (wpAny_standAt (seg_bind_wrap (hself _ _ _ (seg_again rfl loop))))))
      | (refine seg_bind_wrap (wpAny_rule ?_); show Seg _ X.A.in1.in1 _ _ _ _ _ ((standAt iter.pos >>= _).wrap _ _ _ _) [] _; exact seg_bind_wrap (wpAny_standAt (seg_bind_wrap (hself _ _ _ (seg_again rfl loop)))))
/-- all(e for x in it) -/
theorem pe_allG {c P : Addr} {k i : Nat} {elt iter : Expr} {x : Str} {px p pos gpos : Pos} {scope : Scope} {own : List (Str × Nat)} {wi : TI} {te : TE}
    (hr : Room (k + 1) X.A) (hg : Gl X "all") (hm : X.mg "all" = none) (hb : bootBuiltins "all" = some (.builtin "all")) (TB : GxR.TabB X.base X.mg c P) (hcode : X.env.code = .ref c) (S : GxR.GenS X.env scope x) (hN : X.N.Nodup) (hx : X.N[i]? = some x) (ok : BlkOk X.N X.env.scope scope own)
    (hi : PI X (.Name x px) iter wi)
    (hel : ∀ (A : Around) (s : Shared) (H : Hp) (cl : List (Str × Addr)) (C : Addr) (code : Value) (fp : List Addr), Room k A → PE (gxC X A s H (genEnv scope cl C code builtinsNs X.env) fp) elt te)
    (hs : ∀ v, genFold iter X.env v = pure v)
    (he : starEach [genE elt (.Name x px) iter scope gpos] X.env = (false, eval (genE elt (.Name x px) iter scope gpos) X.env) :: starEach [] X.env := by rfl) :
    PE X (.Call (.Name "all" p) [genE elt (.Name x px) iter scope gpos] [] pos) (tAllG P wi i te (own.map (·.2))) := by
  refine ⟨fun pins s σ H Q I h => ?_⟩
  refine wpAny_Call_Name_kw (ld_blt I hg hm hb ?_)
  refine PyProof.Rows.callWith_builtin1 ?_ he (by rfl)
  rw [he]
  show wpAny _ _ (spliced ((false, eval (genE elt (.Name x px) iter scope gpos) X.env) :: backTo pos (starEach [] X.env))) _ _ s
  refine Calls.spliced_cons ?_
  refine wpAny_GeneratorExp_make S.co (closure_ok S.free) S.cell S.dot S.kind (by have := hr.dp; omega) ?_ hs
  refine thn (hi.run pins s σ H _ I h) fun xv s1 h1 => thn h1 fun itv s2 h2 => ?_
  obtain ⟨it, fp, tn, J, H1, rfl, I2, T, st, hfp, ⟨ps, hP, ht⟩, ask⟩ := h2
  have hPs : s2.heap.get? P = some { cls := .none, data := .fields ps } := I2.hok P _ hP
  have hPlt : P < s2.heap.objs.size := Heap.lt_size hPs
  have cd : PySem.W.CodeHd s2.heap c P := TB.code.keeps I2.bk
  have nP : ∀ b ∈ fp, b ≠ P := fun b hb z => by
    have := (hfp b hb).1
    rw [z, hP] at this
    cases this
  have cont : ∀ (code : Value) (h3 : Heap) (tk : Nat) (more : Array Value), Heap.ExtBut P s2.heap h3 → s2.heap.objs.size ≤ h3.objs.size → h3.get? P = some { cls := .none, data := .fields (ps ++ more) } → TriplesOk (ps ++ more).toList →
      wpAny (model X.prog X.w) X.A (builtinsFor X.env.globals X.env.builtins) (fun bi s₄ =>
        ∀ h', h'.Ns s₄.heap.objs.size (fun y => if y = ".0" then some (.ref it) else none) → Heap.SameBut s₄.heap.objs.size (s₄.heap.push { cls := .type "frame", data := .dict #[] }) h' →
          wpAny (model X.prog X.w) X.A (spliced (backTo pos (starEach [] X.env))) (fun us s5 => wpAny (model X.prog X.w) X.A (call (.builtin "all") (.ref h'.objs.size :: us)) (EP X pins σ Q) X.xe s5) X.xe { s₄ with
            gens := s₄.gens.push (.fresh (.compStart (genE elt (.Name x px) iter scope gpos) 0 (.ref it) .none (genEnv scope (cloFrom X.env.cells scope.names []) s₄.heap.objs.size code bi X.env))),
            toks := s₄.toks + 1 + 1 + 1,
            heap := h'.push { cls := .type "generator", data := .fields #[.int s₄.gens.size 0, .str "<genexpr>" (s₄.toks + 1), .str (X.env.qual ++ "<genexpr>") (s₄.toks + 1 + 1)] } }) X.xe { s2 with heap := h3, toks := tk } := by
    intro code h3 tk more hxt hsz hP3 ht3
    obtain ⟨bm, ob, e1, e2, e3, e4, e5, e6, e7, e8⟩ := TB.bm
    refine wpAny_builtinsFor (m := X.mg) (by rw [I2.ok.glob]; exact (I2.mod.glob.keeps I2.bk).extBut hxt TB.gP) e1 e2 (hxt _ _ e4 (I2.bk _ _ e5)) e6 e7 e8 ?_
    have I3 : Inv X pins σ (upd H1 P (.tbl (ps ++ more))) { s2 with heap := h3, toks := tk } := GxR.inv_tab (more := more) (h' := h3) (g' := s2.gens) (d' := s2.drawn) (t' := tk) I2 hP (fun b u hb e => hxt b u hb e) hP3 I2.bare
    have st3 : tn 0 h3 := T.keep _ _ _ st fun b hb o e => hxt b o (nP b hb) e
    have hfp3 : ∀ b ∈ fp, FpOk X pins (upd H1 P (.tbl (ps ++ more))) b := fun b hb => by
      obtain ⟨f0, f⟩ := hfp b hb
      exact ⟨by rw [upd_ne (nP b hb)]; exact f0, f⟩
    intro h' hn' hs'
    refine Calls.spliced_nil ?_
    exact gx_go (tn := tn) (T := T) (k := k) (i := i) (s3 := { s2 with heap := h3, toks := tk }) (H3 := upd H1 P (.tbl (ps ++ more))) hr S hN ok (fun A s H cl C code fp => pg_name hN hx (.inl S.loc) (.inr S.loc)) hel I3 st3 hfp3
      (ask _ ⟨⟨ps ++ more, upd_same, ht3⟩, fun b hb => upd_ne hb⟩) hn' hs' (fun h e => ⟨_, _, _, e, rfl, rfl, rfl⟩) rfl (fun v e => by cases e) X.xe
  refine ⟨I2.nolimit, ?_⟩
  cases hf : codeAmong gpos ps.toList with
  | none =>
    refine wpAny_genexprCodeX hcode (cd.code hPs ht) (cd.tab hPs) hf fun c' h' tk hx hge hlt hco' _ htab' _ => ?_
    obtain ⟨o1, vs, f1, tf, fl, tg, inF, tx, tt, op, _, _, _, _, _, _, _, _, _, htr, _⟩ := hco'
    exact cont _ h' tk _ hx (Nat.le_trans hge (Nat.le_of_lt hlt)) htab'.2 htr
  | some cv =>
    refine wpAny_genexprCode_hit hcode (cd.code hPs ht) hf ?_
    exact cont cv s2.heap s2.toks #[] (Heap.ExtBut.refl _ _) (Nat.le_refl _) (by simpa using hPs) (by simpa using ht)
end
end Gx
/-! ### defs run where no display is being shown; the end of a law by such a def, with tables of code objects -/
namespace Ky
open PySem PySem.Spec PyProof.Rows L2
/-- what a def does where nothing is being shown (repr) -/
structure FnG (P : Program) (w : World) (K : PySem.W.Frag) (mg : Str → Option Value) (base : Heap) (k : Nat) (f : Addr) (fd : FuncData) (ps : List Str) (sp : Sp) : Prop where
  len : ∀ vs H Q E, sp vs H Q E → vs.length = ps.length
  run : ∀ (A : Around) (out : List Env) (s : Shared) (H : Hp) (given : Args) (us : List Value) (vs : List V) (Q : VK) (E : XK), A.guards = some [] → Room k A → Env0 P w K mg base A out s H → BindsTo s fd given (ps.zip us) → Vals vs us →
    sp vs H Q E → codeAny (model P w) A (.call (.ref f) given) (CR CX0 out P w H s Q E) s
structure CalG (P : Program) (w : World) (K : PySem.W.Frag) (mg : Str → Option Value) (base : Heap) (k : Nat) (x : Str) (st : Stmt) (ps : List Str) (sp : Sp) : Prop where
  ex : ∃ (f : Addr) (fd : FuncData), FnG P w K mg base k f fd ps sp ∧ FunD K x x (defArgs st) (defBody st) (defScope st) [] [] f fd ∧ mg x = some (.ref f) ∧ Binds K fd ps []
section
variable {P : Program} {w : World} {K : PySem.W.Frag} {mg : Str → Option Value} {base : Heap} {k : Nat} {x : Str} {st : Stmt} {ps : List Str} {sp : Sp}
theorem FnG.of {f : Addr} {fd : FuncData} (F : FnOk P w K mg base CX0 k f fd ps sp) : FnG P w K mg base k f fd ps sp := ⟨F.len, fun A out s H given us vs Q E _ => F.run A out s H given us vs Q E⟩
theorem CalG.of (c : CalD P w K mg base k x st ps sp) : CalG P w K mg base k x st ps sp := let ⟨f, fd, F, r⟩ := c.ex; ⟨f, fd, .of F, r⟩
/-- a def by its body -/
theorem fnG_of {f : Addr} {fd : FuncData} {N : List Str} (F : FunD K x x (defArgs st) (defBody st) (defScope st) [] [] f fd) (S : FnScope N ps (defScope st)) (len : ∀ vs H Q E, sp vs H Q E → vs.length = ps.length)
    (hbody : ∀ (f : Addr) (cdv : Value) (A : Around) (out : List Env) (s : Shared) (H : Hp) (vs : List V) (Q : VK) (E : XK), A.guards = some [] → Room k (A.deeper (envOfC x (defScope st) s.heap.objs.size f cdv)) → sp vs H Q E →
      ∃ t, PSs (cxOf CX0 P w K mg base N x (defScope st) f cdv A out s H E) (defBody st) t ∧ t { nx := fun _ H' => Q .non H', rt := Q } (start N vs) H) : FnG P w K mg base (k + 1) f fd ps sp := by
  obtain ⟨_, _, _, _, _, _, _, cdv, _, _, rfl, look, code, _, _⟩ := F.ex
  refine ⟨len, fun A out s H given us vs Q E noG room en bound rel want => ?_⟩
  have held := fun b o z => (en.bs b o z).1
  have inS := en.mod.kin.keeps held
  have many := len _ _ _ _ want
  have kinds : ∀ z ∈ ps.zip us, (defScope st).names.lookup z.1 = some .local ∨ ((defScope st).names.lookup z.1 = some .cell ∧ ((cellsFrom (s.heap.objs.size + 1) (defScope st).names []).lookup z.1).isSome = true) := fun ⟨n, u⟩ hz =>
    (S.par n (List.of_mem_zip hz).1).imp id fun q => ⟨q, PySem.W.cellsFrom_some _ _ _ (Or.inl q)⟩
  refine codeAny_call_function room.depth (inS _ _ look) rfl S.co S.gen rfl (PySem.W.codeRec_of inS code) (bound _ _ _ _ (wpAny_newFunctionEnv_cells S.kind kinds fun env he s1 laid => ?_))
  subst he
  refine ⟨(en.mod.nolimit.keeps held).keeps laid.toInCall.keep, codeAny_func ?_⟩
  obtain ⟨t, ht, hq⟩ := hbody f cdv A out s H vs Q E noG (room.deeper _) want
  refine wpAny_mono (ht.run [] s1 (start N vs) H _ (inv_start S room.hd en many rel laid) hq) (fun fl s' z => ?_) fun _ _ z => z
  cases fl with
  | ret u =>
    obtain ⟨v, _, H', J, rv, q⟩ := z
    exact (⟨v, H', J.os, J.bare, J.base, J.hok, rv, q⟩ : CE out P w H s Q u s')
  | next =>
    obtain ⟨_, H', J, q⟩ := z
    exact (⟨V.non, H', J.os, J.bare, J.base, J.hok, rfl, q⟩ : CE out P w H s Q Value.none s')
  | brk => exact (let ⟨_, _, _, q⟩ := z; q).elim
  | cont => exact (let ⟨_, _, _, q⟩ := z; q).elim
theorem calG_mk {N : List Str} (D : Here K mg x st) (S : FnScope N ps (defScope st))
    (hb : ∀ (kV doc pm : Value) (an : Option Addr) (cdv ct : Value) (us : List Value), us.length = ps.length → bindArgs (PySem.W.fnOf x x (defArgs st) (defBody st) (defScope st) .none kV doc pm an cdv ct) ⟨us, []⟩ = pure (ps.zip us))
    (len : ∀ vs H Q E, sp vs H Q E → vs.length = ps.length)
    (hbody : ∀ (f : Addr) (cdv : Value) (A : Around) (outer : List Env) (s : Shared) (H : Hp) (vs : List V) (Q : VK) (E : XK), A.guards = some [] → Room k (A.deeper (envOfC x (defScope st) s.heap.objs.size f cdv)) → sp vs H Q E →
      ∃ t, PSs (cxOf CX0 P w K mg base N x (defScope st) f cdv A outer s H E).nox (defBody st) t ∧ t { nx := fun _ H' => Q .non H', rt := Q } (start N vs) H) : CalG P w K mg base (k + 1) x st ps sp := by
  obtain ⟨f, fd, F, g⟩ := D.ex
  exact ⟨f, fd, fnG_of F S len fun f cdv A outer s H vs Q E hg hr h => (hbody f cdv A outer s H vs Q E hg hr h).imp fun _ z => ⟨z.1.nox, z.2⟩, F, g, F.bindsN hb⟩
end
/-- f(e, ..) there -/
theorem pe_g {X : Cx} {k j : Nat} {x : Str} {st : Stmt} {ps : List Str} {sp : Sp} {p pos : Pos} {e : Expr} {es : List Expr} {t : TA} (c : CalG X.prog X.w X.K X.mg X.base k x st ps sp) (noG : X.A.guards = some []) (hr : Room j X.A) (hk : k ≤ j) (hg : Gl X x) (ha : PA X (e :: es) t)
    (hdb : (x == ("__debug__" : Str)) = false := by decide) (he : starEach (e :: es) X.env = (false, eval e X.env) :: starEach es X.env := by rfl) (hpl : (backTo pos (starEach es X.env)).any (·.1) = false := by rfl) :
    PE X (.Call (.Name x p) (e :: es) [] pos) (tCall sp [] E0 t) := by
  obtain ⟨f, fd, F, D, hm, b⟩ := c.ex
  refine ⟨fun pins s σ H Q I hq => wpAny_Call_Name_kw (ld_glob I hg hm ?_ hdb)⟩
  refine PySem.W.callWith_K (h₀ := X.base) I.ok.mod.kin D.kp (thn (ha.run pos pins s σ H _ I hq) fun us s1 ⟨vs, H1, I1, rel, want⟩ => ⟨I1.kIn, ?_⟩) he hpl
  replace want : sp vs H1 Q E0 := by
    have z : sp (vs ++ []) H1 Q E0 := want
    rwa [List.append_nil] at z
  have many := rel.length.symm.trans (F.len _ _ _ _ want)
  have bound := b s1 us I1.kIn (by rw [List.append_nil]; exact many)
  rw [List.append_nil] at bound
  refine wpAny_call (codeAny_mono (F.run X.A X.stack s1 H1 ⟨us, []⟩ us vs Q _ noG (hr.mono hk) I1.env0 bound rel want) fun r s' z => ?_)
  cases r with
  | error e => exact (show False from z).elim
  | ok fl => cases fl with
    | ret u => exact I1.after z
    | next => exact (show False from z).elim
    | brk => exact (show False from z).elim
    | cont => exact (show False from z).elim
/-! ### the end of a law -/
def emptyT : Obj := { cls := .none, data := .fields #[] }
def listO (vs : List Value) : Obj := { cls := .type "list", data := .seq vs.toArray }
/-- what is tracked as the law is called: the tables; the script's list, if it isn't known otherwise -/
def endH (ts : List Addr) (a : Addr) (loose : Bool) (vs : List Value) (xs : List V) : Hp := fun b => if b ∈ ts then some (.tbl #[]) else if b = a ∧ loose = true then some (.frz (listO vs) (.lst xs)) else none
theorem endH_tab {ts : List Addr} {a : Addr} {l : Bool} {vs : List Value} {xs : List V} {b : Addr} (h : b ∈ ts) : endH ts a l vs xs b = some (.tbl #[]) := if_pos h
theorem endH_inv {ts : List Addr} {a : Addr} {l : Bool} {vs : List Value} {xs : List V} {b : Addr} {u : HO} (h : endH ts a l vs xs b = some u) : (b ∈ ts ∧ u = .tbl #[]) ∨ (b ∉ ts ∧ b = a ∧ l = true ∧ u = .frz (listO vs) (.lst xs)) := by
  unfold endH at h
  split at h
  · rename_i m
    exact .inl ⟨m, (Option.some.inj h).symm⟩
  · rename_i m
    split at h
    · rename_i c
      exact .inr ⟨m, c.1, c.2, (Option.some.inj h).symm⟩
    · cases h
theorem law_callG {P : Program} {w : World} {K : PySem.W.Frag} {mg mb : Str → Option Value} {k : Nat} {fa a : Addr} {cs : List (Addr × Addr)} {fd : FuncData} {x : Str} {sp : Sp} {st : Shared} {vs : List Value} {ns : List Int}
    (inK : K.In st.heap) (glob : st.heap.Ns mainGlobals mg) (blt : st.heap.Ns builtinsNs mb) (boot : ∀ y : Str, y ≠ "__name__" → mb y = bootBuiltins y) (lim : st.heap.NoLimit) (noGens : st.gens = #[])
    (tab : ∀ c ∈ cs, st.heap.get? c.2 = some emptyT) (out : ∀ c ∈ cs, K.lookup c.2 = none) (heads : ∀ c ∈ cs, PySem.W.CodeHd st.heap c.1 c.2)
    (bmain : ∃ (bm : Addr) (ob : Obj), mg "__builtins__" = some (.ref bm) ∧ bm ≠ builtinsNs ∧ st.heap.get? bm = some ob ∧ ob.cls = .type "module" ∧ ob.dict = some builtinsNs ∧ ob.data = .plain)
    (list : st.heap.get? a = some (listO vs)) (nums : IntsAre vs ns) (few : ns.length ≤ sizeLine) (room : Room k callerA)
    (F : ∀ base : Heap, K.In base → base.Ns mainGlobals mg → (∀ c ∈ cs, GxR.TabB base mg c.1 c.2) → FnG P w K mg base k fa fd [x] sp) (bind : ∀ (s : Shared) (u : Value), BindsTo s fd ⟨[u], []⟩ [(x, u)])
    (want : ∀ H : Hp, (∀ c ∈ cs, H c.2 = some (.tbl #[])) → SqL K H a (ns.map V.int) → sp [.ref a] H (fun v _ => v = .bl true) fun _ _ _ => False) :
    codeAny (model P w) callerA (.call (.ref fa) ⟨[.ref a], []⟩) (fun r s' => r = .ok (.ret (.bool true)) ∧ OldK st.heap s'.heap ∧ s'.os = st.os ∧ AllBare s'.gens) st := by
  let ts := cs.map Prod.snd
  have tsObj : ∀ b ∈ ts, st.heap.get? b = some emptyT := fun b hb => by
    obtain ⟨c, hc, rfl⟩ := List.mem_map.mp hb
    exact tab c hc
  have inTs : ∀ {c}, c ∈ cs → c.2 ∈ ts := fun hc => List.mem_map.mpr ⟨_, hc, rfl⟩
  have aOut : a ∉ ts := fun z => by
    have e := (tsObj a z).symm.trans list
    injection e with e
    injection e with e1 e2
    cases e1
  let free := (K.lookup a).isNone
  let H := endH ts a free vs (ns.map V.int)
  -- an object of any other sort is not tracked
  have none_ : ∀ {b : Addr} {o : Obj}, st.heap.get? b = some o → o ≠ emptyT → o ≠ listO vs → H b = none := fun {b o} e n1 n2 => by
    cases q : H b with
    | none => rfl
    | some u =>
      rcases endH_inv q with ⟨m, _⟩ | ⟨_, rfl, _, _⟩
      · exact absurd (Option.some.inj ((tsObj b m).symm.trans e)).symm n1
      · exact absurd (Option.some.inj (list.symm.trans e)).symm n2
  have kIn : K.In (hidT st.heap H) := fun b o e => by
    refine hidT_get (inK b o e) ?_
    cases q : H b with
    | none => rfl
    | some u =>
      rcases endH_inv q with ⟨m, _⟩ | ⟨_, rfl, l, _⟩
      · obtain ⟨c, hc, rfl⟩ := List.mem_map.mp m
        exact absurd ((out c hc).symm.trans e) (by simp)
      · have l2 : (K.lookup b).isNone = true := l
        rw [e] at l2
        cases l2
  have ns_ : ∀ {b : Addr} {m : Str → Option Value}, st.heap.Ns b m → (hidT st.heap H).Ns b m := fun ⟨o, es, ep, e, d, r⟩ => by
    refine ⟨o, es, ep, hidT_get e (none_ e (fun z => ?_) fun z => ?_), d, r⟩
    · rw [z] at d; cases d
    · rw [z] at d; cases d
  have modK : L2.Mod K mg (hidT st.heap H) := by
    obtain ⟨mc, z1, z2⟩ := lim
    exact ⟨kIn, ns_ glob, ⟨mb, ns_ blt, boot⟩, mc, ns_ z1, z2⟩
  have tabs : ∀ c ∈ cs, GxR.TabB (hidT st.heap H) mg c.1 c.2 := fun c hc => by
    refine ⟨?_, ?_, fun z => ?_⟩
    · obtain ⟨o, us, file, tf, fl, tg, inF, tx, tt, e, rest⟩ := heads c hc
      refine ⟨o, us, file, tf, fl, tg, inF, tx, tt, hidT_get e (none_ e (fun z => ?_) fun z => ?_), rest⟩
      · have r1 := rest.1
        rw [z] at r1; cases r1
      · have r1 := rest.1
        rw [z] at r1; injection r1 with r2; exact absurd r2 (by decide)
    · obtain ⟨bm, ob, b1, b2, b3, b4, b5, b6⟩ := bmain
      refine ⟨bm, ob, b1, b2, fun z => ?_, fun z => ?_, hidT_get b3 (none_ b3 (fun z => ?_) fun z => ?_), b4, b5, b6⟩
      · obtain ⟨o, es, ep, e, d, _⟩ := glob
        rw [z, e] at b3
        injection b3 with b3
        rw [← b3, d] at b6; cases b6
      · rw [z, tab c hc] at b3
        injection b3 with b3
        rw [← b3] at b6; cases b6
      · rw [z] at b6; cases b6
      · rw [z] at b6; cases b6
    · obtain ⟨o, es, ep, e, d, _⟩ := glob
      rw [z, tab c hc] at e
      injection e with e
      rw [← e] at d; cases d
  have valsV := vals_ints nums
  have hok : HOk P w H st.heap := fun b u q => by
    rcases endH_inv q with ⟨m, rfl⟩ | ⟨_, rfl, _, rfl⟩
    · exact tsObj b m
    · exact ⟨list, by rw [List.length_map]; exact few, vs, _, valsV, list⟩
  have sq : SqL K H a (ns.map V.int) := by
    cases q : K.lookup a with
    | none =>
      refine .inl (.inr ⟨listO vs, (if_neg aOut).trans (if_pos ⟨rfl, ?_⟩)⟩)
      show (K.lookup a).isNone = true
      rw [q] <;> rfl
    | some o =>
      have e := inK a o q
      rw [list] at e
      injection e with e
      subst e
      refine .inr ⟨_, vs.toArray, _, q, rfl, rfl, rfl, ?_, by simpa using valsV⟩
      rw [List.size_toArray, nums.length]
      exact few
  have en : Env0 P w K mg (hidT st.heap H) callerA [] st H := ⟨rfl, modK, fun b o z => of_hidT z, Nat.le_of_eq (hidT_size _ _), trivial, fun b z => (List.not_mem_nil (show b ∈ ([] : List Addr) from z)).elim, hok, .of_eq noGens⟩
  refine codeAny_mono ((F _ kIn (ns_ glob) tabs).run callerA [] st H ⟨[.ref a], []⟩ [.ref a] [.ref a] _ _ rfl room en (bind st (.ref a)) (.cons rfl .nil) (want H (fun c hc => endH_tab (inTs hc)) sq)) fun r s' z => ?_
  cases r with
  | error e => exact (show False from z).elim
  | ok fl => cases fl with
    | next => exact (show False from z).elim
    | brk => exact (show False from z).elim
    | cont => exact (show False from z).elim
    | ret u =>
      obtain ⟨v, H', os, bare, un, hok', rel, q⟩ := z
      have q2 : v = .bl true := q
      subst q2
      have q3 : u = Value.bool true := rel
      subst q3
      have here : ∀ b o, st.heap.get? b = some o → (b ∈ ts ∧ ∃ more : Array Value, s'.heap.get? b = some { cls := .none, data := .fields more }) ∨ (b ∉ ts ∧ s'.heap.get? b = some o) := fun b o e => by
        by_cases m : b ∈ ts
        · obtain ⟨more, z⟩ := un.tbls b #[] (endH_tab m)
          exact .inl ⟨m, _, hok' b _ z⟩
        · refine .inr ⟨m, ?_⟩
          cases q : H b with
          | none => exact un.keep b o e q (fun z => (List.not_mem_nil (show b ∈ ([] : List Addr) from z)).elim) (fun z => (List.not_mem_nil z).elim)
          | some u =>
            rcases endH_inv q with ⟨m2, _⟩ | ⟨_, rfl, _, rfl⟩
            · exact absurd m2 m
            · have z := (hok' b _ (un.frzs b _ _ q)).1
              rw [list] at e
              rw [← Option.some.inj e]
              exact z
      refine ⟨rfl, ⟨fun b o e => ?_, fun b o e => ?_⟩, os, bare⟩
      · rcases here b o e with ⟨m, more, z⟩ | ⟨_, z⟩
        · obtain ⟨c, hc, rfl⟩ := List.mem_map.mp m
          have eT := Option.some.inj ((tab c hc).symm.trans e)
          subst eT
          exact .inr (.inl ⟨((heads c hc).tab (tab c hc)).isCodeTable, rfl, #[], more, rfl, by rw [Array.empty_append]; exact z⟩)
        · exact .inl z
      · rcases here b o e with ⟨_, _, z⟩ | ⟨_, z⟩
        · exact ⟨_, z⟩
        · exact ⟨_, z⟩
/-! ### repr -/
def rRepr (K : PySem.W.Frag) : List V → Hp → VK → Prop := fun xs H Q => ∃ (a : Addr) (d : PyData), xs = [.ref a] ∧ Dp K H (.ref a) d ∧ d.showable = true ∧ d.hasDict = false ∧ d.depth < 100 ∧ d.shown.length ≤ sizeLine ∧ Q (.str d.shown) H
theorem call_reprG {X : Cx} {k : Nat} (noG : X.A.guards = some []) (hr : Room k X.A) : CallR X (.builtin "repr") (rRepr X.K) := by
  intro pins s σ H xs us Q I r h
  obtain ⟨a, d, rfl, hd, h1, h2, h3, h4, q⟩ := h
  obtain ⟨u, rfl, e⟩ := vals1 r
  have e2 : u = Value.ref a := e
  subst e2
  obtain ⟨as, rd⟩ := Dp.reads I d _ _ hd rfl
  refine repr_of_reads' rd h1 (PyData.noDict_hsm h2) noG ?_ (fun _ _ z => z) (fun h' u tk z => ⟨.str _, H, I.kept z, ⟨_, rfl⟩, q⟩) h4
  have := hr.un
  omega
/-! ### a def with a table of code objects -/
structure HereT (K : PySem.W.Frag) (mg : Str → Option Value) (x : Str) (st : Stmt) (c : Addr) : Prop where
  ex : ∃ (f : Addr) (fd : FuncData), FunD K x x (defArgs st) (defBody st) (defScope st) [] [] f fd ∧ mg x = some (.ref f) ∧ fd.code = .ref c
section
variable {P : Program} {w : World} {K : PySem.W.Frag} {mg : Str → Option Value} {base : Heap} {k : Nat} {x : Str} {st : Stmt} {ps : List Str} {sp : Sp} {c : Addr}
theorem calT_mk {N : List Str} (D : HereT K mg x st c) (S : FnScope N ps (defScope st))
    (hb : ∀ (kV doc pm : Value) (an : Option Addr) (cdv ct : Value) (us : List Value), us.length = ps.length → bindArgs (PySem.W.fnOf x x (defArgs st) (defBody st) (defScope st) .none kV doc pm an cdv ct) ⟨us, []⟩ = pure (ps.zip us))
    (len : ∀ vs H Q E, sp vs H Q E → vs.length = ps.length)
    (hbody : ∀ (f : Addr) (cdv : Value) (A : Around) (outer : List Env) (s : Shared) (H : Hp) (vs : List V) (Q : VK) (E : XK), cdv = .ref c → Room k (A.deeper (envOfC x (defScope st) s.heap.objs.size f cdv)) → sp vs H Q E →
      ∃ t, PSs (cxOf CX0 P w K mg base N x (defScope st) f cdv A outer s H E).nox (defBody st) t ∧ t { nx := fun _ H' => Q .non H', rt := Q } (start N vs) H) : CalD P w K mg base (k + 1) x st ps sp := by
  obtain ⟨f, fd, F, g, hc⟩ := D.ex
  have hbs := F.bindsN hb
  have F2 := F
  obtain ⟨_, _, _, _, _, _, _, cdv, _, _, rfl, look, code, _, _⟩ := F2.ex
  refine ⟨f, _, fn_of look code S len fun A outer s H vs Q E hr h => ?_, F, g, hbs⟩
  obtain ⟨t, h1, h2⟩ := hbody f cdv A outer s H vs Q E hc hr h
  exact ⟨t, h1.nox, h2⟩
end
/-! ### heaps in which tables of code objects may have grown -/
def GrO (o o' : HO) : Prop := o' = o ∨ ∃ ps ps' : Array Value, o = .tbl ps ∧ o' = .tbl ps' ∧ TriplesOk ps'.toList
def Gro (H H' : Hp) : Prop := ∀ b o, H b = some o → ∃ o', H' b = some o' ∧ GrO o o'
theorem GrO.trans {a b c : HO} (h : GrO a b) (h2 : GrO b c) : GrO a c := by
  rcases h with rfl | ⟨ps, ps', rfl, rfl, t⟩
  · exact h2
  · rcases h2 with rfl | ⟨qs, qs', _, rfl, t2⟩
    · exact .inr ⟨ps, ps', rfl, rfl, t⟩
    · exact .inr ⟨ps, qs', rfl, rfl, t2⟩
theorem Gro.refl (H : Hp) : Gro H H := fun b o e => ⟨o, e, .inl rfl⟩
theorem Gro.trans {H H1 H2 : Hp} (h : Gro H H1) (h2 : Gro H1 H2) : Gro H H2 := fun b o e => by
  obtain ⟨o1, e1, g1⟩ := h b o e
  obtain ⟨o2, e2, g2⟩ := h2 b o1 e1
  exact ⟨o2, e2, g1.trans g2⟩
theorem Gro.of {H H' : Hp} (h : Same H H') : Gro H H' := fun b o e => ⟨o, h b o e, .inl rfl⟩
theorem Gro.tab {H H' : Hp} {P : Addr} (h : GxR.TabG H P) (t : GxR.Tabbed P H H') : Gro H H' := fun b o e => by
  obtain ⟨ps, hp, _⟩ := h
  obtain ⟨⟨ps', hp', t'⟩, r⟩ := t
  by_cases hb : b = P
  · rw [hb, hp] at e
    cases e
    exact ⟨_, by rw [hb]; exact hp', .inr ⟨ps, ps', rfl, rfl, t'⟩⟩
  · exact ⟨o, by rw [r b hb]; exact e, .inl rfl⟩
theorem Gro.at {H H' : Hp} (h : Gro H H') {b : Addr} {o : HO} (e : H b = some o) (n : ∀ ps, o ≠ .tbl ps := by intro _ z; cases z) : H' b = some o := by
  obtain ⟨o', e', g⟩ := h b o e
  rcases g with rfl | ⟨ps, _, rfl, _⟩
  · exact e'
  · exact absurd rfl (n ps)
theorem Gro.tg {H H' : Hp} {P : Addr} (h : Gro H H') (t : GxR.TabG H P) : GxR.TabG H' P := by
  obtain ⟨ps, hp, tr⟩ := t
  obtain ⟨o', e', g⟩ := h P _ hp
  rcases g with rfl | ⟨_, ps', _, rfl, t'⟩
  · exact ⟨ps, e', tr⟩
  · exact ⟨ps', e', t'⟩
theorem Gro.seq {K : PySem.W.Frag} {H H' : Hp} {a : Addr} {xs : List V} (e : Gro H H') (h : SqL K H a xs) : SqL K H' a xs := by
  rcases h with (h | ⟨o, h⟩) | h
  · exact .inl (.inl (e.at h))
  · exact .inl (.inr ⟨o, e.at h⟩)
  · exact .inr h
theorem Gro.tupS {K : PySem.W.Frag} {H H' : Hp} {a : Addr} {xs : List V} (e : Gro H H') (h : SqT K H a xs) : SqT K H' a xs := by
  rcases h with (h | ⟨o, h⟩) | h
  · exact .inl (.inl (e.at h))
  · exact .inl (.inr ⟨o, e.at h⟩)
  · exact .inr h
mutual
theorem Dp.gro {K : PySem.W.Frag} {H H' : Hp} (s : Gro H H') : ∀ (d : PyData) (v : V), Dp K H v d → Dp K H' v d
  | .none, _, h => by cases h; exact .non
  | .bool b, _, h => by cases h; exact .bl b
  | .int i, _, h => by cases h; exact .int i
  | .str x, _, h => by cases h; exact .str x
  | .list ds, _, h => by
    cases h with
    | lst h1 h2 => exact .lst (s.seq h1) (DpAll.gro s ds _ h2)
  | .tuple ds, _, h => by
    cases h with
    | tup h1 h2 => exact .tup (s.tupS h1) (DpAll.gro s ds _ h2)
  | .dict _, _, h => nomatch h
theorem DpAll.gro {K : PySem.W.Frag} {H H' : Hp} (s : Gro H H') : ∀ (ds : List PyData) (vs : List V), DpAll K H vs ds → DpAll K H' vs ds
  | [], _, h => by cases h; exact .nil
  | d :: ds, _, h => by
    cases h with
    | cons h1 h2 => exact .cons (Dp.gro s d _ h1) (DpAll.gro s ds _ h2)
end
/-- all but the object at a -/
def OffG (a : Addr) (H H' : Hp) : Prop := ∀ b o, b ≠ a → H b = some o → ∃ o', H' b = some o' ∧ GrO o o'
theorem OffG.refl (a : Addr) (H : Hp) : OffG a H H := fun b o _ e => ⟨o, e, .inl rfl⟩
theorem OffG.trans {a : Addr} {H H1 H2 : Hp} (h : OffG a H H1) (h2 : OffG a H1 H2) : OffG a H H2 := fun b o n e => by
  obtain ⟨o1, e1, g1⟩ := h b o n e
  obtain ⟨o2, e2, g2⟩ := h2 b o1 n e1
  exact ⟨o2, e2, g1.trans g2⟩
theorem OffG.of {a : Addr} {H H' : Hp} (h : Gro H H') : OffG a H H' := fun b o _ e => h b o e
theorem OffG.off {a : Addr} {H H' : Hp} (h : Off a H H') : OffG a H H' := fun b o n e => ⟨o, h b o n e, .inl rfl⟩
theorem OffG.at {a : Addr} {H H' : Hp} (h : OffG a H H') {b : Addr} {o : HO} (m : b ≠ a) (e : H b = some o) (n : ∀ ps, o ≠ .tbl ps := by intro _ z; cases z) : H' b = some o := by
  obtain ⟨o', e', g⟩ := h b o m e
  rcases g with rfl | ⟨ps, _, rfl, _⟩
  · exact e'
  · exact absurd rfl (n ps)
theorem OffG.tg {a : Addr} {H H' : Hp} {P : Addr} (h : OffG a H H') (m : P ≠ a) (t : GxR.TabG H P) : GxR.TabG H' P := by
  obtain ⟨ps, hp, tr⟩ := t
  obtain ⟨o', e', g⟩ := h P _ m hp
  rcases g with rfl | ⟨_, ps', _, rfl, t'⟩
  · exact ⟨ps, e', tr⟩
  · exact ⟨ps', e', t'⟩
theorem DeckAt.gro {H H' : Hp} {a : Addr} (h : DeckAt H a) (s : Gro H H') : DeckAt H' a := by
  obtain ⟨x, y, e, h0, h1⟩ := h
  exact ⟨x, y, s.at e, h0, h1⟩
theorem TabG.ne_deck {H : Hp} {a P : Addr} (t : GxR.TabG H P) (h : DeckAt H a) : P ≠ a := fun z => by
  obtain ⟨ps, e, _⟩ := t
  obtain ⟨x, y, e2, _⟩ := h
  rw [z, e2] at e
  cases e
/-! ### the end, for such laws -/
theorem walk_ofG {l : PySem.W.OpenLaw} {n k : Nat} {q : Program} {loose : List Str} {XP : (Str → Option Value) → Heap → Prop} {YP : World → Heap → Prop} {d : DefRec} {x : Str}
    (hn : l.most = some n) (hn2 : n ≤ sizeLine) (hdf : d.params.defaults = []) (hr : Room k callerA)
    (F : ∀ (w : World) (mg : Str → Option Value) (fa : Addr) (h : Heap), YP w h → h.Ns mainGlobals mg → mg d.name = some (.ref fa) →
      ∃ (K : PySem.W.Frag) (fd : FuncData) (cs : List (Addr × Addr)) (sp : Sp), K.In h ∧ (∀ c ∈ cs, h.get? c.2 = some emptyT) ∧ (∀ c ∈ cs, K.lookup c.2 = none) ∧ (∀ c ∈ cs, PySem.W.CodeHd h c.1 c.2) ∧ (∀ (s : Shared) (u : Value), BindsTo s fd ⟨[u], []⟩ [(x, u)]) ∧
        (∀ (H : Hp) (a : Addr) (ns : List Int), ns.length ≤ n → (∀ c ∈ cs, H c.2 = some (.tbl #[])) → SqL K H a (ns.map V.int) → sp [.ref a] H (fun v _ => v = .bl true) fun _ _ _ => False) ∧
        ∀ base : Heap, K.In base → base.Ns mainGlobals mg → (∀ c ∈ cs, GxR.TabB base mg c.1 c.2) → FnG l.prog w K mg base k fa fd [x] sp) :
    PySem.W.WalkO q loose XP YP l.row.toRowW d [] (fun f vs => PySem.call f vs) := by
  refine Att.attach_callB hn hdf fun w s₀ st mg mb fa o pm cd doc a vs ns G Y ho hd hcd hmg hobj hints hlen hbits hg => ?_
  obtain ⟨K, fd, cs, sp, KX, tab, out, heads, bind, want, hF⟩ := F w mg fa _ Y G.T.g hmg
  exact law_callG KX G.T.g G.T.b G.T.builtins G.T.nolimit hg tab out heads G.T.bmain hobj hints (Nat.le_trans hlen hn2) hr hF bind fun H hH hS => want H a ns hlen hH hS
end Ky
/-! ### words as naturals -/
namespace Ky
open PySem PySem.Spec PyProof.Rows L2
theorem or_eq : ∀ (k n m : Nat), n < 2 ^ k → m < 2 ^ k → n ||| m = (n ^^^ m) + (n &&& m)
  | 0, n, m, hn, hm => by
    have e1 : n = 0 := by simpa using hn
    have e2 : m = 0 := by simpa using hm
    subst e1 e2
    rfl
  | k + 1, n, m, hn, hm => by
    have ih := or_eq k (n / 2) (m / 2) (by rw [Nat.pow_succ] at hn; omega) (by rw [Nat.pow_succ] at hm; omega)
    rw [← Nat.or_div_two, ← Nat.xor_div_two, ← Nat.and_div_two] at ih
    have h1 : (n ||| m) % 2 = (n ^^^ m) % 2 + (n &&& m) % 2 := by
      have a1 := Nat.or_mod_two_pow (a := n) (b := m) (n := 1)
      have a2 := Nat.xor_mod_two_pow (a := n) (b := m) (n := 1)
      have a3 := Nat.and_mod_two_pow (a := n) (b := m) (n := 1)
      rw [Nat.pow_one] at a1 a2 a3
      rw [a1, a2, a3]
      rcases Nat.mod_two_eq_zero_or_one n with e | e <;> rcases Nat.mod_two_eq_zero_or_one m with f | f <;> rw [e, f] <;> rfl
    omega
theorem lt_pow_self2 (n m : Nat) : n < 2 ^ (n + m) ∧ m < 2 ^ (n + m) := by
  have h := Nat.lt_two_pow_self (n := n + m)
  omega
theorem bitXor_nat (n m : Nat) : Builtin.bitXor (n : Int) (m : Int) = ((n ^^^ m : Nat) : Int) := by
  have h := or_eq (n + m) n m (lt_pow_self2 n m).1 (lt_pow_self2 n m).2
  show Builtin.bitOr (n : Int) (m : Int) - Builtin.bitAnd (n : Int) (m : Int) = _
  have e2 : Builtin.bitAnd (n : Int) (m : Int) = ((n &&& m : Nat) : Int) := by
    have h1 : (0 : Int) ≤ (n : Int) := by omega
    have h2 : (0 : Int) ≤ (m : Int) := by omega
    unfold Builtin.bitAnd
    simp [h1, h2]
  rw [bitOr_nn (by omega) (by omega), e2, Int.toNat_natCast, Int.toNat_natCast, h]
  omega
/-- how many bits -/
def bl (n : Nat) : Nat := if n = 0 then 0 else n.log2 + 1
theorem bl_int (n : Nat) : Builtin.Int.intBits (n : Int) = bl n := by
  unfold Builtin.Int.intBits bl
  by_cases h : n = 0
  · subst h
    rfl
  · have h1 : ¬ ((n : Int) == 0) = true := by simpa using h
    rw [if_neg h1, if_neg h]
    rfl
theorem bl_le (n w : Nat) : bl n ≤ w ↔ n < 2 ^ w := by
  unfold bl
  by_cases h : n = 0
  · subst h
    rw [if_pos rfl]
    exact ⟨fun _ => Nat.pow_pos (by decide), fun _ => Nat.zero_le _⟩
  · rw [if_neg h]
    have := Nat.log2_lt (n := n) (k := w) h
    omega
/-- the width -/
def wid (n : Nat) : Nat := max 1 (bl n)
theorem wid_of {n f : Nat} (h1 : 1 ≤ f) (h : n < 2 ^ f) (h2 : f = 1 ∨ 2 ^ (f - 1) ≤ n) : f = wid n := by
  have a := (bl_le n f).mpr h
  unfold wid
  rcases h2 with e | e
  · omega
  · have b : ¬ bl n ≤ f - 1 := fun q => by
      have := (bl_le n (f - 1)).mp q
      omega
    omega
/-- the places of the bits below t -/
def plc (n t : Nat) : List Nat := (List.range t).filter fun k => n.testBit k
theorem plc_succ (n t : Nat) : plc n (t + 1) = plc n t ++ if n.testBit t = true then [t] else [] := by
  unfold plc
  rw [List.range_succ, List.filter_append]
  congr 1
  by_cases h : n.testBit t = true
  · rw [if_pos h]
    simp [h]
  · rw [if_neg h]
    simp [h]
theorem plc_more {n t : Nat} (h : n < 2 ^ t) : ∀ d, plc n (t + d) = plc n t
  | 0 => rfl
  | d + 1 => by
    have e : n.testBit (t + d) = false := Nat.testBit_lt_two_pow (Nat.lt_of_lt_of_le h (Nat.pow_le_pow_right (by decide) (Nat.le_add_right _ _)))
    rw [show t + (d + 1) = (t + d) + 1 from rfl, plc_succ, plc_more h d, if_neg (by rw [e]; decide), List.append_nil]
theorem plc_eq {n t s : Nat} (h : n < 2 ^ t) (h2 : n < 2 ^ s) : plc n t = plc n s := by
  rcases Nat.le_total t s with e | e
  · obtain ⟨d, rfl⟩ := Nat.le.dest e
    exact (plc_more h d).symm
  · obtain ⟨d, rfl⟩ := Nat.le.dest e
    exact plc_more h2 d
theorem plc_len (n t : Nat) : (plc n t).length ≤ t := by
  unfold plc
  exact Nat.le_trans (List.length_filter_le _ _) (by rw [List.length_range]; exact Nat.le_refl _)
theorem testBit_mod (n t : Nat) : n.testBit t = decide (n / 2 ^ t % 2 = 1) := Nat.testBit_eq_decide_div_mod_eq
/-- bits by halves -/
theorem low_succ (x t : Nat) : x % 2 ^ (t + 1) = x % 2 ^ t + 2 ^ t * (x / 2 ^ t % 2) := by
  rw [Nat.pow_succ, Nat.mod_mul]
theorem xor_bit (n m t : Nat) : (n ^^^ m) / 2 ^ t % 2 = if n / 2 ^ t % 2 = m / 2 ^ t % 2 then 0 else 1 := by
  have h : (n ^^^ m).testBit t = (n.testBit t ^^ m.testBit t) := Nat.testBit_xor ..
  rw [testBit_mod, testBit_mod, testBit_mod] at h
  rcases Nat.mod_two_eq_zero_or_one (n / 2 ^ t) with e | e <;> rcases Nat.mod_two_eq_zero_or_one (m / 2 ^ t) with f | f <;> rcases Nat.mod_two_eq_zero_or_one ((n ^^^ m) / 2 ^ t) with g | g <;> simp_all
theorem half_pow (n t : Nat) : n / 2 ^ t / 2 = n / 2 ^ (t + 1) := by
  rw [Nat.div_div_eq_div_mul, Nat.pow_succ]
theorem lt_of_div {n t : Nat} (h : n / 2 ^ t = 0) : n < 2 ^ t := by
  have := Nat.div_eq_zero_iff.mp h
  have p : 0 < 2 ^ t := Nat.pow_pos (by decide)
  omega
theorem nat_zero {a : Nat} (h : ¬ decide ((0 : Int) < (a : Int)) = true) : a = 0 := by
  have h1 : ¬ (0 : Int) < (a : Int) := fun e => h (decide_eq_true e)
  omega
theorem nat_pos {a : Nat} (h : decide ((0 : Int) < (a : Int)) = true) : a ≠ 0 := by
  have h1 : (0 : Int) < (a : Int) := of_decide_eq_true h
  omega
theorem cast_half (a : Nat) : (a : Int) / 2 = ((a / 2 : Nat) : Int) := by omega
theorem cast_mod2 (a : Nat) : (a : Int) % 2 = ((a % 2 : Nat) : Int) := by omega
theorem half_lt {a b : Nat} (h : ¬ (a = 0 ∧ b = 0)) : a / 2 + b / 2 < a + b := by omega
theorem half_lt1 {a : Nat} (h : a ≠ 0) : a / 2 < a := by omega
end Ky
/-! ### the promises of the words' functions -/
namespace Ky
open PySem PySem.Spec PyProof.Rows L2
def isIntD : PyData → Int → Bool
  | .int i, l => decide (l ≤ i)
  | _, _ => false
def spIsInt (K : PySem.W.Frag) : Sp := fun vs H Q _ => ∃ (x : V) (d : PyData) (l : Int), vs = [x, .int l] ∧ Dp K H x d ∧ Q (.bl (isIntD d l)) H
def spCheckWord : Sp := fun vs H Q _ => ∃ n : Nat, vs = [.int (n : Int)] ∧ Q .non H
def spAdded : Sp := fun vs H Q _ => ∃ n m : Nat, vs = [.int (n : Int), .int (m : Int)] ∧ Q (.int ((n ^^^ m : Nat) : Int)) H
def intsV (l : List Nat) : List V := l.map fun (k : Nat) => V.int (k : Int)
def spBits : Sp := fun vs H Q _ => ∃ n : Nat, vs = [.int (n : Int)] ∧ bl n ≤ 100000 ∧ ∀ (H' : Hp) (p : Addr), Same H H' → H' p = some (.tup (intsV (plc n (bl n)))) → Q (.ref p) H'
def spWidth : Sp := fun vs H Q _ => ∃ n : Nat, vs = [.int (n : Int)] ∧ Q (.int (wid n : Int)) H
def isWordD : PyData → Nat → Bool
  | .int i, w => decide (0 ≤ i) && decide (i < 2 ^ w)
  | _, _ => false
def spIsWord (K : PySem.W.Frag) : Sp := fun vs H Q _ => ∃ (x : V) (d : PyData) (w : Nat), vs = [.int (w : Int), x] ∧ 1 ≤ w ∧ Dp K H x d ∧ Q (.bl (isWordD d w)) H
/-- a drawn word -/
def spWord : Sp := fun vs H Q _ => ∃ (a : Addr) (most : Nat), vs = [.ref a, .int (most : Int)] ∧ DeckAt H a ∧ most ≤ 1000 ∧ ∀ (n : Nat) (H' : Hp), n < 2 ^ (most + 2) → Off a H H' → DeckAt H' a → Q (.int (n : Int)) H'
def spSum : Sp := fun vs H Q _ => ∃ n m : Nat, vs = [.int (n : Int), .int (m : Int)] ∧ n < 2 ^ 1100 ∧ m < 2 ^ 1100 ∧ ∀ H', Same H H' → Q (.int ((n ^^^ m : Nat) : Int)) H'
def spPower : Sp := fun vs H Q _ => ∃ n : Nat, vs = [.int (n : Int)] ∧ n ≤ 100000 ∧ Q (.int ((2 ^ n : Nat) : Int)) H
def spPlaces : Sp := fun vs H Q _ => ∃ n : Nat, vs = [.int (n : Int)] ∧ bl n ≤ 100000 ∧ ∀ (H' : Hp) (p : Addr), Same H H' → H' p = some (.tup (intsV (plc n (bl n)))) → Q (.ref p) H'
def spWidthL : Sp := fun vs H Q _ => ∃ n : Nat, vs = [.int (n : Int)] ∧ bl n ≤ 100000 ∧ ∀ H', Same H H' → Q (.int (wid n : Int)) H'
def spRight : Sp := fun vs H Q _ => ∃ a : Addr, vs = [.ref a] ∧ DeckAt H a ∧ ∀ H', Off a H H' → Q (.bl true) H'
theorem cmulx {n m a b : Nat} (h1 : n < 2 ^ a) (h2 : m < 2 ^ b) (h : a + b ≤ 134217728) : CMulX (n : Int) (m : Int) := mulx_ok (a := a) (b := b) (by simpa using h1) (by simpa using h2) h
theorem cast_pow (t : Nat) : ((2 ^ t : Nat) : Int) = (2 : Int) ^ t := by
  rw [Int.natCast_pow]
  rfl
theorem bl_pow_le {n w : Nat} (h : n < 2 ^ w) : bl n ≤ w := (bl_le n w).mpr h
theorem intsV_map (l : List Nat) : intsV l = (l.map fun k : Nat => (k : Int)).map V.int := by
  unfold intsV
  rw [List.map_map]
  rfl
/-- two tuples of naturals -/
theorem dpT {K : PySem.W.Frag} {H : Hp} {p : Addr} (l : List Nat) (h : H p = some (.tup (intsV l))) : Dp K H (.ref p) (.tuple ((l.map fun k : Nat => (k : Int)).map PyData.int)) := by
  rw [intsV_map] at h
  exact .tup (SqT.of h) (dpI _)
theorem wid_pos (n : Nat) : 1 ≤ wid n := by
  unfold wid
  omega
theorem wid_lt (n : Nat) : n < 2 ^ wid n := (bl_le n (wid n)).mp (by unfold wid; omega)
theorem wid_le {n w : Nat} (hw : 1 ≤ w) : n < 2 ^ w ↔ wid n ≤ w := by
  have := bl_le n w
  unfold wid
  omega
theorem isWord_nat (n w : Nat) : isWordD (.int (n : Int)) w = decide (n < 2 ^ w) := by
  show (decide (0 ≤ (n : Int)) && decide ((n : Int) < 2 ^ w)) = _
  rw [decide_eq_true (by omega : 0 ≤ (n : Int)), Bool.true_and, ← cast_pow]
  by_cases h : n < 2 ^ w
  · rw [decide_eq_true h, decide_eq_true (Int.ofNat_lt.mpr h)]
  · rw [decide_eq_false h, decide_eq_false (fun e => h (Int.ofNat_lt.mp e))]
theorem isWord_3 (n low : Nat) (h : 1 ≤ low) : [isWordD (.int (n : Int)) (wid n), isWordD (.int (n : Int)) low, isWordD (.int (n : Int)) (wid n + 1)] = [true, decide ((wid n : Int) ≤ (low : Int)), true] := by
  have h1 := wid_lt n
  have h2 : n < 2 ^ (wid n + 1) := Nat.lt_trans h1 (Nat.pow_lt_pow_right (by decide) (by omega))
  rw [isWord_nat, isWord_nat, isWord_nat, decide_eq_true h1, decide_eq_true h2]
  have h3 := wid_le (n := n) h
  by_cases h4 : n < 2 ^ low
  · rw [decide_eq_true h4, decide_eq_true (Int.ofNat_le.mpr (h3.mp h4))]
  · rw [decide_eq_false h4, decide_eq_false (fun e => h4 (h3.mpr (Int.ofNat_le.mp e)))]
theorem isWord_less {n : Nat} (h : 1 < wid n) : isWordD (.int (n : Int)) (wid n - 1) = false := by
  rw [isWord_nat]
  refine decide_eq_false fun e => ?_
  have := (wid_le (n := n) (w := wid n - 1) (by omega)).mp e
  omega
theorem isWord_pow (low : Nat) : [isWordD (.int ((2 ^ low : Nat) : Int)) low, isWordD (.int (((2 ^ low : Nat) : Int) - 1)) low] = [false, true] := by
  have hp : 0 < 2 ^ low := Nat.pow_pos (by decide)
  rw [show (((2 ^ low : Nat) : Int) - 1) = ((2 ^ low - 1 : Nat) : Int) by omega, isWord_nat, isWord_nat, decide_eq_false (Nat.lt_irrefl _), decide_eq_true (by omega)]
theorem isWord_neg {i : Int} (h : i < 0) (w : Nat) : isWordD (.int i) w = false := by
  show (decide (0 ≤ i) && _) = false
  rw [decide_eq_false (by omega), Bool.false_and]
def spCheckNum : Sp := fun vs H Q _ => ∃ n l : Nat, vs = [.int (n : Int), .int (l : Int)] ∧ l ≤ n ∧ Q .non H
def isBelowD : PyData → Int → Bool
  | .int i, t => decide (0 ≤ i) && decide (i < t)
  | _, _ => false
def spIsBelow (K : PySem.W.Frag) : Sp := fun vs H Q _ => ∃ (x : V) (d : PyData) (t : Int), vs = [x, .int t] ∧ Dp K H x d ∧ Q (.bl (isBelowD d t)) H
theorem isBelow_no {d : PyData} {t : Int} (h : ¬ isIntD d 0 = true) : isBelowD d t = isIntD d 0 := by
  cases d with
  | int i =>
    have e : isIntD (.int i) 0 = false := Bool.not_eq_true _ ▸ h
    rw [e]
    show (decide (0 ≤ i) && decide (i < t)) = false
    have e2 : decide (0 ≤ i) = false := e
    rw [e2, Bool.false_and]
  | _ => rfl
theorem isBelow_nat {k t : Nat} (h : k < t) : isBelowD (.int (k : Int)) (t : Int) = true := by
  show (decide (0 ≤ (k : Int)) && decide ((k : Int) < (t : Int))) = true
  rw [decide_eq_true (Int.natCast_nonneg k), decide_eq_true (Int.ofNat_lt.mpr h)]
  rfl
end Ky
/-! ### all(..) over a list or a tuple of data; the bundles that laws with tables need -/
namespace Ky
open PySem PySem.Spec PyProof.Rows L2
/-- a list or a tuple walked -/
def iSeq (K : PySem.W.Frag) (tl : TE) : TI := fun σ H R => tl σ H fun x H1 => ∃ a, x = .ref a ∧ (((∃ xs, SqL K H1 a xs) ∧ R (Itl K a) H1) ∨ ((∃ xs, SqT K H1 a xs) ∧ R (Itt K a) H1))
theorem pi_seq {X : Cx} {tg l : Expr} {tl : TE} (hl : PE X l tl) : PI X tg l (iSeq X.K tl) := by
  refine ⟨fun pins s σ H R I h => thn (hl.run pins s σ H _ I h) fun v s1 ⟨x, H1, I1, r1, a, ex, q⟩ => ?_⟩
  subst ex
  have ev : v = Value.ref a := r1
  subst ev
  have fp : ∀ b ∈ [s1.heap.objs.size], FpOk X pins H1 b := fun b hb => by
    rw [List.mem_singleton.mp hb]
    exact I1.fpOk (Nat.le_refl _) (I1.hok.fresh (Nat.le_refl _))
  have kept : ∀ o : Obj, Inv X pins σ H1 { s1 with heap := s1.heap.push o } := fun o => I1.kept (t' := s1.toks) fun b u z => Heap.get?_push_of_some _ z
  rcases q with ⟨⟨xs, sq⟩, q⟩ | ⟨⟨xs, sq⟩, q⟩
  · obtain ⟨its, rv, p, _⟩ := I1.list sq
    exact wpAny_pyIter_list p.isList ⟨s1.heap.objs.size, [s1.heap.objs.size], _, _, H1, rfl, kept _, turn_list a _, ⟨_, Heap.get?_push_size _ rfl, rfl, rfl⟩, fp, q⟩
  · obtain ⟨its, rv, p, _⟩ := I1.tuple sq
    exact wpAny_pyIter_tuple (show s1.heap.IsTuple a its.toArray from p) ⟨s1.heap.objs.size, [s1.heap.objs.size], _, _, H1, rfl, kept _, turn_tuple a _, ⟨_, Heap.get?_push_size _ rfl, rfl, rfl⟩, fp, q⟩
/-- all(te for x in xs), each item's answer known -/
theorem asks_of {J : It} {xs : List V} {f : Nat → Bool} {σ : L2.St} {vs : List Nat} {i : Nat} {te : TE} {Q : VK} {H0 H2 : Hp} (g : Gro H0 H2)
    (hgo : ∀ k H, k < xs.length → Gro H0 H → J.go k H) (hy : ∀ k H x H', Gro H0 H → J.yld k H x H' → H' = H ∧ xs[k]? = some x) (hs : ∀ H, Gro H0 H → J.stop xs.length H)
    (hw : ∀ v, wipe ((wipe σ vs).set i (some v)) vs = wipe σ vs)
    (el : ∀ k v H, xs[k]? = some v → Gro H0 H → te ((wipe σ vs).set i (some v)) H fun y H4 => y = .bl (f k) ∧ Gro H0 H4)
    (q : ∀ H, Gro H0 H → Q (.bl ((List.range xs.length).all f)) H) : Gx.Asks σ Q i te vs J H2 := by
  refine ⟨xs.length, f, fun k H => Gro H0 H ∧ ∀ j, j < k → f j = true, fun k H => k < xs.length ∧ Gro H0 H ∧ ∀ j, j < k → f j = true, ⟨g, fun j hj => absurd hj (Nat.not_lt_zero _)⟩, fun k H hk hP => ⟨hgo k H hk hP.1, fun x H' hyl => ?_⟩, fun k H hN hb => ⟨hN.2.1, fun j hj => ?_⟩, fun k H hN hb => ?_, fun H hP => ⟨hs H hP.1, ?_⟩⟩
  · obtain ⟨rfl, hx⟩ := hy k H x H' hP.1 hyl
    refine ⟨hw x, ?_⟩
    have z := el k x H' hx hP.1
    have e : (fun (y : V) H4 => y = .bl (f k) ∧ k < xs.length ∧ Gro H0 H4 ∧ ∀ j, j < k → f j = true) = fun (y : V) H4 => y = .bl (f k) ∧ Gro H0 H4 := by
      funext y H4
      exact propext ⟨fun z => ⟨z.1, z.2.2.1⟩, fun z => ⟨z.1, hk, z.2, hP.2⟩⟩
    show te ((wipe σ vs).set i (some x)) H' fun y H4 => y = .bl (f k) ∧ k < xs.length ∧ Gro H0 H4 ∧ ∀ j, j < k → f j = true
    rw [e]
    exact z
  · rcases Nat.lt_succ_iff_lt_or_eq.mp hj with h | rfl
    · exact hN.2.2 j h
    · exact hb
  · have e : (List.range xs.length).all f = false := by
      rw [← Bool.not_eq_true, List.all_eq_true]
      intro z
      rw [z k (List.mem_range.mpr hN.1)] at hb
      cases hb
    have z := q H hN.2.1
    rwa [e] at z
  · have e : (List.range xs.length).all f = true := List.all_eq_true.mpr fun j hj => hP.2 j (List.mem_range.mp hj)
    have z := q H hP.1
    rwa [e] at z
theorem all_get {α : Type} (l : List α) (p : α → Bool) (f : Nat → Bool) (h : ∀ k x, l[k]? = some x → f k = p x) : (List.range l.length).all f = l.all p := by
  rw [Bool.eq_iff_iff, List.all_eq_true, List.all_eq_true]
  constructor
  · intro z x hx
    obtain ⟨k, hk, rfl⟩ := List.getElem_of_mem hx
    rw [← h k _ (List.getElem?_eq_getElem hk)]
    exact z k (List.mem_range.mpr hk)
  · intro z k hk
    have hk := List.mem_range.mp hk
    rw [h k _ (List.getElem?_eq_getElem hk)]
    exact z _ (List.getElem_mem hk)
/-- .. over data -/
theorem asks_data {J : It} {K : PySem.W.Frag} {xs : List V} {ds : List PyData} (p : PyData → Bool) {σ : L2.St} {vs : List Nat} {i : Nat} {te : TE} {Q : VK} {H0 H2 : Hp} (g : Gro H0 H2) (hd : DpAll K H0 xs ds)
    (hgo : ∀ k H, k < xs.length → Gro H0 H → J.go k H) (hy : ∀ k H x H', Gro H0 H → J.yld k H x H' → H' = H ∧ xs[k]? = some x) (hs : ∀ H, Gro H0 H → J.stop xs.length H)
    (hw : ∀ v, wipe ((wipe σ vs).set i (some v)) vs = wipe σ vs)
    (el : ∀ v d H, d ∈ ds → Dp K H v d → Gro H0 H → te ((wipe σ vs).set i (some v)) H fun y H4 => y = .bl (p d) ∧ Gro H0 H4)
    (q : ∀ H, Gro H0 H → Q (.bl (ds.all p)) H) : Gx.Asks σ Q i te vs J H2 := by
  have hl := DpAll.length _ hd
  refine asks_of (xs := xs) (f := fun k => match ds[k]? with | some d => p d | none => true) g hgo hy hs hw (fun k v H hk hg => ?_) fun H hg => ?_
  · have hlt : k < ds.length := by
      rw [← hl]
      exact (List.getElem?_eq_some_iff.mp hk).1
    obtain ⟨v', hv, hdv⟩ := DpAll.get _ hd (List.getElem?_eq_getElem hlt)
    rw [hk] at hv
    cases hv
    have z := el v _ H (List.getElem_mem hlt) (Dp.gro hg _ _ hdv) hg
    simpa only [List.getElem?_eq_getElem hlt] using z
  · rw [hl, all_get ds p _ (fun k x e => by simp only [e])]
    exact q H hg
theorem go_l {K : PySem.W.Frag} {a : Addr} {xs : List V} {H0 : Hp} (h : SqL K H0 a xs) : ∀ k H, k < xs.length → Gro H0 H → (Itl K a).go k H := fun k H hk g => ⟨xs, _, g.seq h, List.getElem?_eq_getElem hk⟩
theorem yl_l {K : PySem.W.Frag} {a : Addr} {xs : List V} {H0 : Hp} (h : SqL K H0 a xs) : ∀ k H x H', Gro H0 H → (Itl K a).yld k H x H' → H' = H ∧ xs[k]? = some x := fun k H x H' g z => ⟨z.1, z.2 xs (g.seq h)⟩
theorem st_l {K : PySem.W.Frag} {a : Addr} {xs : List V} {H0 : Hp} (h : SqL K H0 a xs) : ∀ H, Gro H0 H → (Itl K a).stop xs.length H := fun H g => ⟨xs, g.seq h, Nat.le_refl _⟩
theorem go_t {K : PySem.W.Frag} {a : Addr} {xs : List V} {H0 : Hp} (h : SqT K H0 a xs) : ∀ k H, k < xs.length → Gro H0 H → (Itt K a).go k H := fun k H hk g => ⟨xs, _, g.tupS h, List.getElem?_eq_getElem hk⟩
theorem yl_t {K : PySem.W.Frag} {a : Addr} {xs : List V} {H0 : Hp} (h : SqT K H0 a xs) : ∀ k H x H', Gro H0 H → (Itt K a).yld k H x H' → H' = H ∧ xs[k]? = some x := fun k H x H' g z => ⟨z.1, z.2 xs (g.tupS h)⟩
theorem st_t {K : PySem.W.Frag} {a : Addr} {xs : List V} {H0 : Hp} (h : SqT K H0 a xs) : ∀ H, Gro H0 H → (Itt K a).stop xs.length H := fun H g => ⟨xs, g.tupS h, Nat.le_refl _⟩
/-- a generator expression's scope within a def's -/
theorem genS_by {env : Env} {sc scope : Scope} {x : Str} {n : Nat} (hc : env.cells = cellsFrom n sc.names []) (h1 : scope.kind = .function) (h2 : scope.isCoroutine = false) (h3 : ∀ y ∈ scope.names, y.2 ≠ .cell) (h4 : scope.names.lookup (".0" : Str) = some NameKind.local)
    (h5 : scope.names.lookup x = some .local) (h6 : ∀ y ∈ scope.names, y.2 = .free → sc.names.lookup y.1 = some .cell) : GxR.GenS env scope x := by
  refine ⟨h1, h2, h3, h4, h5, fun y hy hf => ?_⟩
  obtain ⟨c, e⟩ := cell_has (n := n) (h6 y hy hf)
  exact ⟨c, by rw [hc]; exact e⟩
/-- a def's code object, its table -/
abbrev cA (K : PySem.W.Frag) (x : Str) : Addr := (He.cT K (x, none)).1
abbrev tA (K : PySem.W.Frag) (x : Str) : Addr := (He.cT K (x, none)).2
theorem hereT_mk {fa : List He.Fa} {fn : List He.DefD} {K : PySem.W.Frag} {h : Heap} {mg : Str → Option Value} (X : K.In h) (G : h.Ns mainGlobals mg) (c : He.SaysD fa fn K) (i j : Nat) {x : Str} {st : Stmt}
    (hi : fn[i]? = some ⟨(x, none), x, x, defArgs st, defBody st, defScope st, [], []⟩) (hj : fa[j]? = some (.glo x)) : HereT K mg x st (cA K x) := by
  obtain ⟨fd, F⟩ := c.def_ i hi
  have F2 := F
  obtain ⟨_, _, _, _, _, _, _, cdv, _, _, rfl, look, code, _, _⟩ := F2.ex
  obtain ⟨cc, e⟩ := He.codeIn_ref code
  refine ⟨_, _, F, He.glo_ok X G (c.fact j hj), ?_⟩
  have z := He.codeOf_eq look (c := cc) e
  show cdv = Value.ref (He.codeOf K (x, none))
  rw [z]
  exact e
/-- a law over the script's list, the tables of the defs tf at hand -/
def spLawT (K : PySem.W.Frag) (tf : List Str) : Sp := fun vs H Q _ => ∃ (s : Addr) (ns : List Int), vs = [.ref s] ∧ SqL K H s (ns.map V.int) ∧ ns.length ≤ 63 ∧ (∀ x ∈ tf, GxR.TabG H (tA K x)) ∧ ∀ H', Q (.bl true) H'
theorem law_finG {sx : Str} {P : Program} {w : World} {K : PySem.W.Frag} {h : Heap} {mg : Str → Option Value} {fa : Addr} {k : Nat} {st : Stmt} {fs : List He.Fa} {fn : List He.DefD} {ts : List He.Tab} {ex : PySem.W.Frag → Bool} {tf : List Str} (X : K.In h) (G : h.Ns mainGlobals mg)
    (c : He.SaysX fs fn ts (tf.map fun x => (x, none)) ex w h K) (hmg : mg ("law" : Str) = some (.ref fa)) (D : Here K mg "law" st)
    (hb : ∀ (kV doc pm : Value) (an : Option Addr) (cdv ct : Value) (us : List Value), us.length = ([sx] : List Str).length → bindArgs (PySem.W.fnOf "law" "law" (defArgs st) (defBody st) (defScope st) .none kV doc pm an cdv ct) ⟨us, []⟩ = pure (([sx] : List Str).zip us))
    (C : ∀ base : Heap, (∀ x ∈ tf, GxR.TabB base mg (cA K x) (tA K x)) → CalG P w K mg base k "law" st [sx] (spLawT K tf)) :
    ∃ (K : PySem.W.Frag) (fd : FuncData) (cs : List (Addr × Addr)) (sp : Sp), K.In h ∧ (∀ c ∈ cs, h.get? c.2 = some emptyT) ∧ (∀ c ∈ cs, K.lookup c.2 = none) ∧ (∀ c ∈ cs, PySem.W.CodeHd h c.1 c.2) ∧ (∀ (s : Shared) (u : Value), BindsTo s fd ⟨[u], []⟩ [(sx, u)]) ∧
      (∀ (H : Hp) (a : Addr) (ns : List Int), ns.length ≤ 63 → (∀ c ∈ cs, H c.2 = some (.tbl #[])) → SqL K H a (ns.map V.int) → sp [.ref a] H (fun v _ => v = .bl true) fun _ _ _ => False) ∧
      ∀ base : Heap, K.In base → base.Ns mainGlobals mg → (∀ c ∈ cs, GxR.TabB base mg c.1 c.2) → FnG P w K mg base k fa fd [sx] sp := by
  obtain ⟨f, fd, F, g⟩ := D.ex
  have e := hmg.symm.trans g
  cases e
  have b := FunD.bindsA (ps := [sx]) F hb
  have mem : ∀ q ∈ (tf.map fun x => ((x, none) : He.Defn)).map (He.cT K), ∃ x ∈ tf, q = He.cT K (x, none) := fun q hq => by
    obtain ⟨d, hd, rfl⟩ := List.mem_map.mp hq
    obtain ⟨x, hx, rfl⟩ := List.mem_map.mp hd
    exact ⟨x, hx, rfl⟩
  have back : ∀ x ∈ tf, ((x, none) : He.Defn) ∈ tf.map fun x => ((x, none) : He.Defn) := fun x hx => List.mem_map.mpr ⟨x, hx, rfl⟩
  refine ⟨K, fd, (tf.map fun x => ((x, none) : He.Defn)).map (He.cT K), spLawT K tf, X, fun q hq => ?_, fun q hq => ?_, fun q hq => ?_, fun s v => b s [v] rfl, fun H a ns hl hT hS => ⟨a, ns, rfl, hS, hl, fun x hx => ⟨#[], hT _ (List.mem_map.mpr ⟨_, back x hx, rfl⟩), ?_⟩, fun _ => rfl⟩, fun base _ _ hB => ?_⟩
  · obtain ⟨x, hx, rfl⟩ := mem q hq
    exact c.empty _ (back x hx)
  · obtain ⟨x, hx, rfl⟩ := mem q hq
    exact c.out _ (back x hx)
  · obtain ⟨x, hx, rfl⟩ := mem q hq
    exact PySem.W.codeHd_of_K X (c.hd _ (back x hx))
  · trivial
  obtain ⟨f2, fd2, F2, D2, g2, _⟩ := (C base fun x hx => hB _ (List.mem_map.mpr ⟨_, back x hx, rfl⟩)).ex
  have e2 := g.symm.trans g2
  cases e2
  have e3 : fd = fd2 := by
    obtain ⟨_, _, _, _, _, _, _, _, _, _, _, l1, _⟩ := F.ex
    obtain ⟨_, _, _, _, _, _, _, _, _, _, _, l2, _⟩ := D2.ex
    have l3 := l1.symm.trans l2
    injection l3 with l4
    injection l4 with _ _ l5
    injection l5
  rw [e3]
  exact F2
section
variable {X : Cx}
theorem op_neD_at (K : PySem.W.Frag) (e : X.K = K) (hu : X.A.units + 64 < cLine) : OpR X (compareOp .NotEq) (rNeD K) := by subst e; exact op_neD hu
theorem op_eqD_at (K : PySem.W.Frag) (e : X.K = K) (hu : X.A.units + 64 < cLine) : OpR X (compareOp .Eq) (rEqD K) := by subst e; exact op_eqD hu
theorem call_tuple_of_at (K : PySem.W.Frag) (e : X.K = K) : CallR X (.type "tuple") (fun xs H Q => ∃ p ys, xs = [.ref p] ∧ ((SqL K H p ys ∧ ∀ l, H l = none → Q (.ref l) (upd H l (.tup ys))) ∨ (SqT K H p ys ∧ Q (.ref p) H))) := by subst e; exact call_tuple_of
end
end Ky
/-! ### sums of words -/
namespace Ky
def xorAll (l : List Nat) : Nat := l.foldl (fun a b => a ^^^ b) 0
theorem xor_fold (l : List Nat) : ∀ a, l.foldl (fun a b => a ^^^ b) a = a ^^^ xorAll l := by
  induction l with
  | nil => intro a; show a = a ^^^ 0; rw [Nat.xor_zero]
  | cons x l ih =>
    intro a
    show l.foldl (fun a b => a ^^^ b) (a ^^^ x) = a ^^^ l.foldl (fun a b => a ^^^ b) (0 ^^^ x)
    rw [ih, ih, Nat.zero_xor, Nat.xor_assoc]
theorem xorAll_cons (x : Nat) (l : List Nat) : xorAll (x :: l) = x ^^^ xorAll l := by
  show l.foldl (fun a b => a ^^^ b) (0 ^^^ x) = _
  rw [xor_fold, Nat.zero_xor]
theorem xorAll_append (l m : List Nat) : xorAll (l ++ m) = xorAll l ^^^ xorAll m := by
  unfold xorAll
  rw [List.foldl_append, xor_fold m]
  rfl
theorem xorAll_perm {l m : List Nat} (h : l.Perm m) : xorAll l = xorAll m := by
  induction h with
  | nil => rfl
  | cons x _ ih => rw [xorAll_cons, xorAll_cons, ih]
  | swap x y l => rw [xorAll_cons, xorAll_cons, xorAll_cons, xorAll_cons, ← Nat.xor_assoc, ← Nat.xor_assoc, Nat.xor_comm y x]
  | trans _ _ h1 h2 => rw [h1, h2]
theorem xorAll_lt {k : Nat} : ∀ {l : List Nat}, (∀ n ∈ l, n < 2 ^ k) → xorAll l < 2 ^ k
  | [], _ => Nat.pow_pos (by decide)
  | x :: l, h => by
    rw [xorAll_cons]
    exact Nat.xor_lt_two_pow (h x List.mem_cons_self) (xorAll_lt fun n hn => h n (List.mem_cons_of_mem _ hn))
theorem xorAll_take {l : List Nat} {i n : Nat} (e : l[i]? = some n) : xorAll (l.take (i + 1)) = xorAll (l.take i) ^^^ n := by
  rw [List.take_add_one, e, xorAll_append]
  show _ ^^^ xorAll [n] = _
  rw [xorAll_cons]
  show _ ^^^ (n ^^^ 0) = _
  rw [Nat.xor_zero]
theorem xor_div (a b i : Nat) : (a ^^^ b) / 2 ^ i = (a / 2 ^ i) ^^^ (b / 2 ^ i) := by
  rw [← Nat.shiftRight_eq_div_pow, ← Nat.shiftRight_eq_div_pow, ← Nat.shiftRight_eq_div_pow, Nat.shiftRight_xor_distrib]
theorem xor_mod2 (a b : Nat) : (a ^^^ b) % 2 = (a % 2 + b % 2) % 2 := by
  have z := Nat.xor_mod_two_pow (a := a) (b := b) (n := 1)
  rw [Nat.pow_one] at z
  rw [z]
  rcases Nat.mod_two_eq_zero_or_one a with e | e <;> rcases Nat.mod_two_eq_zero_or_one b with f | f <;> rw [e, f] <;> rfl
theorem sum_bits (i : Nat) : ∀ l : List Nat, (l.map fun n => n / 2 ^ i % 2).sum % 2 = xorAll l / 2 ^ i % 2
  | [] => by
    show 0 % 2 = 0 / 2 ^ i % 2
    rw [Nat.zero_div]
  | x :: l => by
    have ih := sum_bits i l
    rw [xorAll_cons, xor_div, xor_mod2, ← ih, List.map_cons, List.sum_cons]
    omega
theorem half_step (n i : Nat) : n / 2 ^ i / 2 = n / 2 ^ (i + 1) := by
  rw [Nat.div_div_eq_div_mul, Nat.pow_succ]
theorem plc_bl {n t : Nat} (h : n < 2 ^ t) : plc n (bl n) = plc n t := by
  have h1 := (bl_le n t).mpr h
  have h2 := (bl_le n (bl n)).mp (Nat.le_refl _)
  have e := plc_more h2 (t - bl n)
  rw [show bl n + (t - bl n) = t by omega] at e
  exact e.symm
end Ky
/-! ### promises of what the words' and the books' functions share -/
namespace Ky
open PySem PySem.Spec PyProof.Rows L2
def areIntsD : PyData → Int → Bool
  | .list ds, l => ds.all fun d => isIntD d l
  | .tuple ds, l => ds.all fun d => isIntD d l
  | _, _ => false
def spAreInts (K : PySem.W.Frag) : Sp := fun vs H Q _ => ∃ (x : V) (d : PyData) (l : Int), vs = [x, .int l] ∧ Dp K H x d ∧ GxR.TabG H (tA K "are_integers") ∧ ∀ H', Gro H H' → Q (.bl (areIntsD d l)) H'
/-- a list or a tuple of words -/
def WordsAt (K : PySem.W.Frag) (H : Hp) (a : Addr) (l : List Nat) : Prop := SqL K H a (intsV l) ∨ SqT K H a (intsV l)
theorem WordsAt.gro {K : PySem.W.Frag} {H H' : Hp} {a : Addr} {l : List Nat} (h : WordsAt K H a l) (g : Gro H H') : WordsAt K H' a l := h.imp g.seq g.tupS
def spAddedAll (K : PySem.W.Frag) : Sp := fun vs H Q _ => ∃ (a : Addr) (l : List Nat), vs = [.ref a] ∧ WordsAt K H a l ∧ GxR.TabG H (tA K "are_integers") ∧ ∀ H', Gro H H' → Q (.int (xorAll l : Int)) H'
/-- what repr asks of a list of ints -/
theorem ints_show : ∀ l : List Int, (∀ i ∈ l, i.natAbs.log2 < 1900) → PyData.showableAll (l.map PyData.int) = true ∧ PyData.hasDictAll (l.map PyData.int) = false ∧ PyData.depthAll (l.map PyData.int) = 0 ∧ PyData.leavesShortAll 1921 (l.map PyData.int) = true ∧ PyData.bulkAll (l.map PyData.int) = l.length ∧ PyData.canLayAll0 (l.map PyData.int) = true
  | [], _ => ⟨rfl, rfl, rfl, rfl, rfl, rfl⟩
  | i :: l, h => by
    obtain ⟨h1, h2, h3, h4, h5, h6⟩ := ints_show l fun j hj => h j (List.mem_cons_of_mem _ hj)
    have hi := h i List.mem_cons_self
    have z : i.natAbs.log2 < 1920 := by omega
    have len : (PyData.shown (.int i)).length ≤ 1921 := PyProof.Rows.int_text_len_1921 z
    refine ⟨?_, ?_, ?_, ?_, ?_, ?_⟩
    · show (decide (i.natAbs.log2 < 1920) && PyData.showableAll (l.map PyData.int)) = true
      rw [h1, decide_eq_true z] <;> rfl
    · show (false || PyData.hasDictAll (l.map PyData.int)) = false
      rw [h2] <;> rfl
    · show max 0 (PyData.depthAll (l.map PyData.int)) = 0
      rw [h3] <;> rfl
    · show (decide ((PyData.shown (.int i)).length ≤ 1921) && PyData.leavesShortAll 1921 (l.map PyData.int)) = true
      rw [h4, decide_eq_true len] <;> rfl
    · show 0 + 1 + PyData.bulkAll (l.map PyData.int) = l.length + 1
      rw [h5]
      omega
    · show (PyData.canLay0 (.int i) && PyData.canLayAll0 (l.map PyData.int)) = true
      rw [h6] <;> rfl
theorem list_show {l : List Int} (h : ∀ i ∈ l, i.natAbs.log2 < 1900) (hl : l.length ≤ 1000) : (PyData.list (l.map PyData.int)).showable = true ∧ (PyData.list (l.map PyData.int)).hasDict = false ∧ (PyData.list (l.map PyData.int)).depth < 100 ∧ (PyData.list (l.map PyData.int)).shown.length ≤ sizeLine ∧ SeqAt.shaped (.list (l.map PyData.int)) = true := by
  obtain ⟨h1, h2, h3, h4, h5, h6⟩ := ints_show l h
  have d : (PyData.list (l.map PyData.int)).depth = 1 := by
    show PyData.depthAll (l.map PyData.int) + 1 = 1
    rw [h3]
  refine ⟨h1, h2, by rw [d]; decide, ?_, ?_⟩
  · have z := PyData.shown_le_bulk 1921 (by decide) (.list (l.map PyData.int)) h4
    have e : (PyData.list (l.map PyData.int)).bulk = l.length := h5
    rw [e] at z
    have e2 : sizeLine = 16777216 := by decide
    omega
  · unfold SeqAt.shaped
    rw [d]
    show (PyData.canLayAll0 (l.map PyData.int) && _) = true
    rw [h6] <;> rfl
/-! ### decks, once more -/
theorem pick_l {K : PySem.W.Frag} {H : Hp} {a p : Addr} (xs : List V) (x y : Int) (hD : DeckAt H a) (hp : H p = none) :
    SqL K (upd (upd H p (.lst xs)) a (.lst [.int x, .int y])) p xs ∧ Off a H (upd (upd H p (.lst xs)) a (.lst [.int x, .int y])) := by
  have n : a ≠ p := by
    obtain ⟨_, _, e, _⟩ := hD
    exact ne_of_none e hp
  exact ⟨SqL.of (by rw [upd_ne n.symm, upd_same]), (Off.of (same_upd hp)).trans (Off.upd _ _ _)⟩
/-- what a law's turn asks: its deck, tables; the deck alone turns -/
def spTurn (K : PySem.W.Frag) (tf : List Str) : Sp := fun vs H Q _ => ∃ a : Addr, vs = [.ref a] ∧ DeckAt H a ∧ (∀ x ∈ tf, GxR.TabG H (tA K x)) ∧ ∀ H', OffG a H H' → Q (.bl true) H'
theorem OffG.gro {a : Addr} {H H1 H2 : Hp} (g : Gro H H1) (n : H a = none) (o : OffG a H1 H2) : Gro H H2 := fun b u e => by
  obtain ⟨u1, e1, g1⟩ := g b u e
  obtain ⟨u2, e2, g2⟩ := o b u1 (ne_of_none e n) e1
  exact ⟨u2, e2, g1.trans g2⟩
/-- the words' list and the deck within a heap that has gone on -/
structure WD (K : PySem.W.Frag) (tf : List Str) (a p : Addr) (l : List Nat) (H H' : Hp) : Prop where
  off : OffG a H H'
  deck : DeckAt H' a
  tabs : ∀ x ∈ tf, GxR.TabG H' (tA K x)
  ne : p ≠ a
  new : H p = none
  list : H' p = some (.lst (intsV l))
section
variable {K : PySem.W.Frag} {tf : List Str} {a p : Addr} {l : List Nat} {H H1 H2 : Hp}
theorem WD.gro (w : WD K tf a p l H H1) (g : Gro H1 H2) : WD K tf a p l H H2 :=
  ⟨w.off.trans (.of g), w.deck.gro g, fun x hx => g.tg (w.tabs x hx), w.ne, w.new, g.at w.list⟩
theorem WD.turn (w : WD K tf a p l H H1) (o : OffG a H1 H2) (d : DeckAt H2 a) : WD K tf a p l H H2 :=
  ⟨w.off.trans o, d, fun x hx => o.tg (TabG.ne_deck (w.tabs x hx) w.deck) (w.tabs x hx), w.ne, w.new, o.at w.ne w.list⟩
theorem WD.put (w : WD K tf a p l H H1) (l' : List Nat) : WD K tf a p l' H (upd H1 p (.lst (intsV l'))) := by
  obtain ⟨x, y, e, h0, h1⟩ := w.deck
  refine ⟨fun b o n e => ?_, ⟨x, y, by rw [upd_ne w.ne.symm]; exact e, h0, h1⟩, fun x hx => ?_, w.ne, w.new, upd_same⟩
  · rw [upd_ne (ne_of_none e w.new)]
    exact w.off b o n e
  · obtain ⟨ps, e, t⟩ := w.tabs x hx
    refine ⟨ps, ?_, t⟩
    rw [upd_ne (fun z => by rw [z, w.list] at e; cases e)]
    exact e
theorem WD.sq (w : WD K tf a p l H H1) : SqL K H1 p (intsV l) := SqL.of w.list
end
theorem intsV_len (l : List Nat) : (intsV l).length = l.length := List.length_map _
theorem intsV_get {l : List Nat} {i : Nat} (h : i < l.length) : (intsV l)[i]? = some (.int (l[i] : Int)) := by
  unfold intsV
  rw [List.getElem?_map, List.getElem?_eq_getElem h]
  rfl
theorem intsV_at {l : List Nat} {i : Nat} {v : V} (e : (intsV l)[i]? = some v) : ∃ n, l[i]? = some n ∧ v = .int (n : Int) := by
  unfold intsV at e
  rw [List.getElem?_map] at e
  cases h : l[i]? with
  | none => rw [h] at e; cases e
  | some n => rw [h] at e; exact ⟨n, rfl, (Option.some.inj e).symm⟩
theorem dpW {K : PySem.W.Frag} {H : Hp} {p : Addr} (l : List Nat) (h : SqL K H p (intsV l)) : Dp K H (.ref p) (.list ((l.map fun k : Nat => (k : Int)).map PyData.int)) := by
  rw [intsV_map] at h
  exact .lst h (dpI _)
theorem words_show {l : List Nat} (h : ∀ n ∈ l, n < 2 ^ 1000) (hl : l.length ≤ 1000) : ∀ i ∈ l.map fun k : Nat => (k : Int), i.natAbs.log2 < 1900 := fun i hi => by
  obtain ⟨n, hn, rfl⟩ := List.mem_map.mp hi
  have h1 := h n hn
  rw [Int.natAbs_natCast]
  by_cases z : n = 0
  · rw [z]; decide
  · have := (Nat.log2_lt z).mpr h1
    omega
theorem sorted_nats {l : List Nat} {ns' : List Int} (h : ns'.Perm (l.map fun k : Nat => (k : Int))) : ∃ l' : List Nat, ns'.map V.int = intsV l' ∧ l'.Perm l := by
  refine ⟨ns'.map Int.toNat, ?_, ?_⟩
  · have key : (ns'.map Int.toNat).map (fun k : Nat => (k : Int)) = ns' := by
      rw [List.map_map]
      refine (List.map_congr_left (g := id) fun i hi => ?_).trans (List.map_id _)
      obtain ⟨k, _, rfl⟩ := List.mem_map.mp (h.mem_iff.mp hi)
      rfl
    rw [intsV_map, key]
  · have z := h.map Int.toNat
    rw [List.map_map] at z
    have e : l.map (Int.toNat ∘ fun k : Nat => (k : Int)) = l := (List.map_congr_left (g := id) fun i _ => rfl).trans (List.map_id _)
    rwa [e] at z
theorem intsV_app (l m : List Nat) : intsV l ++ intsV m = intsV (l ++ m) := by
  unfold intsV
  rw [List.map_append]
theorem intsV_one (n : Nat) : [V.int (n : Int)] = intsV [n] := rfl
/-! ### comprehensions whose elements only read -/
theorem lc_map {K : PySem.W.Frag} {a : Addr} {xs : List V} (f : V → V) {i : Nat} {te : TE} {vs : List Nat} {σ : L2.St} {H1 : Hp} {D : Addr} {Qd : Hp → Prop} (sq : SqL K H1 a xs) (hD : H1 D = none) (hn : xs.length ≤ 1000000)
    (hw : ∀ v, wipe ((wipe σ vs).set i (some v)) vs = wipe σ vs) (el : ∀ x ∈ xs, ∀ H (Q : VK), Q (f x) H → te ((wipe σ vs).set i (some x)) H Q) (hd : Qd (upd H1 D (.lst (xs.map f)))) :
    ∃ W : Nat → Nat → Hp → Prop, (∃ m, W 0 m (upd H1 D (.lst []))) ∧ ∀ i' m H, W i' m H →
      ((Itl K a).stop i' H ∧ Qd H) ∨ ((Itl K a).go i' H ∧ ∃ Nx : Hp → Prop, (∀ H', Nx H' → ∃ m', m' < m ∧ W (i' + 1) m' H') ∧ ∀ x H', (Itl K a).yld i' H x H' → gName i x (wipe σ vs) H' fun σ2 H2 => wipe σ2 vs = wipe σ vs ∧ tYes σ2 H2 fun b H3 =>
        if b = true then te σ2 H3 fun y H4 => ∃ acc, H4 D = some (.lst acc) ∧ acc.length < sizeLine ∧ Nx (upd H4 D (.lst (acc ++ [y]))) else Nx H3) := by
  refine lc_list (fun k H => H = upd H1 D (.lst ((xs.take k).map f))) rfl (fun k H _ e => by rw [e]; exact Same.seq (same_upd hD) sq) (fun k x H e hP => ⟨hw x, ?_⟩) (fun H hP => ?_)
  · subst hP
    refine el x (List.mem_of_getElem? e) _ _ ⟨_, upd_same, ?_, ?_⟩
    · rw [List.length_map, List.length_take]
      exact Nat.lt_of_le_of_lt (Nat.le_trans (Nat.min_le_right _ _) hn) (by decide)
    · rw [upd_upd, List.take_add_one, e, List.map_append]
      rfl
  · rw [hP, List.take_length]
    exact hd
end Ky
/-! ### promises of the books' functions -/
namespace Ky
open PySem PySem.Spec PyProof.Rows L2
def ascFrom (top : Int) : Int → List PyData → Bool
  | _, [] => true
  | l, d :: ds => match d with
    | .int i => decide (l ≤ i) && (decide (i < top) && ascFrom top (i + 1) ds)
    | _ => false
def isAscD : PyData → Int → Bool
  | .tuple ds, top => ascFrom top 0 ds
  | _, _ => false
def spIsAsc (K : PySem.W.Frag) : Sp := fun vs H Q _ => ∃ (x : V) (d : PyData) (top : Int), vs = [x, .int top] ∧ Dp K H x d ∧ Q (.bl (isAscD d top)) H
def rowOk (m : Int) (d : PyData) : Bool := !PyData.eqv d (.tuple []) && isAscD d m
def isBookM : PyData → PyData → Bool
  | .int m, .tuple ds => decide (1 ≤ m) && ds.all (rowOk m)
  | _, _ => false
def isBookD : PyData → Bool
  | .tuple ds => (match ds with
    | [dm, dr] => isBookM dm dr
    | _ => false)
  | _ => false
theorem isBookD_len {ds : List PyData} (h : ds.length ≠ 2) : isBookD (.tuple ds) = false := by
  cases ds with
  | nil => rfl
  | cons d ds => cases ds with
    | nil => rfl
    | cons e ds => cases ds with
      | nil => exact absurd rfl h
      | cons f ds => rfl
def isTup : PyData → Bool
  | .tuple _ => true
  | _ => false
theorem kit_tup (d : PyData) : kitB (tyD d) "tuple" = some (isTup d) := by
  cases d with
  | none => exact (by decide +kernel : kitB "NoneType" "tuple" = some false)
  | bool b => exact (by decide +kernel : kitB "bool" "tuple" = some false)
  | int b => exact (by decide +kernel : kitB "int" "tuple" = some false)
  | str b => exact (by decide +kernel : kitB "str" "tuple" = some false)
  | list b => exact (by decide +kernel : kitB "list" "tuple" = some false)
  | tuple b => exact (by decide +kernel : kitB "tuple" "tuple" = some true)
  | dict b => exact (by decide +kernel : kitB "dict" "tuple" = some false)
def spIsBook (K : PySem.W.Frag) : Sp := fun vs H Q _ => ∃ (x : V) (d : PyData), vs = [x] ∧ Dp K H x d ∧ SeqAt.shaped d = true ∧ GxR.TabG H (tA K "is_book") ∧ ∀ H', Gro H H' → Q (.bl (isBookD d)) H'
def spCheckBook (K : PySem.W.Frag) : Sp := fun vs H Q _ => ∃ (x : V) (d : PyData), vs = [x] ∧ Dp K H x d ∧ SeqAt.shaped d = true ∧ isBookD d = true ∧ GxR.TabG H (tA K "is_book") ∧ ∀ H', Gro H H' → Q .non H'
theorem shaped_in : ∀ {ds : List PyData} {n : Nat}, PyData.canLayAll0 ds = true → PyData.depthAll ds ≤ n → ∀ d ∈ ds, PyData.canLay0 d = true ∧ PyData.depth d ≤ n
  | [], _, _, _, _, hd => by cases hd
  | e :: es, n, h1, h2, d, hd => by
    obtain ⟨c1, c2⟩ := Bool.and_eq_true_iff.mp (show (PyData.canLay0 e && PyData.canLayAll0 es) = true from h1)
    have h3 : max (PyData.depth e) (PyData.depthAll es) ≤ n := h2
    rcases List.mem_cons.mp hd with rfl | hd
    · exact ⟨c1, by omega⟩
    · exact shaped_in c2 (by omega) d hd
theorem shaped_all {ds : List PyData} (h : SeqAt.shaped (.tuple ds) = true) (d : PyData) (hd : d ∈ ds) : SeqAt.shaped d = true := by
  unfold SeqAt.shaped at h
  obtain ⟨h1, h2⟩ := Bool.and_eq_true_iff.mp h
  have h3 : PyData.depthAll ds + 1 ≤ 64 := of_decide_eq_true h2
  obtain ⟨c1, c2⟩ := shaped_in (n := 63) (show PyData.canLayAll0 ds = true from h1) (by omega) d hd
  unfold SeqAt.shaped
  rw [c1, decide_eq_true (by omega)] <;> rfl
/-! ### pages as data -/
abbrev natsD (l : List Nat) : List PyData := (l.map fun k : Nat => (k : Int)).map PyData.int
def rowD (r : List Nat) : PyData := .tuple (natsD r)
def pageD (m : Nat) (rows : List (List Nat)) : PyData := .tuple [.int (m : Int), .tuple (rows.map rowD)]
/-- ascending, below m -/
def Asc (m : Nat) (r : List Nat) : Prop := r.Pairwise (· < ·) ∧ ∀ k ∈ r, k < m
structure Good (m : Nat) (rows : List (List Nat)) : Prop where
  pos : 1 ≤ m
  few : m ≤ 1000
  many : rows.length ≤ 1000
  row : ∀ r ∈ rows, r ≠ [] ∧ Asc m r
theorem natsD_len (l : List Nat) : (natsD l).length = l.length := (List.length_map _).trans (List.length_map _)
theorem asc_from (top : Nat) : ∀ (r : List Nat) (l : Nat), r.Pairwise (· < ·) → (∀ k ∈ r, l ≤ k ∧ k < top) → ascFrom (top : Int) (l : Int) (natsD r) = true
  | [], _, _, _ => rfl
  | k :: r, l, h, hb => by
    have hk := hb k List.mem_cons_self
    have h1 := List.pairwise_cons.mp h
    have ih := asc_from top r (k + 1) h1.2 fun j hj => ⟨h1.1 j hj, (hb j (List.mem_cons_of_mem _ hj)).2⟩
    show (decide ((l : Int) ≤ (k : Int)) && (decide ((k : Int) < (top : Int)) && ascFrom (top : Int) ((k : Int) + 1) (natsD r))) = true
    rw [decide_eq_true (by omega), decide_eq_true (by omega), show ((k : Int) + 1) = ((k + 1 : Nat) : Int) by omega, ih]
    rfl
theorem isAsc_of {m : Nat} {r : List Nat} (h : Asc m r) : isAscD (.tuple (natsD r)) (m : Int) = true := asc_from m r 0 h.1 fun k hk => ⟨Nat.zero_le _, h.2 k hk⟩
theorem Good.book {m : Nat} {rows : List (List Nat)} (g : Good m rows) : isBookD (pageD m rows) = true := by
  show (decide ((1 : Int) ≤ (m : Int)) && (rows.map rowD).all (rowOk (m : Int))) = true
  have h1 := g.pos
  rw [decide_eq_true (by omega), Bool.true_and, List.all_map]
  refine List.all_eq_true.mpr fun r hr => ?_
  obtain ⟨h1, h2⟩ := g.row r hr
  show (!PyData.eqv (.tuple (natsD r)) (.tuple []) && isAscD (.tuple (natsD r)) (m : Int)) = true
  rw [isAsc_of h2]
  cases r with
  | nil => exact absurd rfl h1
  | cons k r => rfl
theorem canLay_nats : ∀ r : List Nat, PyData.canLayAll0 (natsD r) = true
  | [] => rfl
  | k :: r => canLay_nats r
theorem depth_nats : ∀ r : List Nat, PyData.depthAll (natsD r) = 0
  | [] => rfl
  | k :: r => by
    show max 0 (PyData.depthAll (natsD r)) = 0
    rw [depth_nats r] <;> rfl
theorem rows_lay : ∀ rows : List (List Nat), PyData.canLayAll0 (rows.map rowD) = true ∧ PyData.depthAll (rows.map rowD) ≤ 1
  | [] => ⟨rfl, Nat.zero_le _⟩
  | r :: rows => by
    obtain ⟨h1, h2⟩ := rows_lay rows
    constructor
    · show (PyData.canLayAll0 (natsD r) && PyData.canLayAll0 (rows.map rowD)) = true
      rw [h1, canLay_nats] <;> rfl
    · show max (PyData.depthAll (natsD r) + 1) (PyData.depthAll (rows.map rowD)) ≤ 1
      rw [depth_nats]
      omega
theorem page_shaped (m : Nat) (rows : List (List Nat)) : SeqAt.shaped (pageD m rows) = true := by
  obtain ⟨h1, h2⟩ := rows_lay rows
  unfold SeqAt.shaped
  show ((true && (PyData.canLayAll0 (rows.map rowD) && true)) && decide (max 0 (max (PyData.depthAll (rows.map rowD) + 1) 0) + 1 ≤ 64)) = true
  rw [h1, decide_eq_true (by omega)] <;> rfl
/-! ### tuples put together and cut -/
theorem cat_of {K : PySem.W.Frag} {H : Hp} {Q : VK} {a b : Addr} {xs ys : List V} (ha : SqT K H a xs) (hb : SqT K H b ys) (hz : xs.length + ys.length ≤ sizeLine) (q : ∀ p H', Gro H H' → SqT K H' p (xs ++ ys) → Q (.ref p) H') : rCatA K (.ref a) (.ref b) H Q := by
  refine ⟨a, b, xs, ys, rfl, rfl, ha, hb, hz, fun e => q b H (Gro.refl H) ?_, fun _ e => q a H (Gro.refl H) ?_, fun _ _ p hp => q p _ (.of (same_upd hp)) (SqT.of upd_same)⟩
  · rw [e]; exact hb
  · rw [e, List.append_nil]; exact ha
theorem cut_all {xs : List V} {lo hi : Option Int} (h : HT.sIx xs.length 0 lo = 0 ∧ HT.sIx xs.length xs.length hi = xs.length) : cutV xs lo hi = xs := by
  unfold cutV
  rw [h.1, h.2]
  simp
theorem sl_of {K : PySem.W.Frag} {H : Hp} {Q : VK} {a : Addr} {xs : List V} {lo hi : Option Int} (ha : SqT K H a xs) (q : ∀ p H', Gro H H' → SqT K H' p (cutV xs lo hi) → Q (.ref p) H') : rSlA K (.ref a) lo hi H Q :=
  ⟨a, xs, rfl, ha, fun e => q a H (Gro.refl H) (by rw [cut_all e]; exact ha), fun _ p hp => q p _ (.of (same_upd hp)) (SqT.of upd_same)⟩
theorem cut_to {xs : List V} {k : Nat} (h : k ≤ xs.length) : cutV xs none (some (k : Int)) = xs.take k := by
  unfold cutV
  rw [HT.sIx_none, HT.sIx_nat, Nat.min_eq_left h, List.drop_zero, Nat.sub_zero]
theorem cut_from {xs : List V} {k : Nat} (h : k ≤ xs.length) : cutV xs (some (k : Int)) none = xs.drop k := by
  unfold cutV
  rw [HT.sIx_none, HT.sIx_nat, Nat.min_eq_left h]
  exact List.take_of_length_le (by rw [List.length_drop]; exact Nat.le_refl _)
theorem DpAll.app {K : PySem.W.Frag} {H : Hp} {ys : List V} {es : List PyData} (h2 : DpAll K H ys es) : ∀ {xs : List V} {ds : List PyData}, DpAll K H xs ds → DpAll K H (xs ++ ys) (ds ++ es)
  | _, _, .nil => h2
  | _, _, .cons h t => .cons h (DpAll.app h2 t)
theorem DpAll.take {K : PySem.W.Frag} {H : Hp} : ∀ (k : Nat) {xs : List V} {ds : List PyData}, DpAll K H xs ds → DpAll K H (xs.take k) (ds.take k)
  | 0, _, _, _ => .nil
  | _ + 1, _, _, .nil => .nil
  | k + 1, _, _, .cons h t => .cons h (DpAll.take k t)
theorem DpAll.drop {K : PySem.W.Frag} {H : Hp} : ∀ (k : Nat) {xs : List V} {ds : List PyData}, DpAll K H xs ds → DpAll K H (xs.drop k) (ds.drop k)
  | 0, _, _, h => h
  | _ + 1, _, _, .nil => .nil
  | k + 1, _, _, .cons _ t => DpAll.drop k t
/-- a page's parts -/
theorem page_inv {K : PySem.W.Frag} {H : Hp} {x : V} {m : Nat} {rows : List (List Nat)} (h : Dp K H x (pageD m rows)) : ∃ (a b : Addr) (xs : List V), x = .ref a ∧ SqT K H a [.int (m : Int), .ref b] ∧ SqT K H b xs ∧ DpAll K H xs (rows.map rowD) := by
  cases h with
  | tup h1 h2 =>
    cases h2 with
    | cons h3 h4 => cases h4 with
      | cons h5 h6 =>
        cases h6
        cases h3
        cases h5 with
        | tup h7 h8 => exact ⟨_, _, _, rfl, h1, h7, h8⟩
theorem page_mk {K : PySem.W.Frag} {H : Hp} {a b : Addr} {xs : List V} {m : Nat} {rows : List (List Nat)} (h1 : SqT K H a [.int (m : Int), .ref b]) (h2 : SqT K H b xs) (h3 : DpAll K H xs (rows.map rowD)) : Dp K H (.ref a) (pageD m rows) :=
  .tup h1 (.cons (.int _) (.cons (.tup h2 h3) .nil))
/-- a row's items -/
theorem row_inv {K : PySem.W.Frag} {H : Hp} {x : V} {r : List Nat} (h : Dp K H x (rowD r)) : ∃ a, x = .ref a ∧ SqT K H a (intsV r) := by
  have h' : Dp K H x (.tuple (natsD r)) := h
  cases h' with
  | tup h1 h2 =>
    refine ⟨_, rfl, ?_⟩
    have e : ∀ (r : List Nat) (xs : List V), DpAll K H xs (natsD r) → xs = intsV r := by
      intro r
      induction r with
      | nil => intro xs h; cases h; rfl
      | cons k r ih =>
        intro xs h
        have h' : DpAll K H xs (.int (k : Int) :: natsD r) := h
        cases h' with
        | cons h3 h4 =>
          cases h3
          rw [ih _ h4]
          rfl
    rw [← e _ _ h2]
    exact h1
theorem row_mk {K : PySem.W.Frag} {H : Hp} {a : Addr} {r : List Nat} (h : SqT K H a (intsV r)) : Dp K H (.ref a) (rowD r) := by
  rw [intsV_map] at h
  exact .tup h (dpI _)
/-! ### promises -/
def spCheckCell (K : PySem.W.Frag) : Sp := fun vs H Q _ => ∃ (x : V) (m : Nat) (rows : List (List Nat)) (k : Nat), vs = [x, .int (k : Int)] ∧ Dp K H x (pageD m rows) ∧ k < m ∧ Q .non H
def spCheckKey (K : PySem.W.Frag) : Sp := fun vs H Q _ => ∃ (x : V) (m : Nat) (rows : List (List Nat)) (k : Nat), vs = [x, .int (k : Int)] ∧ Dp K H x (pageD m rows) ∧ k < rows.length ∧ Q .non H
def spCheckLot (K : PySem.W.Frag) : Sp := fun vs H Q _ => ∃ (x y : V) (m : Nat) (rows : List (List Nat)) (lot : List Nat), vs = [x, y] ∧ Dp K H x (pageD m rows) ∧ Dp K H y (rowD lot) ∧ Asc rows.length lot ∧ Q .non H
/-- the cells told, once each, ascending -/
def IsRow (cells r : List Nat) : Prop := r.Pairwise (· < ·) ∧ ∀ k, k ∈ r ↔ k ∈ cells
structure Told (m : Nat) (cells : List Nat) : Prop where
  some_ : cells ≠ []
  low : ∀ c ∈ cells, c < m
  few : cells.length ≤ 63
def spRowOf (K : PySem.W.Frag) : Sp := fun vs H Q _ => ∃ (y : Addr) (m : Nat) (cells : List Nat), vs = [.int (m : Int), .ref y] ∧ WordsAt K H y cells ∧ Told m cells ∧ GxR.TabG H (tA K "are_integers") ∧
  ∀ H' p r, Gro H H' → IsRow cells r → SqT K H' p (intsV r) → Q (.ref p) H'
def spWithKey (K : PySem.W.Frag) : Sp := fun vs H Q _ => ∃ (x : V) (y : Addr) (m : Nat) (rows : List (List Nat)) (cells : List Nat), vs = [x, .ref y] ∧ Dp K H x (pageD m rows) ∧ Good m rows ∧ WordsAt K H y cells ∧ Told m cells ∧
  GxR.TabG H (tA K "are_integers") ∧ GxR.TabG H (tA K "is_book") ∧ ∀ H' p r, Gro H H' → IsRow cells r → Dp K H' (.ref p) (pageD m (rows ++ [r])) → Q (.ref p) H'
def spWithoutKey (K : PySem.W.Frag) : Sp := fun vs H Q _ => ∃ (x : V) (m : Nat) (rows : List (List Nat)) (k : Nat), vs = [x, .int (k : Int)] ∧ Dp K H x (pageD m rows) ∧ Good m rows ∧ k < rows.length ∧
  GxR.TabG H (tA K "is_book") ∧ ∀ H' p, Gro H H' → Dp K H' (.ref p) (pageD m (rows.take k ++ rows.drop (k + 1))) → Q (.ref p) H'
/-- the rows at a lot's keys -/
def pick (rows : List (List Nat)) (lot : List Nat) : List (List Nat) := lot.map fun k => rows.getD k []
def spPart (K : PySem.W.Frag) : Sp := fun vs H Q _ => ∃ (x y : V) (m : Nat) (rows : List (List Nat)) (lot : List Nat), vs = [x, y] ∧ Dp K H x (pageD m rows) ∧ Good m rows ∧ Dp K H y (rowD lot) ∧ Asc rows.length lot ∧
  GxR.TabG H (tA K "is_book") ∧ ∀ H' p, Gro H H' → Dp K H' (.ref p) (pageD m (pick rows lot)) → Q (.ref p) H'
theorem asc_from_len : ∀ (r : List Nat) (l m : Nat), r.Pairwise (· < ·) → (∀ k ∈ r, l ≤ k ∧ k < m) → r.length ≤ m - l
  | [], _, _, _, _ => Nat.zero_le _
  | k :: r, l, m, h, hb => by
    obtain ⟨h1, h2⟩ := List.pairwise_cons.mp h
    have hk := hb k List.mem_cons_self
    have ih := asc_from_len r (k + 1) m h2 fun j hj => ⟨h1 j hj, (hb j (List.mem_cons_of_mem _ hj)).2⟩
    rw [List.length_cons]
    omega
theorem asc_len {m : Nat} {r : List Nat} (h : Asc m r) : r.length ≤ m := by
  have := asc_from_len r 0 m h.1 fun k hk => ⟨Nat.zero_le _, h.2 k hk⟩
  omega
theorem lc_mapT {K : PySem.W.Frag} {a : Addr} {xs : List V} (f : V → V) {i : Nat} {te : TE} {vs : List Nat} {σ : L2.St} {H1 : Hp} {D : Addr} {Qd : Hp → Prop} (sq : SqT K H1 a xs) (hD : H1 D = none) (hn : xs.length ≤ 1000000)
    (hw : ∀ v, wipe ((wipe σ vs).set i (some v)) vs = wipe σ vs) (el : ∀ x ∈ xs, ∀ H (Q : VK), Same H1 H → Q (f x) H → te ((wipe σ vs).set i (some x)) H Q) (hd : Qd (upd H1 D (.lst (xs.map f)))) :
    ∃ W : Nat → Nat → Hp → Prop, (∃ m, W 0 m (upd H1 D (.lst []))) ∧ ∀ i' m H, W i' m H →
      ((Itt K a).stop i' H ∧ Qd H) ∨ ((Itt K a).go i' H ∧ ∃ Nx : Hp → Prop, (∀ H', Nx H' → ∃ m', m' < m ∧ W (i' + 1) m' H') ∧ ∀ x H', (Itt K a).yld i' H x H' → gName i x (wipe σ vs) H' fun σ2 H2 => wipe σ2 vs = wipe σ vs ∧ tYes σ2 H2 fun b H3 =>
        if b = true then te σ2 H3 fun y H4 => ∃ acc, H4 D = some (.lst acc) ∧ acc.length < sizeLine ∧ Nx (upd H4 D (.lst (acc ++ [y]))) else Nx H3) := by
  refine lc_tup (fun k H => H = upd H1 D (.lst ((xs.take k).map f))) rfl (fun k H _ e => by rw [e]; exact Same.tupS (same_upd hD) sq) (fun k x H e hP => ⟨hw x, ?_⟩) (fun H hP => ?_)
  · subst hP
    refine el x (List.mem_of_getElem? e) _ _ (same_upd hD) ⟨_, upd_same, ?_, ?_⟩
    · rw [List.length_map, List.length_take]
      exact Nat.lt_of_le_of_lt (Nat.le_trans (Nat.min_le_right _ _) hn) (by decide)
    · rw [upd_upd, List.take_add_one, e, List.map_append]
      rfl
  · rw [hP, List.take_length]
    exact hd
theorem nats_back {ns : List Int} (h : ∀ i ∈ ns, 0 ≤ i) : ns.map V.int = intsV (ns.map Int.toNat) := by
  unfold intsV
  rw [List.map_map]
  refine List.map_congr_left fun i hi => ?_
  show V.int i = V.int ((i.toNat : Nat) : Int)
  rw [Int.toNat_of_nonneg (h i hi)]
theorem isRow_of {cells : List Nat} {ns : List Int} (h1 : ns.Pairwise (· < ·)) (h2 : ∀ k : Int, k ∈ ns ↔ k ∈ cells.map fun k : Nat => (k : Int)) : IsRow cells (ns.map Int.toNat) ∧ ∀ i ∈ ns, 0 ≤ i := by
  have pos : ∀ i ∈ ns, 0 ≤ i := fun i hi => by
    obtain ⟨k, _, rfl⟩ := List.mem_map.mp ((h2 i).mp hi)
    exact Int.natCast_nonneg k
  refine ⟨⟨?_, fun k => ⟨fun hk => ?_, fun hk => ?_⟩⟩, pos⟩
  · rw [List.pairwise_map]
    refine h1.imp_of_mem fun {a b} ha hb hlt => ?_
    have := pos a ha
    have := pos b hb
    omega
  · obtain ⟨i, hi, rfl⟩ := List.mem_map.mp hk
    obtain ⟨j, hj, rfl⟩ := List.mem_map.mp ((h2 i).mp hi)
    exact hj
  · exact List.mem_map.mpr ⟨(k : Int), (h2 k).mpr (List.mem_map.mpr ⟨k, hk, rfl⟩), rfl⟩
/-- the same row -/
theorem isRow_uniq : ∀ {r r' : List Nat}, r.Pairwise (· < ·) → r'.Pairwise (· < ·) → (∀ k, k ∈ r ↔ k ∈ r') → r = r'
  | [], [], _, _, _ => rfl
  | [], b :: r', _, _, h => absurd ((h b).mpr List.mem_cons_self) List.not_mem_nil
  | a :: r, [], _, _, h => absurd ((h a).mp List.mem_cons_self) List.not_mem_nil
  | a :: r, b :: r', h1, h2, h => by
    obtain ⟨p1, p2⟩ := List.pairwise_cons.mp h1
    obtain ⟨q1, q2⟩ := List.pairwise_cons.mp h2
    have e : a = b := by
      rcases List.mem_cons.mp ((h a).mp List.mem_cons_self) with e | e
      · exact e
      · rcases List.mem_cons.mp ((h b).mpr List.mem_cons_self) with f | f
        · exact f.symm
        · have := q1 a e
          have := p1 b f
          omega
    subst e
    congr 1
    refine isRow_uniq p2 q2 fun k => ⟨fun hk => ?_, fun hk => ?_⟩
    · rcases List.mem_cons.mp ((h k).mp (List.mem_cons_of_mem _ hk)) with e | e
      · have := p1 k hk
        omega
      · exact e
    · rcases List.mem_cons.mp ((h k).mpr (List.mem_cons_of_mem _ hk)) with e | e
      · have := q1 k hk
        omega
      · exact e
end Ky
/-! ### exceptions kept beyond their handler -/
namespace Ky
open PySem PySem.Spec PyProof.Rows L2
/-- an exception that is kept: its class, its dict -/
def KeptE (cls : Value) (d : Option Addr) (a : Addr) : HO := .ext fun h => ∃ (oe : Obj) (vs : Array Value), h.get? a = some oe ∧ Zc cls d oe ∧ oe.data = .fields vs
theorem keptE_ok {P : Program} {w : World} {H : Hp} {h : Heap} {a : Addr} {cls : Value} {d : Option Addr} {oe : Obj} {vs : Array Value} (e : h.get? a = some oe) (z : Zc cls d oe) (q : oe.data = .fields vs) : ObjOk P w H h a (KeptE cls d a) :=
  ⟨⟨oe, vs, e, z, q⟩, ⟨oe, e⟩, fun _ _ ⟨o, v, p, r⟩ k => ⟨o, v, k o p, r⟩⟩
section
variable {X : Cx} {pins : List (Addr × Obj)} {σ : L2.St} {H : Hp} {s : Shared}
/-- an object that is there and not tracked is tracked from now on -/
theorem inv_track {a : Addr} {o : HO} (I : Inv X pins σ H s) (na : H a = none) (n0 : X.s_0.heap.get? a = none) (nL : a ≠ X.env.locals) (nC : ∀ x c, X.env.cells.lookup x = some c → c ≠ a) (nP : ∀ p ∈ X.pn ++ pins, p.1 ≠ a)
    (new : ObjOk X.prog X.w (upd H a o) s.heap a o) : Inv X pins σ (upd H a o) s := by
  refine ⟨I.ok, I.os, I.bare, ⟨I.base.keep, I.base.slot, fun b u q n hx => ?_, I.base.there, fun b xs q => ?_, fun b u xs q => ?_, fun b ps q => ?_⟩, I.loc, I.cell, ?_, fun x c e => ?_, fun p hp => ?_, I.hok.laidN (fun _ _ q => q) na new, I.len⟩
  · rw [upd_ne (fun z => by rw [z, n0] at q; cases q)]
    exact I.base.free b u q n hx
  · have z := I.base.tups b xs q
    rw [upd_ne (ne_of_none z na)]
    exact z
  · have z := I.base.frzs b u xs q
    rw [upd_ne (ne_of_none z na)]
    exact z
  · obtain ⟨m, z⟩ := I.base.tbls b ps q
    exact ⟨m, by rw [upd_ne (ne_of_none z na)]; exact z⟩
  · rw [upd_ne (Ne.symm nL)]
    exact I.free
  · rw [upd_ne (nC x c e)]
    exact I.freeC x c e
  · obtain ⟨p1, p2, p3⟩ := I.pin p hp
    exact ⟨p1, by rw [upd_ne (nP p hp)]; exact p2, p3⟩
/-- the context of an except suite, no object pinned for it -/
theorem inv_suite0 (I : Inv X pins σ H s) (a : Addr) : Inv (X.suite a (X.pn ++ pins)) [] σ H s :=
  ⟨I.ok.suite _ _, I.os, I.bare, I.base, I.loc, I.cell, I.free, I.freeC, fun p hp => I.pin p (by rw [List.append_nil] at hp; exact hp), I.hok, I.len⟩
theorem inv_unsuite0 {a : Addr} {pn' : List (Addr × Obj)} (I : Inv (X.suite a (X.pn ++ pins)) pn' σ H s) (ok : X.Ok) : Inv X pins σ H s :=
  ⟨ok, I.os, I.bare, I.base, I.loc, I.cell, I.free, I.freeC, fun p hp => I.pin p (List.mem_append_left _ hp), I.hok, I.len⟩
end
/-- what the clause 'except x as n' wishes where the exception is kept -/
def wKeep (K : PySem.W.Frag) (c : Value) (i : Nat) (ts : Addr → TS) (Wout : WX) (D : Ends) : WX := fun cls d σ H =>
  ∃ b, PySem.W.exmOne K cls c = some b ∧ (b = true → ∀ a, H a = none → ts a { nx := fun σ' H' => D.nx (σ'.set i none) H', rt := D.rt, bk := fun σ' H' => D.bk (σ'.set i none) H', ct := fun σ' H' => D.ct (σ'.set i none) H' } (σ.set i (some (.ref a))) (upd H a (KeptE cls d a))) ∧
    (b = false → Wout cls d σ H)
section
variable {X : Cx} {x n : Str} {c : Value} {i : Nat} {body suite : List Stmt} {b₀ : Stmt} {np pos pos' : Pos} {tb : WX → TS} {ts : Addr → TS} {Wout : WX}
theorem ps_try_keep (hs : X.stack = X.env :: X.outer) (hf : X.env.frame = some X.env.locals) (hex : X.ex = []) (hN : X.N.Nodup) (hi : X.N[i]? = some n) (hln : X.env.kindOf n = some .local) (hc : Names X x c) (tk : Takes X Wout)
    (hb : ∀ (W : WX) (pn : List (Addr × Obj)) (xe : Value → Shared → Prop), Takes (X.tr pn xe) W → PassesOwn (model X.prog X.w) X.A X.env xe → PSs (X.tr pn xe) body (tb W))
    (hsu : ∀ (a : Addr) (pn : List (Addr × Obj)), PSs (X.suite a pn) (b₀ :: suite) (ts a)) :
    PS X (.Try body [.ExceptHandler (some (.Name x np)) (some n) (b₀ :: suite) pos'] [] [] pos) (fun D σ H => tb (wKeep X.K c i ts Wout D) D σ H) := by
  refine ⟨fun pins s σ H D I h => ?_⟩
  have ok := I.ok
  have hfr : X.A.frames = some (X.env :: X.outer) := by rw [ok.frames, hs]
  have hloc : Loc X.env.scope n := .inl hln
  refine wpAny_Try_except ?_
  have start := (hb (wKeep X.K c i ts Wout D) (X.pn ++ pins) (fun e s₁ => wpAny (model X.prog X.w) X.A (noteFrame e X.env) (fun _ s₂ => wpAny (model X.prog X.w) X.A (setFlight e none) (fun _ s₃ =>
    wpAny (model X.prog X.w) X.A (handleBy e X.env [.ExceptHandler (some (.Name x np)) (some n) (b₀ :: suite) pos']) (SP X pins D) X.xe s₃) X.xe s₂) X.xe s₁) (fun u s' xx => ?_) PassesOwn.looking).run [] s σ H D (I.toTry _) h
  · refine wpAny_mono start (fun f s1 hsp => ?_) (fun e s1 he => he)
    cases f with
    | next =>
      obtain ⟨σ1, H1, J1, q1⟩ := hsp
      exact wpAny_execs_nil ⟨σ1, H1, J1.ofTry ok, q1⟩
    | brk =>
      obtain ⟨σ1, H1, J1, q1⟩ := hsp
      exact ⟨σ1, H1, J1.ofTry ok, q1⟩
    | cont =>
      obtain ⟨σ1, H1, J1, q1⟩ := hsp
      exact ⟨σ1, H1, J1.ofTry ok, q1⟩
    | ret u =>
      obtain ⟨v1, σ1, H1, J1, r1, q1⟩ := hsp
      exact ⟨v1, σ1, H1, J1.ofTry ok, r1, q1⟩
  · obtain ⟨a, B, sI, pins2, σ2, H2, cls, d, rfl, JJ, nb, up, sky, na, os, ag, b, hb1, hyes, hno⟩ := xx
    have J : Inv X pins σ2 H2 sI := JJ.ofTry ok
    have sk : Sky B (X.env :: X.outer) a (Zc cls d) X.env.locals s'.heap := by rw [← hs]; exact sky
    show wpAny (model X.prog X.w) X.A (noteFrame (.ref a) X.env) _ _ _
    refine Sky.land Zc.steady hfr hf sk fun h3 fl3 up3 => ?_
    have J3 : Inv X pins σ2 H2 { s' with heap := h3 } := J.landed nb fl3.1 (up.trans up3) os ag
    obtain ⟨oe3, vs3, he3, hz3, hd3⟩ := fl3.there
    have far : a ∉ frs (X.env :: X.outer) := fun hm => by
      obtain ⟨_, o', e', bad⟩ := fl3.2.2.1.mem hm
      rw [he3] at e'
      cases e'
      exact bad _ hd3
    have nL : a ≠ X.env.locals := fun z => far (List.mem_filterMap.mpr ⟨X.env, List.mem_cons_self, by rw [hf, z]⟩)
    have nI : sI.heap.get? a = none := by
      cases e : sI.heap.get? a with
      | none => rfl
      | some o =>
        have z := nb a o e (by rw [hs]; exact far)
        rw [fl3.2.1] at z
        cases z
    have off : ∀ {u : Addr} {o : Obj}, sI.heap.get? u = some o → u ≠ a := fun {u o} e z => by
      rw [z, nI] at e
      cases e
    have n0 : X.s_0.heap.get? a = none := by
      cases e : X.s_0.heap.get? a with
      | none => rfl
      | some o =>
        obtain ⟨o', z⟩ := J.base.there a o e (by rw [hex]; exact List.not_mem_nil)
        exact absurd rfl (off z)
    have nC : ∀ x c, X.env.cells.lookup x = some c → c ≠ a := fun x c e => by
      obtain ⟨v, o, z, _⟩ := J.cell x c e
      exact off z
    have nP : ∀ p ∈ X.pn ++ pins, p.1 ≠ a := fun p hp => by
      exact off (J.pin p hp).1
    have S3 := inv_suite0 J3 a
    refine wpAny_handleBy_cons (codeAny_handlers_test ?_) (by intro q; cases q)
    have lookT : PySem.W.Looks (model X.prog X.w) h3 (typeOf (.ref a)) cls := fun A Q E s k q => wpAny_typeOf_ref (k _ _ he3) (by rw [hz3.1]; exact q)
    have lookM := PySem.W.exm_one (M := model X.prog X.w) J3.kIn lookT hb1
    have named : ∀ {Q : Value → Shared → Prop} {E : Value → Shared → Prop}, Q c { s' with heap := h3 } → wpAny (model X.prog X.w) (X.A.mark (some (.ref a))) (eval (.Name x np) X.env) Q E { s' with heap := h3 } := fun {Q E} q => by
      obtain ⟨c1, c2, c3 | ⟨c3, c4, c5⟩⟩ := hc
      · exact ld_glob (X := X.suite a (X.pn ++ pins)) S3 c1 c3 q c2
      · exact ld_blt (X := X.suite a (X.pn ++ pins)) S3 c1 c3 c4 q c5 c2
    refine named (lookM.here ?_)
    cases b with
    | true =>
      refine codeAny_handlers_suite_as ?_
      refine HandSPX.lands_againZ fl3 fun h4 fl4 up4 => ?_
      have J4 : Inv X pins σ2 H2 { s' with heap := h4 } := J.landed nb fl4.1 ((up.trans up3).trans up4) os ag
      obtain ⟨oe4, vs4, he4, hz4, hd4⟩ := fl4.there
      have K4 : Inv X pins σ2 (upd H2 a (KeptE cls d a)) { s' with heap := h4 } := inv_track J4 na n0 nL nC nP (keptE_ok he4 hz4 hd4)
      have S4 := inv_suite0 K4 a
      refine store_ok (X := X.suite a (X.pn ++ pins)) (v := .ref a) S4 hN hi hloc rfl (fun s5 S5 => ?_) (.inr hln)
      refine wpAny_mono ((hsu a (X.pn ++ pins)).run [] s5 _ _ _ S5 (hyes rfl a na)) (fun f s6 hsp => ?_) (fun _ _ z => False.elim z)
      have last : ∀ {σ6 : L2.St} {H6 : Hp} {Q : Shared → Prop}, Inv (X.suite a (X.pn ++ pins)) [] σ6 H6 s6 → (∀ s7, Inv X pins (σ6.set i none) H6 s7 → Q s7) →
          wpAny (model X.prog X.w) X.A (do bindName X.env n .none; unbindBehindTheSuite X.env n pos') (fun _ s7 => Q s7) X.xe s6 := fun {σ6 H6 Q} T6 hq => gone_ok (inv_unsuite0 T6 ok) hN hi hln hq
      cases f with
      | next =>
        obtain ⟨σ6, H6, T6, q6⟩ := hsp
        exact last T6 fun s7 J7 => ⟨_, _, J7, q6⟩
      | brk =>
        obtain ⟨σ6, H6, T6, q6⟩ := hsp
        exact last T6 fun s7 J7 => ⟨_, _, J7, q6⟩
      | cont =>
        obtain ⟨σ6, H6, T6, q6⟩ := hsp
        exact last T6 fun s7 J7 => ⟨_, _, J7, q6⟩
      | ret u =>
        obtain ⟨v6, σ6, H6, T6, r6, q6⟩ := hsp
        exact last T6 fun s7 J7 => ⟨_, _, _, J7, r6, q6⟩
    | false =>
      show wpAny _ X.A (handleBy (.ref a) X.env []) _ _ _
      refine wpAny_handleBy_nil ?_
      obtain ⟨k1, k2, k3, oe, vs, T, oT, us, he, hz, hd, h1, hr⟩ := id fl3
      unfold PySem.passOn
      refine wpAny_bind (wpAny_field he hd h1 ?_)
      rw [if_neg (show ¬ ((Value.ref T == Value.none) = true) from by simp)]
      have up_ : wpAny (model X.prog X.w) X.A (setFlight (.ref a) X.env.frame) (fun _ s4 => wpAny (model X.prog X.w) X.A (throw (.ref a) : Sem Flow) (SP X pins D) X.xe s4) X.xe { s' with heap := h3 } := by
        rw [hf]
        refine HandSPX.setFlight_upZ fl3 fun h4 held up4 => wpAny_throw (tk _ _ ?_)
        exact ⟨a, B, sI, pins, σ2, H2, cls, d, rfl, J, nb, (up.trans up3).trans up4, .inr (.inr (by rw [hs]; exact held)), na, os, ag, hno rfl⟩
      first
        | exact wpAny_bind (wpAny_pure (wpAny_bind up_))
        | exact wpAny_bind up_
end
/-- the value of a kept exception's attribute -/
def tXk (K : PySem.W.Frag) (f : Str) (te : TE) : TE := fun σ H Q => te σ H fun x H1 => ∃ (a C dd : Addr) (fs : List (Str × V)) (v : V), x = .ref a ∧ H1 a = some (KeptE (.ref C) (some dd) a) ∧ XfC K C ∧ PySem.W.findIn K (.ref C) f = some none ∧ H1 dd = some (.xd fs) ∧ fs.lookup f = some v ∧ Q v H1
section
variable {X : Cx} {pins : List (Addr × Obj)} {σ : L2.St} {H : Hp} {s : Shared}
/-- the object that is kept, with its dict's object -/
theorem kept_inst {a C dd : Addr} {fs : List (Str × V)} (I : Inv X pins σ H s) (ha : H a = some (KeptE (.ref C) (some dd) a)) (hd : H dd = some (.xd fs)) :
    ∃ (oe od : Obj) (mA : Str → Option Value), PySem.W.InstAt s.heap a oe C (some od) ∧ (∀ f, RelO (fs.lookup f) (mA f)) ∧ ∀ f, PySem.W.lookIn f od = some (mA f) := by
  obtain ⟨⟨oe, vs, he, hz, hv⟩, _⟩ := I.hok a _ ha
  obtain ⟨mA, hns, hr⟩ := (show ObjOk X.prog X.w H s.heap dd (.xd fs) from I.hok dd _ hd)
  obtain ⟨od, ho, hl⟩ := lookIn_ns hns
  refine ⟨oe, od, mA, ⟨he, hz.1, ?_, ?_⟩, hr, hl⟩
  · unfold PySem.W.notCls
    rw [hv] <;> rfl
  · rw [hz.2]
    exact ho
end
theorem pe_xk {X : Cx} {e : Expr} {te : TE} {pos : Pos} {n : Str} (he : PE X e te) (hb : attributeBase e n X.env (eval e X.env) = eval e X.env := by rfl) : PE X (.Attribute e n pos) (tXk X.K n te) := by
  refine ⟨fun pins s σ H Q I want => attr_of hb (thn (he.run pins s σ H _ I want) fun u s1 hh => ?_)⟩
  obtain ⟨x, H1, I1, rx, a, C, dd, fs, v, rfl, ha, T, hno, hd, l, q⟩ := hh
  obtain rfl : u = Value.ref a := rx
  obtain ⟨oe, od, mA, J, hr, hl⟩ := kept_inst I1 ha hd
  obtain ⟨w1, hw, rw1⟩ := RelO.some_of (v := v) (o := mA n) (by rw [← l]; exact hr n)
  exact HandSPX.exc_get I1.kIn J T.ga T.gg T.exC (PySem.W.findObj_own T.hdC hno rfl (by rw [hl, hw])) (handed_of rw1) ⟨v, H1, I1.tok _, rw1, q⟩
/-- isinstance of a kept exception -/
def rIsK (K : PySem.W.Frag) : List V → Hp → VK → Prop := fun xs H Q => ∃ (a C dd : Addr) (fs : List (Str × V)) (c : V) (cv : Value) (b : Bool), xs = [.ref a, c] ∧ H a = some (KeptE (.ref C) (some dd) a) ∧ H dd = some (.xd fs) ∧ ExcC K C ∧ (∀ u, RelV c u → u = cv) ∧ PySem.W.kitOne K (.ref C) cv = some b ∧ Q (.bl b) H
theorem call_isK {X : Cx} : CallR X (.builtin "isinstance") (rIsK X.K) := by
  intro pins s σ H xs us Q I r h
  obtain ⟨a, C, dd, fs, c, cv, b, rfl, ha, hd, T, one, e, q⟩ := h
  obtain ⟨u1, u2, rfl, r1, r2⟩ := vals2 r
  cases (show u1 = Value.ref a from r1)
  cases one _ r2
  obtain ⟨oe, od, mA, J, _⟩ := kept_inst I ha hd
  have hcl : (PySem.W.clsIn X.K C).isSome = true := by
    obtain ⟨cd, hc, _⟩ := PySem.W.any_some T.hd
    rw [hc]
    rfl
  exact PySem.W.kia_one (PySem.W.kitx_exc hcl T.hg T.hk T.hs T.ha T.hn T.ht T.hm) I.kIn J e (fun z => nomatch z) fun tk => ⟨.bl b, H, I.kept (t' := tk) fun _ _ z => z, rfl, q⟩
/-! ### defs that may raise -/
structure CalX (P : Program) (w : World) (K : PySem.W.Frag) (mg : Str → Option Value) (base : Heap) (k : Nat) (x : Str) (st : Stmt) (ps : List Str) (sp : Sp) : Prop where
  ex : ∃ (f : Addr) (fd : FuncData), FnOk P w K mg base (L2.CX P w) k f fd ps sp ∧ FunD K x x (defArgs st) (defBody st) (defScope st) [] [] f fd ∧ mg x = some (.ref f) ∧ Binds K fd ps []
section
variable {P : Program} {w : World} {K : PySem.W.Frag} {mg : Str → Option Value} {base : Heap} {k : Nat} {x : Str} {st : Stmt} {ps : List Str} {sp : Sp}
theorem cal_mkX {N : List Str} (D : Here K mg x st) (S : FnScope N ps (defScope st))
    (hb : ∀ (kV doc pm : Value) (an : Option Addr) (cdv ct : Value) (us : List Value), us.length = ps.length → bindArgs (PySem.W.fnOf x x (defArgs st) (defBody st) (defScope st) .none kV doc pm an cdv ct) ⟨us, []⟩ = pure (ps.zip us))
    (len : ∀ vs H Q E, sp vs H Q E → vs.length = ps.length)
    (hbody : ∀ (f : Addr) (cdv : Value) (A : Around) (outer : List Env) (s : Shared) (H : Hp) (vs : List V) (Q : VK) (E : XK), Room k (A.deeper (envOfC x (defScope st) s.heap.objs.size f cdv)) → sp vs H Q E →
      ∃ t, PSs (cxOf (L2.CX P w) P w K mg base N x (defScope st) f cdv A outer s H E) (defBody st) t ∧ t { nx := fun _ H' => Q .non H', rt := Q } (start N vs) H) : CalX P w K mg base (k + 1) x st ps sp := by
  obtain ⟨f, fd, F, g⟩ := D.ex
  exact ⟨f, fd, F.ok S len fun cdv A outer s H vs Q E hr h => hbody f cdv A outer s H vs Q E hr h, F, g, F.bindsN hb⟩
end
/-- its call where exceptions are taken: by W -/
theorem pe_fX {X : Cx} {W : WX} {k j : Nat} {x : Str} {st : Stmt} {ps : List Str} {sp : Sp} {p pos : Pos} {e : Expr} {es : List Expr} {t : TA} (c : CalX X.prog X.w X.K X.mg X.base k x st ps sp) (tk : Takes X W) (hr : Room j X.A) (hk : k ≤ j) (hg : Gl X x) (ha : PA X (e :: es) t)
    (hdb : (x == ("__debug__" : Str)) = false := by decide) (he : starEach (e :: es) X.env = (false, eval e X.env) :: starEach es X.env := by rfl) (hpl : (backTo pos (starEach es X.env)).any (·.1) = false := by rfl) :
    PE X (.Call (.Name x p) (e :: es) [] pos) (tCallS sp (WE W) t) := by
  obtain ⟨f, fd, F, D, hm, b⟩ := c.ex
  exact pe_callS F (hr.mono hk) hg hm D.kp b (fun σ => passAt tk σ) ha hdb he hpl
/-! ### one look at an error class of the program -/
/-- it is one of ValueError's kin, made by ValueError's maker -/
def kinB (K : PySem.W.Frag) (C : Addr) : Bool := match K.lookup C with
  | some ⟨.type "type", _, .cls cd, sl⟩ => (match cd.mro, sl.toList with
    | .ref D :: more, [_, _, _, _, some (.builtin maker), _] => decide (D = C) && (decide (maker = "ValueError.__new__") && (!cd.hasDel && (cd.hasDict && PySem.HandSPX.refsVE more)))
    | _, _ => false)
  | _ => false
theorem kinB_ok {K : PySem.W.Frag} {C : Addr} (q : kinB K C = true) : ∃ nm qn N bs bm sn sub ab col dd k0 k1 k2 k3 k5, K.lookup C = some (excClassObj nm qn C N bs bm true sn sub ab col dd k0 k1 k2 k3 k5 "ValueError.__new__") ∧ PySem.HandSPX.refsVE bm = true := by
  unfold kinB at q
  split at q
  case h_2 => cases q
  case h_1 dd cd sl look =>
    split at q
    case h_2 => cases q
    case h_1 D more k0 k1 k2 k3 maker k5 em es =>
      obtain ⟨e1, q⟩ := Bool.and_eq_true_iff.mp q
      obtain ⟨e2, q⟩ := Bool.and_eq_true_iff.mp q
      obtain ⟨e3, q⟩ := Bool.and_eq_true_iff.mp q
      obtain ⟨e4, e5⟩ := Bool.and_eq_true_iff.mp q
      obtain rfl := of_decide_eq_true e1
      obtain rfl := of_decide_eq_true e2
      obtain ⟨nm, bs, mro, N, qn, hasD, sn, sub, ab, col, del⟩ := cd
      dsimp only at em e3 e4
      subst em e4
      rw [Bool.not_eq_true'] at e3
      subst e3
      obtain ⟨ls⟩ := sl
      dsimp only at es
      subst es
      exact ⟨nm, qn, N, bs, more, sn, sub, ab, col, dd, k0, k1, k2, k3, k5, look, e5⟩
/-- the address at which a class's __init__ stands -/
def initA (K : PySem.W.Frag) (C : Addr) : Addr := match PySem.W.findIn K (.ref C) "__init__" with
  | some (some (.ref f)) => f
  | _ => 0
/-- all that is asked of an error class whose __init__ stands at fI -/
def errB (K : PySem.W.Frag) (C fI : Addr) : Bool :=
  kinB K C && (decide (PySem.W.findIn K (.ref C) "__setattr__" = some (some (.builtin "object.__setattr__"))) && (decide (PySem.W.findIn K (.ref C) "__getattribute__" = some (some (.builtin "BaseException.__getattribute__"))) &&
  (decide (PySem.W.findIn K (.ref C) "__getattr__" = some none) && (decide (PySem.W.findIn K (.ref C) "value" = some none) && (decide (PySem.W.findIn K (.ref C) "__init__" = some (some (.ref fI))) &&
  (decide (PySem.W.typeIn K (.ref fI) = some (.type "function")) && (PySem.W.keepIn K (.ref C) && (decide (PySem.W.subIn K (.ref C) (.type "BaseException") = some true) && (decide (PySem.W.typeIn K (.ref C) = some (.type "type")) &&
  (PySem.W.hasDictIn K C && (decide (PySem.W.findIn K (.ref C) "__class__" = some (some (.builtin "object.__class__"))) && (decide (PySem.W.specialIn K (.builtin "object.__class__") "__get__" = some (some (.builtin "getset_descriptor.__get__"))) &&
  (decide (PySem.W.takesIn K (.builtin "object.__class__") = some true) && decide (PySem.W.mroIn K C (.type "object") = some true))))))))))))))
structure ErrC (K : PySem.W.Frag) (C fI : Addr) : Prop where
  o : OexC K C
  x : XfC K C
  i : ExcC K C
  noV : PySem.W.findIn K (.ref C) "value" = some none
  iC : PySem.W.findIn K (.ref C) "__init__" = some (some (.ref fI))
  tI : PySem.W.typeIn K (.ref fI) = some (.type "function")
theorem errB_ok {K : PySem.W.Frag} {C fI : Addr} (h : errB K C fI = true) : ErrC K C fI := by
  obtain ⟨a1, h⟩ := Bool.and_eq_true_iff.mp h
  obtain ⟨a2, h⟩ := Bool.and_eq_true_iff.mp h
  obtain ⟨a3, h⟩ := Bool.and_eq_true_iff.mp h
  obtain ⟨a4, h⟩ := Bool.and_eq_true_iff.mp h
  obtain ⟨a5, h⟩ := Bool.and_eq_true_iff.mp h
  obtain ⟨a6, h⟩ := Bool.and_eq_true_iff.mp h
  obtain ⟨a7, h⟩ := Bool.and_eq_true_iff.mp h
  obtain ⟨a8, h⟩ := Bool.and_eq_true_iff.mp h
  obtain ⟨a9, h⟩ := Bool.and_eq_true_iff.mp h
  obtain ⟨b1, h⟩ := Bool.and_eq_true_iff.mp h
  obtain ⟨b2, h⟩ := Bool.and_eq_true_iff.mp h
  obtain ⟨b3, h⟩ := Bool.and_eq_true_iff.mp h
  obtain ⟨b4, h⟩ := Bool.and_eq_true_iff.mp h
  obtain ⟨b5, b6⟩ := Bool.and_eq_true_iff.mp h
  exact ⟨⟨kinB_ok a1, of_decide_eq_true a2, of_decide_eq_true a9, of_decide_eq_true b1, a8⟩, ⟨of_decide_eq_true a3, of_decide_eq_true a4, of_decide_eq_true a9, b2⟩,
    ⟨of_decide_eq_true a3, of_decide_eq_true a4, of_decide_eq_true a9, b2, of_decide_eq_true b3, of_decide_eq_true b4, of_decide_eq_true b5, of_decide_eq_true b6⟩, of_decide_eq_true a5, of_decide_eq_true a6, of_decide_eq_true a7⟩
/-! ### an error made with its value -/
/-- what __init__(self, value) promises -/
def spInitV (K : PySem.W.Frag) : Sp := fun vs H Q _ => ∃ (a C : Addr) (y : V), vs = [.ref a, y] ∧ OexC K C ∧ PySem.W.findIn K (.ref C) "value" = some none ∧ H a = some (exo a C none) ∧
  ∀ dx, H dx = none → dx ≠ a → Q .non (upd (upd H dx (exd dx [(("value" : Str), y)])) a (exo a C (some dx)))
theorem ok_initV {P : Program} {w : World} {K : PySem.W.Frag} {mg : Str → Option Value} {base : Heap} {q : Str} {st : Stmt} {fI : Addr} {fd : FuncData} {p1 p2 p3 p4 : Pos} (F : FunD K "__init__" q (defArgs st) (defBody st) (defScope st) [] [] fI fd)
    (S : FnScope ["self", "value"] ["self", "value"] (defScope st)) (v0 : Vis (defScope st) "self") (v1 : Vis (defScope st) "value") (hb : defBody st = [.Assign [.Attribute (.Name "self" p1) "value" p2] (.Name "value" p3) p4]) : FnOk P w K mg base CX0 1 fI fd ["self", "value"] (spInitV K) := by
  refine F.ok S (fun vs H Q E h => ?_) fun cdv A outer s H vs Q E hr h => ?_
  · obtain ⟨a, C, y, rfl, _⟩ := h
    rfl
  · obtain ⟨a, C, y, rfl, T, hn, ha, want⟩ := h
    refine ⟨tOst K "value" (tVar 0) (tVar 1), ?_, ?_⟩
    · rw [hb]
      exact pss_one (ps_ost (pv 0 rfl v0) (pv 1 rfl v1))
    · exact ⟨_, rfl, _, rfl, a, C, rfl, T, hn, .inl ⟨ha, fun dx n ne => want dx n ne⟩⟩
theorem err_heap {H : Hp} {a d : Addr} {u1 u2 u3 u4 : HO} (na : H a = none) (ne : d ≠ a) : upd (del (upd (upd (upd H a u1) d u2) a u3) a) d u4 = upd H d u4 := by
  funext b
  by_cases e1 : b = d
  · rw [e1, upd_same, upd_same]
  · rw [upd_ne e1, upd_ne e1]
    by_cases e2 : b = a
    · rw [e2, del_same, na]
    · rw [del_ne e2, upd_ne e2, upd_ne e1, upd_ne e2]
/-- C(y): the error's dict holds the value -/
theorem err_in {K : PySem.W.Frag} {C fI : Addr} {y : V} {H : Hp} {Q : XK} (T : ErrC K C fI) (want : ∀ d, H d = none → Q (.ref C) (some d) (upd H d (.xd [(("value" : Str), y)]))) :
    [y].length ≤ 1000 ∧ ∀ a, H a = none → spInitV K (.ref a :: ([y] ++ [])) (upd H a (exo a C none))
      (fun v H2 => v = .non ∧ ∃ (d : Addr) (fs : List (Str × V)), H2 a = some (exo a C (some d)) ∧ H2 d = some (exd d fs) ∧ H d = none ∧ Q (.ref C) (some d) (upd (del H2 a) d (.xd fs))) (fun _ _ _ => False) := by
  refine ⟨by show 1 ≤ 1000; decide, fun a na => ⟨a, C, y, rfl, T.o, T.noV, upd_same, fun dx hd ne => ⟨rfl, dx, [(("value" : Str), y)], upd_same, ?_, ?_, ?_⟩⟩⟩
  · rw [upd_ne ne, upd_same]
  · rw [upd_ne ne] at hd
    exact hd
  · rw [err_heap na ne]
    rw [upd_ne ne] at hd
    exact want dx hd
theorem pmk_err {X : Cx} {x : Str} {C fI : Addr} {fd : FuncData} {e : Expr} {ta : TA} {p pos : Pos} (T : ErrC X.K C fI) (F : FnOk X.prog X.w X.K X.mg X.base CX0 1 fI fd ["self", "value"] (spInitV X.K)) (b : Binds X.K fd ["self", "value"] []) (hr : Room 2 X.A)
    (hg : Gl X x) (hm : X.mg x = some (.ref C)) (ha : PA X [e] ta) (hdb : (x == ("__debug__" : Str)) = false := by decide) (h1 : starEach (e :: []) X.env = (false, eval e X.env) :: starEach [] X.env := by rfl)
    (h2 : (backTo pos (starEach [] X.env)).any (·.1) = false := by rfl) : PMk X (.Call (.Name x p) [e] [] pos) (tMkO C (spInitV X.K) [] ta) :=
  pmk_oex T.o T.iC T.tI F hr b .nil pass0 hg hm ha hdb h1 h2
/-- raise C(e) -/
theorem ps_err {X : Cx} {W : WX} {x : Str} {C fI : Addr} {fd : FuncData} {e : Expr} {ta : TA} {p pos pos2 : Pos} (hc : X.calm = true) (tk : Takes X W) (T : ErrC X.K C fI) (F : FnOk X.prog X.w X.K X.mg X.base CX0 1 fI fd ["self", "value"] (spInitV X.K)) (b : Binds X.K fd ["self", "value"] []) (hr : Room 2 X.A)
    (hg : Gl X x) (hm : X.mg x = some (.ref C)) (ha : PA X [e] ta) (hdb : (x == ("__debug__" : Str)) = false := by decide) (h1 : starEach (e :: []) X.env = (false, eval e X.env) :: starEach [] X.env := by rfl)
    (h2 : (backTo pos (starEach [] X.env)).any (·.1) = false := by rfl) : PS X (.Raise (some (.Call (.Name x p) [e] [] pos)) none pos2) (fun _ σ H => tMkO C (spInitV X.K) [] ta σ H fun cls d H' => W cls d σ H') :=
  ps_raise hc tk (pmk_err T F b hr hg hm ha hdb h1 h2)
end Ky
/-! ### an error class called by names -/
namespace PySem
namespace KwErr
open Builtin Builtin.ObjectAttr PySem.HandSPX PySem.W PySem.Calls PyProof.Rows
section
variable {M : Model} {A : Around} {E : Value → Shared → Prop} {h : Heap} {g : Array GenState} {d : Drawn} {t : Nat} {os : OsState}
variable {nm q : Str} {C N : Addr} {bs bm bmB : List Value} {hdct : Bool} {sn : List Str} {sub : List Value} {ab : Bool} {col : Option Bool} {dd : Option Addr} {k0 k1 k2 k3 k5 : Option Value} {B newId initId : String}
theorem maker_checked (F : ExcBaseFacts B newId initId bmB) (hT : ∀ X : String, bm.contains (.type X) = bmB.contains (.type X)) {rest : List Value} {kw : List (Str × Value)} {Q : Unit → Shared → Prop}
    (hC : h.get? C = some (excClassObj nm q C N bs bm hdct sn sub ab col dd k0 k1 k2 k3 k5 newId)) (hq : Q () ⟨h, g, d, t, os⟩) : wpAny M A (checkBuiltinCall newId ⟨.ref C :: rest, kw⟩) Q E ⟨h, g, d, t, os⟩ := by
  have isB : (Value.ref C :: bm).contains (.type B) = true := by rw [List.contains_cons, hT, F.hasB, Bool.or_true]
  have few := F.noStar
  simp only [checkBuiltinCall, F.newKind, F.newSplit, F.newRow]
  repeat (first | refine wpAny_loadPart_at hC ?_ | (refine wpAny_isSubtype_exc hC ?_; rw [isB]) | refine wpAny_staticBase_exc hC ?_ | refine wpAny_madeBy_exc hC ?_ | simp only [bne_self_eq_false, Bool.false_eq_true, if_false] | wp_step)
  exact hq
end
section
variable {prog : Program} {w : World} {A : Around} {E : Value → Shared → Prop} {R : Result → Shared → Prop} {h : Heap} {g : Array GenState} {d : Drawn} {t : Nat} {os : OsState}
variable {nm q : Str} {C N : Addr} {bs bm bmB : List Value} {hdct : Bool} {sn : List Str} {sub : List Value} {ab : Bool} {col : Option Bool} {dd : Option Addr} {k0 k1 k2 k3 k5 : Option Value} {B newId initId : String}
theorem maker_run (F : ExcBaseFacts B newId initId bmB) (hT : ∀ X : String, bm.contains (.type X) = bmB.contains (.type X)) {rest : List Value} {kw : List (Str × Value)}
    (hC : h.get? C = some (excClassObj nm q C N bs bm hdct sn sub ab col dd k0 k1 k2 k3 k5 newId))
    (hq : R (.ok (.ret (.ref (h.objs.size + 1)))) ⟨(h.push (W.kdv_tup rest)).push (excO C h.objs.size), g, d, t, os⟩) (few : rest.length ≤ sizeLine) :
    codeAny (model prog w) A (.builtin newId ⟨.ref C :: rest, kw⟩) R ⟨h, g, d, t, os⟩ := by
  have ends := F.ends
  have isB : (Value.ref C :: bm).contains (.type B) = true := by rw [List.contains_cons, hT, F.hasB, Bool.or_true]
  have noA : (Value.ref C :: bm).contains (.type "AttributeError") = false := by rw [List.contains_cons, hT, F.noAttr]; rfl
  have noN : (Value.ref C :: bm).contains (.type "NameError") = false := by rw [List.contains_cons, hT, F.noName]; rfl
  refine codeAny_builtinAt F.entry ?_
  unfold Builtin.«BaseException.__new__»
  refine wpAt_bind ?_
  show wpAt _ _ _ (stack >>= _) _ _ _
  refine wpAt_bind (wpAt_stack fun p below => wpAt_of_wpAny ?_)
  wp_walk
  refine wpAt_of_wpAny ?_
  rw [F.owner]
  repeat (first | with_reducible refine wpAny_madeHere_exc F.canon hC ?_ | with_reducible refine wpAny_loadPart_at hC ?_ | (with_reducible refine wpAny_isSubtype_exc hC ?_; first | rw [isB] | rw [noA] | rw [noN]) | wp_step)
  show R _ _
  rw [Heap.size_push]
  exact hq
theorem maker_then_init (F : ExcBaseFacts B newId initId bmB) (hT : ∀ X : String, bm.contains (.type X) = bmB.contains (.type X)) {rest : List Value} {kw : List (Str × Value)} {fI : Addr} {Q : Fin → Shared → Prop}
    (hC : h.get? C = some (excClassObj nm q C N bs bm hdct sn sub ab col dd k0 k1 k2 k3 k5 newId))
    (hi : W.Looks (model prog w) h (typeLookup (.ref C) "__init__") (some (.ref fI))) (hb : ∀ self, W.Looks (model prog w) h (bindSpecial (.ref fI) self) (.ref fI, [self])) (few : rest.length ≤ sizeLine)
    (hq : codeAny (model prog w) A (.call (.ref fI) ⟨.ref (h.objs.size + 1) :: rest, kw⟩)
      (fun r s' => match r with | .ok (.ret v) => v = .none ∧ Q (.done (.ret (.ref (h.objs.size + 1)))) s' | .ok _ => False | .error e => E e s')
      ⟨(h.push (W.kdv_tup rest)).push (excO C h.objs.size), g, d, t, os⟩) :
    wpAny (model prog w) A (Builtin.«type.__call__» ⟨.ref C :: rest, kw⟩) Q E ⟨h, g, d, t, os⟩ := by
  repeat (first | with_reducible refine wpAny_loadPart_at hC ?_ | with_reducible refine wpAny_madeBy_exc hC ?_ | wp_step)
  refine codeAny_call_builtin_code (Code.quiet_builtin _ F.quiet) (maker_checked F hT hC ?_)
  refine maker_run F hT hC ?_ few
  show wpAny _ _ _ _ _ _
  have kp : ∀ b o, h.get? b = some o → ((h.push (W.kdv_tup rest)).push (excO C h.objs.size)).get? b = some o := fun b o e => Heap.get?_push_of_some _ (Heap.get?_push_of_some _ e)
  have cAt := kp _ _ hC
  have eAt : ((h.push (W.kdv_tup rest)).push (excO C h.objs.size)).get? (h.objs.size + 1) = some (excO C h.objs.size) := by heap_get
  have isC : (Value.ref C :: bm).contains (.ref C) = true := by simp
  have li := hi.keeps kp
  have lb := (hb (.ref (h.objs.size + 1))).keeps kp
  unfold isInstance
  repeat (first | with_reducible refine wpAny_loadPart_at eAt ?_ | (with_reducible refine wpAny_isSubtype_exc cAt ?_; rw [isC]) | wp_step)
  show wpAny _ _ (typeLookup (.ref C) _) _ _ _
  refine li.at ?_
  refine wpAny_holding (wpAny_bind (lb.at ?_))
  refine wpAny_bind (wpAny_call (codeAny_mono hq fun r s' z => ?_))
  rcases r with e | (v | _ | _ | _) <;> first | exact z | exact z.elim | skip
  obtain ⟨rfl, z⟩ := z
  first
    | exact wpAny_pure (wpAny_pure z)
    | (wp_walk; exact z)
theorem called_by_names (F : ExcBaseFacts B newId initId bmB) (hT : ∀ X : String, bm.contains (.type X) = bmB.contains (.type X)) {rest : List Value} {kw : List (Str × Value)} {fI : Addr}
    (hC : h.get? C = some (excClassObj nm q C N bs bm hdct sn sub ab col dd k0 k1 k2 k3 k5 newId))
    (hi : W.Looks (model prog w) h (typeLookup (.ref C) "__init__") (some (.ref fI))) (hb : ∀ self, W.Looks (model prog w) h (bindSpecial (.ref fI) self) (.ref fI, [self])) (few : rest.length ≤ sizeLine)
    (hq : codeAny (model prog w) (A.under (.builtin "type.__call__" ⟨.ref C :: rest, kw⟩)) (.call (.ref fI) ⟨.ref (h.objs.size + 1) :: rest, kw⟩) (W.InitBack (h.objs.size + 1) R)
      ⟨(h.push (W.kdv_tup rest)).push (excO C h.objs.size), g, d, t, os⟩) :
    codeAny (model prog w) A (.call (.ref C) ⟨rest, kw⟩) R ⟨h, g, d, t, os⟩ := by
  have f1 := tc_lookup
  have f2 := tc_bind (.ref C)
  have isT : (⟨h, g, d, t, os⟩ : Shared).TypeIs (.ref C) "type" := ⟨_, hC, rfl⟩
  refine codeAny_of_tree ?_
  show wpAny _ _ (callAny (.ref C) _) _ _ _
  repeat (any_goals (first | assumption | with_reducible refine wpAny_loadPart_at hC ?_ | wp_step))
  refine ⟨rfl, ?_⟩
  refine codeAny_call_builtin_at (Code.quiet_builtin _ (by decide +kernel)) entry_typeCall (wpAny_check_type_call_sub hC (maker_then_init F hT hC hi hb few ?_))
  refine codeAny_mono hq fun r s' z => ?_
  rcases r with e | (v | _ | _ | _) <;> exact z
end
end KwErr
end PySem
namespace Ky
open PySem PySem.Spec PyProof.Rows L2
/-- C(value = y) -/
def tMkOK (C : Addr) (sp : Sp) (tk : TA) : L2.St → Hp → XK → Prop := fun σ H Q => tk σ H fun zs H1 => zs.length ≤ 1000 ∧ ∀ a, H1 a = none → sp (.ref a :: (zs ++ [])) (upd H1 a (exo a C none))
  (fun v H2 => v = .non ∧ ∃ (d : Addr) (fs : List (Str × V)), H2 a = some (exo a C (some d)) ∧ H2 d = some (exd d fs) ∧ H1 d = none ∧ Q (.ref C) (some d) (upd (del H2 a) d (.xd fs))) (fun _ _ _ => False)
theorem pmk_errK {X : Cx} {x : Str} {C fI : Addr} {fd : FuncData} {kws : List Keyword} {tk : TA} {p pos : Pos} (T : ErrC X.K C fI) (F1 : FnOk X.prog X.w X.K X.mg X.base CX0 1 fI fd ["self", "value"] (spInitV X.K))
    (bK : ∀ (s : Shared) (u0 u1 : Value), BindsTo s fd ⟨[u0], [(("value" : Str), u1)]⟩ ((["self", "value"] : List Str).zip [u0, u1])) (hr : Room 2 X.A) (hg : Gl X x) (hm : X.mg x = some (.ref C)) (hkw : PK X kws tk)
    (hall : (backToKw pos (keywordEach kws X.env)).all (·.1.isSome) = true := by rfl) (hks : (backToKw pos (keywordEach kws X.env)).filterMap (·.1) = [("value" : Str)] := by rfl) (hdb : (x == ("__debug__" : Str)) = false := by decide)
    (hpl : ((backTo pos (starEach [] X.env)).any (·.1) || (backToKw pos (keywordEach kws X.env)).any (·.1.isNone)) = false := by rfl) :
    PMk X (.Call (.Name x p) [] kws pos) (tMkOK C (spInitV X.K) tk) := by
  intro pins s σ H Q I want
  obtain ⟨nm, q, N, bs, bm, sn, sub, ab, col, dd, k0, k1, k2, k3, k5, hC, hbm⟩ := T.o.cls
  refine wpAny_Call_Name_kw (ld_glob I hg hm ?_ hdb)
  refine PySem.W.callWith_KW0 (h₀ := X.base) I.ok.mod.kin T.o.kC hall ?_ hpl
  refine thn (hkw.run pos pins s σ H _ I want) fun ws s1 ⟨zs, H1, I1, rz, hz, q1⟩ => ⟨I1.kIn, ?_⟩
  rw [hks]
  show wpAny _ _ (call (.ref C) [] ([("value" : Str)].zip ws)) _ _ _
  obtain ⟨hp, g, dr, tok, os⟩ := s1
  have le1 : hp.objs.size ≤ hp.objs.size + 1 := Nat.le_succ _
  have nH := I1.hok.fresh le1
  have q2 := q1 (hp.objs.size + 1) nH
  obtain ⟨y, rfl⟩ : ∃ y, zs = [y] := by
    obtain ⟨_, _, y, e, _⟩ := q2
    rw [List.append_nil] at e
    exact ⟨y, (List.cons.inj e).2⟩
  obtain ⟨u1, rfl, ru⟩ : ∃ u1, ws = [u1] ∧ RelV y u1 := by
    cases rz with
    | cons r1 r2 =>
      cases r2
      exact ⟨_, rfl, r1⟩
  have old : ∀ b o, hp.get? b = some o → ((hp.push (PySem.W.kdv_tup [])).push (PySem.HandSPX.excO C hp.objs.size)).get? b = some o := fun b o e => Heap.get?_push_of_some _ (Heap.get?_push_of_some _ e)
  have eAt : ((hp.push (PySem.W.kdv_tup [])).push (PySem.HandSPX.excO C hp.objs.size)).get? (hp.objs.size + 1) = some (PySem.HandSPX.excO C hp.objs.size) := by heap_get
  have I2 : Inv X pins σ (upd H1 (hp.objs.size + 1) (exo (hp.objs.size + 1) C none)) ⟨(hp.push (PySem.W.kdv_tup [])).push (PySem.HandSPX.excO C hp.objs.size), g, dr, tok, os⟩ :=
    I1.laid (t' := tok) (a := hp.objs.size + 1) (o := exo (hp.objs.size + 1) C none) (h' := (hp.push (PySem.W.kdv_tup [])).push (PySem.HandSPX.excO C hp.objs.size)) old le1 (exo_ok eAt)
  have rAll : Vals (V.ref (hp.objs.size + 1) :: ([y] ++ [])) [Value.ref (hp.objs.size + 1), u1] := .cons rfl (.cons ru .nil)
  refine wpAny_call (KwErr.called_by_names F.excBase_ValueError (fun Y => PySem.HandSPX.refsVE_contains Y bm hbm) (I1.kIn _ _ hC) (PySem.W.looks_findIn I1.kIn T.iC) (fun self => PySem.W.bind_fn I1.kIn self T.tI) (Nat.zero_le _)
    (codeAny_mono (F1.run _ X.stack _ _ ⟨[Value.ref (hp.objs.size + 1)], [(("value" : Str), u1)]⟩ [Value.ref (hp.objs.size + 1), u1] _ _ (fun _ _ _ => False) (hr.make C [] [(("value" : Str), u1)]) (I2.env0.make C [] [(("value" : Str), u1)]) (bK _ _ _) rAll q2) fun r s' hq => ?_))
  cases r with
  | error er => exact pass0 pins σ _ _ er s' I2 hq
  | ok fl =>
    cases fl with
    | ret u =>
      obtain ⟨v, H2, os2, bare2, un2, hok2, rv, ev, d, fs, ea, ed, hd1, q3⟩ := hq
      subst ev
      obtain ⟨h2, g2, d2, t2, os3⟩ := s'
      exact ⟨rv, mk_end (raises_own T.o.exC T.o.tyC) I1 le1 old un2 hok2 os2 bare2 ea ed hd1 q3⟩
    | next => exact False.elim hq
    | brk => exact False.elim hq
    | cont => exact False.elim hq
/-- raise C(value = e) -/
theorem ps_errK {X : Cx} {W : WX} {x : Str} {C fI : Addr} {fd : FuncData} {kws : List Keyword} {ta : TA} {p pos pos2 : Pos} (hc : X.calm = true) (tk : Takes X W) (T : ErrC X.K C fI) (F1 : FnOk X.prog X.w X.K X.mg X.base CX0 1 fI fd ["self", "value"] (spInitV X.K))
    (bK : ∀ (s : Shared) (u0 u1 : Value), BindsTo s fd ⟨[u0], [(("value" : Str), u1)]⟩ ((["self", "value"] : List Str).zip [u0, u1])) (hr : Room 2 X.A) (hg : Gl X x) (hm : X.mg x = some (.ref C)) (hkw : PK X kws ta)
    (hall : (backToKw pos (keywordEach kws X.env)).all (·.1.isSome) = true := by rfl) (hks : (backToKw pos (keywordEach kws X.env)).filterMap (·.1) = [("value" : Str)] := by rfl) (hdb : (x == ("__debug__" : Str)) = false := by decide)
    (hpl : ((backTo pos (starEach [] X.env)).any (·.1) || (backToKw pos (keywordEach kws X.env)).any (·.1.isNone)) = false := by rfl) :
    PS X (.Raise (some (.Call (.Name x p) [] kws pos)) none pos2) (fun _ σ H => tMkOK C (spInitV X.K) ta σ H fun cls d H' => W cls d σ H') :=
  ps_raise hc tk (pmk_errK T F1 bK hr hg hm hkw hall hks hdb hpl)
end Ky
namespace Ky
open PySem PySem.Spec PyProof.Rows L2
section
variable {X : Cx} {pins : List (Addr × Obj)} {σ : L2.St} {H : Hp} {s : Shared}
/-- what is known of a tracked object is put otherwise -/
theorem inv_retrack {a : Addr} {φ : Heap → Prop} {o : HO} (I : Inv X pins σ H s) (ha : H a = some (.ext φ)) (new : ObjOk X.prog X.w (upd H a o) s.heap a o) : Inv X pins σ (upd H a o) s := by
  have ne : ∀ {b : Addr}, H b = none → b ≠ a := fun {b} e z => by rw [z, ha] at e; cases e
  have ne2 : ∀ {b : Addr} {u : HO}, H b = some u → u ≠ .ext φ → b ≠ a := fun {b u} e n z => by
    rw [z, ha] at e
    exact n (Option.some.inj e).symm
  refine ⟨I.ok, I.os, I.bare, ⟨I.base.keep, I.base.slot, fun b u q n hx => ?_, I.base.there, fun b xs q => ?_, fun b u xs q => ?_, fun b ps q => ?_⟩, I.loc, I.cell, ?_, fun x c e => ?_, fun p hp => ?_, fun b u e => ?_, I.len⟩
  · have z := I.base.free b u q n hx
    rw [upd_ne (ne z)]
    exact z
  · have z := I.base.tups b xs q
    rw [upd_ne (ne2 z (by intro w; cases w))]
    exact z
  · have z := I.base.frzs b u xs q
    rw [upd_ne (ne2 z (by intro w; cases w))]
    exact z
  · obtain ⟨m, z⟩ := I.base.tbls b ps q
    exact ⟨m, by rw [upd_ne (ne2 z (by intro w; cases w))]; exact z⟩
  · rw [upd_ne (ne I.free)]
    exact I.free
  · rw [upd_ne (ne (I.freeC x c e))]
    exact I.freeC x c e
  · obtain ⟨p1, p2, p3⟩ := I.pin p hp
    exact ⟨p1, by rw [upd_ne (ne p2)]; exact p2, p3⟩
  · by_cases hb : b = a
    · subst hb
      rw [upd_same] at e
      cases e
      exact new
    · rw [upd_ne hb] at e
      exact (I.hok b u e).stay (fun _ _ _ q => q) (fun c q => by rw [upd_ne (ne2 q (by intro w; cases w))]; exact q) fun c xs q => by rw [upd_ne (ne2 q (by intro w; cases w))]; exact q
end
/-- C(y) as a value: an error that is made and not raised -/
def tErrV (C : Addr) (ta : TA) : TE := fun σ H Q => ta σ H fun vs H1 => ∃ y, vs = [y] ∧ ∀ a d, H1 a = none → H1 d = none → d ≠ a → Q (.ref a) (upd (upd H1 d (.xd [(("value" : Str), y)])) a (KeptE (.ref C) (some d) a))
theorem pe_errV {X : Cx} {x : Str} {C fI : Addr} {fd : FuncData} {e : Expr} {ta : TA} {p pos : Pos} (T : ErrC X.K C fI) (F1 : FnOk X.prog X.w X.K X.mg X.base CX0 1 fI fd ["self", "value"] (spInitV X.K)) (b : Binds X.K fd ["self", "value"] []) (hr : Room 2 X.A)
    (hg : Gl X x) (hm : X.mg x = some (.ref C)) (ha : PA X [e] ta) (hdb : (x == ("__debug__" : Str)) = false := by decide) (he : starEach (e :: []) X.env = (false, eval e X.env) :: starEach [] X.env := by rfl)
    (hpl : (backTo pos (starEach [] X.env)).any (·.1) = false := by rfl) : PE X (.Call (.Name x p) [e] [] pos) (tErrV C ta) := by
  refine ⟨fun pins s σ H Q I want => ?_⟩
  obtain ⟨nm, q, N, bs, bm, sn, sub, ab, col, dd, k0, k1, k2, k3, k5, hC, hbm⟩ := T.o.cls
  refine wpAny_Call_Name_kw (ld_glob I hg hm ?_ hdb)
  refine PySem.W.callWith_K (h₀ := X.base) I.ok.mod.kin T.o.kC (thn (ha.run pos pins s σ H _ I want) fun us s1 hh => ?_) he hpl
  obtain ⟨vs, H1, I1, r1, y, rfl, q1⟩ := hh
  refine ⟨I1.kIn, ?_⟩
  obtain ⟨u1, rfl, ru⟩ : ∃ u1, us = [u1] ∧ RelV y u1 := by
    cases r1 with
    | cons r1 r2 =>
      cases r2
      exact ⟨_, rfl, r1⟩
  show wpAny _ _ (call (.ref C) [u1]) _ _ _
  obtain ⟨hp, g, dr, tok, os⟩ := s1
  have le1 : hp.objs.size ≤ hp.objs.size + 1 := Nat.le_succ _
  have nH := I1.hok.fresh le1
  have old : ∀ b o, hp.get? b = some o → ((hp.push (PySem.W.kdv_tup [u1])).push (PySem.HandSPX.excO C hp.objs.size)).get? b = some o := fun b o e => Heap.get?_push_of_some _ (Heap.get?_push_of_some _ e)
  have eAt : ((hp.push (PySem.W.kdv_tup [u1])).push (PySem.HandSPX.excO C hp.objs.size)).get? (hp.objs.size + 1) = some (PySem.HandSPX.excO C hp.objs.size) := by heap_get
  have I2 : Inv X pins σ (upd H1 (hp.objs.size + 1) (exo (hp.objs.size + 1) C none)) ⟨(hp.push (PySem.W.kdv_tup [u1])).push (PySem.HandSPX.excO C hp.objs.size), g, dr, tok, os⟩ :=
    I1.laid (t' := tok) (a := hp.objs.size + 1) (o := exo (hp.objs.size + 1) C none) (h' := (hp.push (PySem.W.kdv_tup [u1])).push (PySem.HandSPX.excO C hp.objs.size)) old le1 (exo_ok eAt)
  have rAll : Vals (V.ref (hp.objs.size + 1) :: ([y] ++ [])) [Value.ref (hp.objs.size + 1), u1] := .cons rfl (.cons ru .nil)
  have q2 : spInitV X.K (.ref (hp.objs.size + 1) :: ([y] ++ [])) (upd H1 (hp.objs.size + 1) (exo (hp.objs.size + 1) C none)) (fun v H2 => v = .non ∧ ∃ dx, H1 dx = none ∧ dx ≠ hp.objs.size + 1 ∧ H2 = upd (upd (upd H1 (hp.objs.size + 1) (exo (hp.objs.size + 1) C none)) dx (exd dx [(("value" : Str), y)])) (hp.objs.size + 1) (exo (hp.objs.size + 1) C (some dx))) (fun _ _ _ => False) :=
    ⟨hp.objs.size + 1, C, y, rfl, T.o, T.noV, upd_same, fun dx hd ne => ⟨rfl, dx, by rw [upd_ne ne] at hd; exact hd, ne, rfl⟩⟩
  refine wpAny_call (PySem.HandSPX.call_own F.excBase_ValueError (fun Y => PySem.HandSPX.refsVE_contains Y bm hbm) (I1.kIn _ _ hC) (PySem.W.looks_findIn I1.kIn T.iC) (fun self => PySem.W.bind_fn I1.kIn self T.tI) (by show 1 ≤ sizeLine; decide)
    (codeAny_mono (F1.run _ X.stack _ _ ⟨[Value.ref (hp.objs.size + 1), u1], []⟩ [Value.ref (hp.objs.size + 1), u1] _ _ (fun _ _ _ => False) (hr.make C [u1] []) (I2.env0.make C [u1] []) (b _ [Value.ref (hp.objs.size + 1), u1] I2.kIn rfl) rAll q2) fun r s' hq => ?_))
  cases r with
  | error er => exact pass0 pins σ _ _ er s' I2 hq
  | ok fl =>
    cases fl with
    | ret u =>
      obtain ⟨v, H2, J, rv, ev, dx, n1, n2, e2⟩ := I2.after hq
      subst ev e2
      have e_a : ObjOk X.prog X.w _ s'.heap (hp.objs.size + 1) (exo (hp.objs.size + 1) C (some dx)) := J.hok _ _ upd_same
      obtain ⟨⟨t1, ho⟩, _⟩ := e_a
      have e_d : ObjOk X.prog X.w _ s'.heap dx (exd dx [(("value" : Str), y)]) := J.hok _ _ (by rw [upd_ne n2, upd_same])
      obtain ⟨⟨mA, hns, hrel⟩, _⟩ := e_d
      have J2 := inv_retrack (a := hp.objs.size + 1) (o := KeptE (.ref C) (some dx) (hp.objs.size + 1)) J upd_same (keptE_ok ho ⟨rfl, rfl⟩ rfl)
      have J3 := inv_retrack (a := dx) (o := .xd [(("value" : Str), y)]) J2 (by rw [upd_ne n2, upd_ne n2, upd_same]; rfl) ⟨mA, hns, hrel⟩
      refine ⟨rv, ?_⟩
      have eH : upd (upd (upd (upd (upd H1 (hp.objs.size + 1) (exo (hp.objs.size + 1) C none)) dx (exd dx [(("value" : Str), y)])) (hp.objs.size + 1) (exo (hp.objs.size + 1) C (some dx))) (hp.objs.size + 1) (KeptE (.ref C) (some dx) (hp.objs.size + 1))) dx (.xd [(("value" : Str), y)]) =
          upd (upd H1 dx (.xd [(("value" : Str), y)])) (hp.objs.size + 1) (KeptE (.ref C) (some dx) (hp.objs.size + 1)) := by
        funext z
        by_cases z1 : z = dx
        · rw [z1, upd_same, upd_ne n2, upd_same]
        · rw [upd_ne z1]
          by_cases z2 : z = hp.objs.size + 1
          · rw [z2, upd_same, upd_same]
          · rw [upd_ne z2, upd_ne z2, upd_ne z1, upd_ne z2, upd_ne z2, upd_ne z1]
      rw [eH] at J3
      exact ⟨.ref (hp.objs.size + 1), _, J3, rfl, q1 _ _ nH n1 n2⟩
    | next => exact False.elim hq
    | brk => exact False.elim hq
    | cont => exact False.elim hq
end Ky
/-! ### set(xs), max(xs) of a list or a tuple of ints -/
namespace Ky
open PySem PySem.Spec PyProof.Rows L2
/-- a set that was just made -/
abbrev bareSet (w : World) : Obj := { cls := .type "set", dict := none, data := .set #[] 0 (.fresh 0 0 (!w.params.followText "set-order")) }
section
variable {P : Program} {w : World} {A : Around} {E : Value → Shared → Prop} {s : Shared}
theorem set_of_list {src : Addr} {elems : Array Value} (nums : List Int) {Goal : Value → Shared → Prop} (calm : A.handled = none) (isL : s.heap.IsList src elems) (vals : IntsAre elems.toList nums) (room : nums.length + 1 < scanBound)
    (then_ : ∀ (hp : Heap) (tk c : Nat), SetR w hp s.heap.objs.size (fun j => decide (j ∈ nums)) c → c ≤ nums.length → (∀ b o, s.heap.get? b = some o → hp.get? b = some o) → Goal (.ref s.heap.objs.size) { s with heap := hp, toks := tk }) :
    wpAny (model P w) A (call (.type "set") [.ref src]) Goal E s := by
  have many : elems.size = nums.length := (Array.length_toList (xs := elems)).symm.trans vals.length
  obtain ⟨c0, tl0, order⟩ := F.called_set.mro
  have f1 := F.called_set.made
  have f2 := F.called_set.sub
  refine wpAny_call (codeAny_of_tree ?_)
  show wpAny _ _ (callAny (.type "set") _) _ _ _
  refine wpAny_pure ⟨Code.quiet_builtin _ (by decide +kernel), codeAny_builtin F.entry_type_call ?_⟩
  rw [Around.under_plain (weight_type_call_type "set" [.ref src] []) rfl]
  have f3 := F.called_set.notType
  have f4 := F.called_set.canCreate
  have f5 := F.typeCall_set_1 (.ref src)
  repeat (any_goals (first | assumption | wp_step))
  refine codeAny_mono (code_set_led1 (.ref src) (E := E) (Q₁ := fun made st => made = .ref s.heap.objs.size ∧ st = { s with heap := s.heap.push (bareSet w) }) ⟨rfl, rfl⟩) fun r st z => ?_
  cases r with
  | error e => exact z
  | ok fl =>
    cases fl with
    | ret made =>
      obtain ⟨rfl, rfl⟩ := z
      have own : (s.heap.push (bareSet w)).get? s.heap.objs.size = some (bareSet w) := Heap.get?_push_size _ rfl
      have ty : Shared.TypeIs { s with heap := s.heap.push (bareSet w) } (.ref s.heap.objs.size) "set" := ⟨_, own, rfl⟩
      have f6 := F.called_set.init.lookup
      have f7 := F.called_set.init.bind (.ref s.heap.objs.size)
      repeat (any_goals (first | assumption | wp_step))
      refine codeAny_mono (codeAny_call_builtin (R := wants (fun r st => r = .none ∧ ∃ hp tk c, st = { s with heap := hp, toks := tk } ∧ SetR w hp s.heap.objs.size (fun j => decide (j ∈ nums)) c ∧ c ≤ nums.length ∧
          (∀ b o, s.heap.get? b = some o → hp.get? b = some o)) E) F.called_set.init.plain F.entry_set_init (check_set_init_1 ty ?_)) fun r2 st2 z2 => ?_
      · obtain ⟨ob, gob, cob, mob, dob⟩ := isL
        obtain ⟨cls0, dict0, data0, slots0⟩ := ob
        simp only at cob mob dob
        subst cob
        have gob' : (s.heap.push (bareSet w)).get? src = some _ := Heap.get?_push_of_some _ gob
        have g1 := F.sub_list_set
        have g2 := F.sub_list_frozenset
        have g3 : (Value.type "list" == Value.type "dict") = false := by decide
        have isL2 : (s.heap.push (bareSet w)).IsList src elems := ⟨_, gob', rfl, mob, dob⟩
        unfold Builtin.«set.__init__» noKeywords Builtin.Frozenset.updateFrom
        generalize hIt : pyIter = IT
        wp_walk
        subst hIt
        refine wpAny_pyIter_list isL2 (wpAny_bind (wpAny_runValue ?_))
        have below : src < s.heap.objs.size := Heap.lt_size gob
        have size1 : (s.heap.push (bareSet w)).objs.size = s.heap.objs.size + 1 := Heap.size_push ..
        have calm3 : A.in1.in1.in1.handled = none := by simp [calm]
        have apart : src ≠ (s.heap.push (bareSet w)).objs.size := by
          rw [size1]
          exact Nat.ne_of_lt (Nat.lt_succ_of_lt below)
        have outside : s.heap.objs.size ∉ [(s.heap.push (bareSet w)).objs.size, src] := fun m => by
          rcases List.mem_cons.mp m with z | z
          · rw [size1] at z
            exact Nat.ne_of_lt (Nat.lt_succ_self _) z
          · exact Nat.ne_of_gt below (List.mem_singleton.mp z)
        have each : ∀ (i : Nat) (v : Value), elems[i]? = some v → ∃ k t, nums[i]? = some k ∧ v = .int k t := fun i v e => by
          have lt : i < nums.length := many ▸ (Array.getElem?_eq_some_iff.mp e).1
          obtain ⟨t, z⟩ := PyProof.Rows.IntsAre.int_at vals i v (by rw [Array.getElem?_toList]; exact e)
          refine ⟨nums[i], t, List.getElem?_eq_getElem lt, z.trans ?_⟩
          rw [List.getD_eq_getElem?_getD, List.getElem?_eq_getElem lt] <;> rfl
        refine set_update_ints ((Walks.list calm3 _ src apart elems).toS) s.heap.objs.size outside nums many room each (elems.size - 0) 0 _ (by omega) (Nat.zero_le _) ⟨⟨_, Heap.get?_push_size _ rfl, rfl, rfl⟩, isL2.push _⟩ ?first ?last
        case first =>
          have there : ((s.heap.push (bareSet w)).push { cls := .type "list_iterator", data := .fields #[.ref src, .int 0 0] }).get? s.heap.objs.size = some (bareSet w) := Heap.get?_push_of_some _ own
          exact ⟨0, Nat.le_refl 0, setR_new_at there⟩
        case last =>
          intro sl c moved le R
          obtain ⟨hp, g, d, tk, os⟩ := sl
          have eg : g = s.gens := moved.gens
          have ed : d = s.drawn := moved.drawn
          have eo : os = s.os := moved.os
          subst eg ed eo
          show wpAny _ _ _ _ _ _
          refine wpAny_pure ?_
          show wpAny _ _ (ret Value.none) _ _ _
          rw [many] at le
          refine wpAny_pure ⟨rfl, hp, tk, c, rfl, R, le, fun b o e => ?_⟩
          have lt := Heap.lt_size e
          refine moved.heap b o (fun m => ?_) (Heap.get?_push_of_some _ (Heap.get?_push_of_some _ e))
          rcases List.mem_cons.mp m with z | z
          · exact Nat.ne_of_lt lt z
          · have z2 := List.mem_singleton.mp z
            rw [size1] at z2
            exact Nat.ne_of_lt (Nat.lt_succ_of_lt lt) z2
      · cases r2 with
        | error e => exact z2
        | ok fl2 =>
          cases fl2 with
          | ret r =>
            obtain ⟨rfl, hp, tk, c, rfl, q1, q2, q3⟩ := z2
            repeat (any_goals (first | assumption | wp_step))
            exact then_ _ _ _ q1 q2 q3
          | _ => exact z2.elim
    | _ => exact z.elim
end
/-- set(xs) -/
def rSetNums (K : PySem.W.Frag) (w : World) : List V → Hp → VK → Prop := fun vs H Q => ∃ (a : Addr) (ns : List Int), vs = [V.ref a] ∧ (SqL K H a (ns.map V.int) ∨ SqT K H a (ns.map V.int)) ∧ ns.length ≤ 1000 ∧
  ∀ (p : Addr) (c : Nat), c ≤ ns.length → H p = none → Q (.ref p) (upd H p (SetO w p (fun j => decide (j ∈ ns)) c))
theorem call_setNums {X : Cx} (hc : X.calm = true) : CallR X (.type "set") (rSetNums X.K X.w) := by
  intro pins s σ H xs us Q I r h
  obtain ⟨a, ns, rfl, sq, few, q⟩ := h
  have sb : ns.length + 1 < scanBound := Nat.lt_of_le_of_lt (Nat.succ_le_succ few) (by decide)
  rw [Vals.ref1 r]
  have fin : ∀ (hp : Heap) (tk c : Nat), SetR X.w hp s.heap.objs.size (fun j => decide (j ∈ ns)) c → c ≤ ns.length → (∀ b o, s.heap.get? b = some o → hp.get? b = some o) → EP X pins σ Q (.ref s.heap.objs.size) { s with heap := hp, toks := tk } := fun hp tk c R le kp => by
    have fr : H s.heap.objs.size = none := I.hok.fresh (Nat.le_refl _)
    exact ⟨.ref _, _, I.laid kp (Nat.le_refl _) (setO_new R), rfl, q _ c le fr⟩
  rcases sq with sq | sq
  · obtain ⟨its, rv, p, _⟩ := I.list sq
    exact set_of_list ns (I.ok.hd hc) p.isList rv.ints sb fin
  · obtain ⟨its, rv, p, _⟩ := I.tuple sq
    exact call_set_tupI ns (I.ok.hd hc) (show s.heap.IsTuple a its.toArray from p) rv.ints sb fin
end Ky
namespace Ky
open PySem PySem.Spec PyProof.Rows L2
theorem depth_ints : ∀ l : List Int, PyData.depthAll (l.map PyData.int) = 0
  | [] => rfl
  | i :: l => by
    show max 0 (PyData.depthAll (l.map PyData.int)) = 0
    rw [depth_ints l] <;> rfl
theorem foldl_max (ns : List Int) : ∀ n : Int, (ns.foldl max n = n ∨ ns.foldl max n ∈ ns) ∧ n ≤ ns.foldl max n ∧ ∀ y ∈ ns, y ≤ ns.foldl max n := by
  induction ns with
  | nil => exact fun n => ⟨.inl rfl, Int.le_refl n, fun y hy => by cases hy⟩
  | cons k ks ih =>
    intro n
    obtain ⟨h1, h2, h3⟩ := ih (max n k)
    have e : (k :: ks).foldl max n = ks.foldl max (max n k) := rfl
    rw [e]
    refine ⟨?_, by omega, fun y hy => ?_⟩
    · rcases h1 with h | h
      · rcases Int.le_total n k with z | z
        · exact .inr (by rw [h, Int.max_eq_right z]; exact List.mem_cons_self)
        · exact .inl (by rw [h, Int.max_eq_left z])
      · exact .inr (List.mem_cons_of_mem _ h)
    · rcases List.mem_cons.mp hy with rfl | hy
      · omega
      · exact h3 y hy
def rMaxS (K : PySem.W.Frag) : List V → Hp → VK → Prop := fun vs H Q => ∃ (a : Addr) (ns : List Int), vs = [V.ref a] ∧ (SqL K H a (ns.map V.int) ∨ SqT K H a (ns.map V.int)) ∧ 0 < ns.length ∧ ∀ m, m ∈ ns → (∀ y, y ∈ ns → y ≤ m) → Q (.int m) H
theorem call_maxS {X : Cx} {k : Nat} (hc : X.calm = true) (hr : Room k X.A) : CallR X (.builtin "max") (rMaxS X.K) := by
  intro pins s σ H xs us Q I r h
  obtain ⟨a, ns, rfl, sq, pos, q⟩ := h
  rcases sq with sq | sq
  · exact cr_max hc pins s σ H _ us Q I r ⟨a, ns, rfl, sq, pos, q⟩
  · rw [Vals.ref1 r]
    obtain ⟨as, rd⟩ := Dp.reads I (.tuple (ns.map PyData.int)) (.ref a) (.ref a) (.tup sq (dpI ns)) rfl
    cases ns with
    | nil => cases pos
    | cons n ns =>
      cases rd with
      | tuple h1 h2 h3 h4 =>
        refine PySem.W.max_tuple_data (I.ok.hd hc) ⟨_, h1, h2, _, h3⟩ h4 ⟨fun x hx y hy => ?_, fun x hx => ?_⟩ ?_ fun i v h' tk bs _ rv kp => ?_
        · obtain ⟨i, _, rfl⟩ := List.mem_map.mp (show x ∈ (n :: ns).map PyData.int from hx)
          obtain ⟨j, _, rfl⟩ := List.mem_map.mp (show y ∈ (n :: ns).map PyData.int from hy)
          rfl
        · obtain ⟨i, _, rfl⟩ := List.mem_map.mp (show x ∈ (n :: ns).map PyData.int from hx)
          exact fun z => by cases z
        · have e := depth_ints (n :: ns)
          have e2 : PyData.depthAll (PyData.int n :: List.map PyData.int ns) = 0 := e
          rw [e2]
          have := hr.un
          omega
        · rw [PySem.W.maxD_ints] at rv
          cases rv
          obtain ⟨m1, m2, m3⟩ := foldl_max ns n
          refine ⟨.int _, H, I.kept kp, ⟨_, rfl⟩, q _ ?_ fun y hy => ?_⟩
          · rcases m1 with z | z
            · rw [z]
              exact List.mem_cons_self
            · exact List.mem_cons_of_mem _ z
          · rcases List.mem_cons.mp hy with rfl | hy
            · exact m2
            · exact m3 y hy
end Ky
/-! ### heaps in which lists may have changed, all else is kept; promises of the laws' own helpers -/
namespace Ky
open PySem PySem.Spec PyProof.Rows L2
def Tup (H H' : Hp) : Prop := ∀ b o, H b = some o → (∀ xs, o ≠ .lst xs) → ∃ o', H' b = some o' ∧ GrO o o'
theorem Tup.refl (H : Hp) : Tup H H := fun b o e _ => ⟨o, e, .inl rfl⟩
theorem Tup.trans {H H1 H2 : Hp} (h : Tup H H1) (h2 : Tup H1 H2) : Tup H H2 := fun b o e n => by
  obtain ⟨o1, e1, g1⟩ := h b o e n
  obtain ⟨o2, e2, g2⟩ := h2 b o1 e1 (by
    rcases g1 with rfl | ⟨_, _, _, rfl, _⟩
    · exact n
    · intro xs z; cases z)
  exact ⟨o2, e2, g1.trans g2⟩
theorem Tup.of {H H' : Hp} (h : Gro H H') : Tup H H' := fun b o e _ => h b o e
theorem Tup.off {a : Addr} {H H' : Hp} {xs : List V} (h : OffG a H H') (n : H a = some (.lst xs)) : Tup H H' := fun b o e m => h b o (fun z => by
  rw [z, n] at e
  exact m xs (Option.some.inj e).symm) e
theorem Tup.deck {a : Addr} {H H' : Hp} (h : OffG a H H') (d : DeckAt H a) : Tup H H' := by
  obtain ⟨x, y, e, _⟩ := d
  exact Tup.off h e
theorem Tup.put {H : Hp} {p : Addr} {xs : List V} (ys : List V) (e : H p = some (.lst xs)) : Tup H (upd H p (.lst ys)) := fun b o e2 n => by
  have hb : b ≠ p := fun z => by
    rw [z, e] at e2
    exact n xs (Option.some.inj e2).symm
  exact ⟨o, by rw [upd_ne hb]; exact e2, .inl rfl⟩
theorem Tup.sqt {K : PySem.W.Frag} {H H' : Hp} {b : Addr} {xs : List V} (t : Tup H H') (h : SqT K H b xs) : SqT K H' b xs := by
  rcases h with (h | ⟨o, h⟩) | h
  · obtain ⟨o', e, g⟩ := t b _ h (by intro _ z; cases z)
    rcases g with rfl | ⟨_, _, z, _⟩
    · exact .inl (.inl e)
    · cases z
  · obtain ⟨o', e, g⟩ := t b _ h (by intro _ z; cases z)
    rcases g with rfl | ⟨_, _, z, _⟩
    · exact .inl (.inr ⟨o, e⟩)
    · cases z
  · exact .inr h
theorem Tup.tg {H H' : Hp} {P : Addr} (t : Tup H H') (h : GxR.TabG H P) : GxR.TabG H' P := by
  obtain ⟨ps, e, tr⟩ := h
  obtain ⟨o', e', g⟩ := t P _ e (by intro _ z; cases z)
  rcases g with rfl | ⟨_, ps', _, rfl, t'⟩
  · exact ⟨ps, e', tr⟩
  · exact ⟨ps', e', t'⟩
theorem Tup.row {K : PySem.W.Frag} {H H' : Hp} {v : V} {r : List Nat} (t : Tup H H') (h : Dp K H v (rowD r)) : Dp K H' v (rowD r) := by
  obtain ⟨a, rfl, s⟩ := row_inv h
  exact row_mk (t.sqt s)
theorem Tup.rows {K : PySem.W.Frag} {H H' : Hp} (t : Tup H H') : ∀ {rows : List (List Nat)} {xs : List V}, DpAll K H xs (rows.map rowD) → DpAll K H' xs (rows.map rowD)
  | [], _, h => by cases h; exact .nil
  | r :: rows, _, h => by
    have h' : DpAll K H _ (rowD r :: rows.map rowD) := h
    cases h' with
    | cons h1 h2 => exact .cons (t.row h1) (Tup.rows t h2)
theorem Tup.page {K : PySem.W.Frag} {H H' : Hp} {v : V} {m : Nat} {rows : List (List Nat)} (t : Tup H H') (h : Dp K H v (pageD m rows)) : Dp K H' v (pageD m rows) := by
  obtain ⟨a, b, xs, rfl, h1, h2, h3⟩ := page_inv h
  exact page_mk (t.sqt h1) (t.sqt h2) (t.rows h3)
/-- a lawful row -/
def RowOk (m : Nat) (r : List Nat) : Prop := r ≠ [] ∧ Asc m r
theorem Asc.mono {m n : Nat} {r : List Nat} (h : Asc m r) (l : m ≤ n) : Asc n r := ⟨h.1, fun k hk => Nat.lt_of_lt_of_le (h.2 k hk) l⟩
theorem asc_range (n : Nat) : Asc n (List.range n) := ⟨List.pairwise_lt_range, fun k hk => List.mem_range.mp hk⟩
theorem asc_snoc {m i : Nat} {r : List Nat} (h : Asc i r) (l : i < m) : Asc (i + 1) (r ++ [i]) := by
  refine ⟨List.pairwise_append.mpr ⟨h.1, List.pairwise_singleton _ _, fun a ha b hb => ?_⟩, fun k hk => ?_⟩
  · rw [List.mem_singleton.mp hb]
    exact h.2 a ha
  · rcases List.mem_append.mp hk with z | z
    · exact Nat.lt_succ_of_lt (h.2 k z)
    · rw [List.mem_singleton.mp z]
      exact Nat.lt_succ_self i
theorem rgV_nats (n : Nat) : rgV 0 (n : Int) = intsV (List.range n) := by
  unfold rgV intsV
  rw [Int.sub_zero, Int.toNat_natCast]
  refine List.map_congr_left fun i _ => ?_
  rw [Int.zero_add]
def spCells (K : PySem.W.Frag) : Sp := fun vs H Q _ => ∃ (a : Addr) (m : Nat), vs = [.ref a, .int (m : Int)] ∧ DeckAt H a ∧ 1 ≤ m ∧ m ≤ 1000 ∧
  ∀ H' p r, OffG a H H' → DeckAt H' a → RowOk m r → H' p = some (.tup (intsV r)) → Q (.ref p) H'
def spPage (K : PySem.W.Frag) : Sp := fun vs H Q _ => ∃ (a : Addr) (most : Nat), vs = [.ref a, .int (most : Int)] ∧ DeckAt H a ∧ 1 ≤ most ∧ most ≤ 100 ∧
  ∀ H' p m rows, OffG a H H' → DeckAt H' a → Good m rows → m ≤ most → rows.length ≤ most → Dp K H' (.ref p) (pageD m rows) → Q (.ref p) H'
def spLot (K : PySem.W.Frag) : Sp := fun vs H Q _ => ∃ (a : Addr) (x : V) (m : Nat) (rows : List (List Nat)), vs = [.ref a, x] ∧ DeckAt H a ∧ Dp K H x (pageD m rows) ∧ rows.length ≤ 1000 ∧
  ∀ H' p lot, OffG a H H' → DeckAt H' a → Asc rows.length lot → SqT K H' p (intsV lot) → Q (.ref p) H'
theorem rows_shaped (rows : List (List Nat)) : SeqAt.shaped (.list (rows.map rowD)) = true := by
  obtain ⟨h1, h2⟩ := rows_lay rows
  unfold SeqAt.shaped
  show (PyData.canLayAll0 (rows.map rowD) && decide (PyData.depthAll (rows.map rowD) + 1 ≤ 64)) = true
  rw [h1, decide_eq_true (by omega)] <;> rfl
theorem nats_shaped (r : List Nat) : SeqAt.shaped (.list (natsD r)) = true := by
  unfold SeqAt.shaped
  show (PyData.canLayAll0 (natsD r) && decide (PyData.depthAll (natsD r) + 1 ≤ 64)) = true
  rw [canLay_nats, depth_nats] <;> rfl
/-- a name that was not there before: new, and not the deck -/
theorem new_at {a p : Addr} {H H1 : Hp} (o : OffG a H H1) (d : DeckAt H1 a) (n : H1 p = none) : p ≠ a ∧ H p = none := by
  have h1 : p ≠ a := by
    obtain ⟨_, _, e, _⟩ := d
    exact (ne_of_none e n).symm
  refine ⟨h1, ?_⟩
  cases z : H p with
  | none => rfl
  | some u =>
    obtain ⟨u', e, _⟩ := o p u h1 z
    rw [e] at n
    cases n
theorem OffG.put {a p : Addr} {H H1 : Hp} {u0 : HO} (h : OffG a H H1) (n : H p = none) : OffG a H (upd H1 p u0) := fun b u nb e => by
  rw [upd_ne (ne_of_none e n)]
  exact h b u nb e
theorem deck_put {a p : Addr} {H1 : Hp} {o : HO} (h : DeckAt H1 a) (n : p ≠ a) : DeckAt (upd H1 p o) a := by
  obtain ⟨x, y, e, h0, h1⟩ := h
  exact ⟨x, y, by rw [upd_ne n.symm]; exact e, h0, h1⟩
/-! ### a page at hand, its rows, within a heap that has gone on -/
structure PG4 (K : PySem.W.Frag) (tf : List Str) (a : Addr) (H : Hp) (g B : Addr) (m : Nat) (rows : List (List Nat)) (H' : Hp) : Prop where
  off : OffG a H H'
  deck : DeckAt H' a
  tabs : ∀ x ∈ tf, GxR.TabG H' (tA K x)
  page : Dp K H' (.ref g) (pageD m rows)
  rows : ∃ xs, SqT K H' B xs ∧ DpAll K H' xs (rows.map rowD)
section
variable {K : PySem.W.Frag} {tf : List Str} {a g B : Addr} {m : Nat} {rows : List (List Nat)} {H H1 H2 : Hp}
theorem PG4.gro (w : PG4 K tf a H g B m rows H1) (h : Gro H1 H2) : PG4 K tf a H g B m rows H2 := by
  obtain ⟨xs, h1, h2⟩ := w.rows
  exact ⟨w.off.trans (.of h), w.deck.gro h, fun x hx => h.tg (w.tabs x hx), Dp.gro h _ _ w.page, xs, h.tupS h1, DpAll.gro h _ _ h2⟩
theorem PG4.turn (w : PG4 K tf a H g B m rows H1) (o : OffG a H1 H2) (d : DeckAt H2 a) : PG4 K tf a H g B m rows H2 := by
  obtain ⟨xs, h1, h2⟩ := w.rows
  have t := Tup.deck o w.deck
  exact ⟨w.off.trans o, d, fun x hx => t.tg (w.tabs x hx), t.page w.page, xs, t.sqt h1, t.rows h2⟩
end
theorem fit_row (n : Nat) {m : Nat} {r : List Nat} (h : Asc m r) (hm : m ≤ 1000) : Fit (n + 2) (rowD r) := by
  have hl := asc_len h
  refine ⟨by rw [natsD_len]; omega, fun e he => ?_⟩
  obtain ⟨i, _, rfl⟩ := List.mem_map.mp he
  exact trivial
theorem fit_page (n : Nat) {m : Nat} {rows : List (List Nat)} (h : Good m rows) : Fit (n + 4) (pageD m rows) := by
  have many := h.many
  refine ⟨(by show 2 < 4611686018427387904; decide), fun e he => ?_⟩
  rcases List.mem_cons.mp he with rfl | he
  · exact trivial
  · rcases List.mem_cons.mp he with rfl | he
    · refine ⟨by rw [List.length_map]; omega, fun e he => ?_⟩
      obtain ⟨r, hr, rfl⟩ := List.mem_map.mp he
      exact fit_row n (h.row r hr).2 h.few
    · cases he
theorem same_l {K : PySem.W.Frag} {H : Hp} {p1 p2 : Addr} {vs ws : List V} {ds : List PyData} (h1 : H p1 = some (.lst vs)) (h2 : H p2 = some (.lst ws)) (d1 : DpAll K H vs ds) (d2 : DpAll K H ws ds) : Dp K H (.ref p1) (.list ds) ∧ Dp K H (.ref p2) (.list ds) :=
  ⟨.lst (SqL.of h1) d1, .lst (SqL.of h2) d2⟩
theorem Good.snoc {m : Nat} {rows : List (List Nat)} {r : List Nat} (g : Good m rows) (h : RowOk m r) (l : rows.length < 1000) : Good m (rows ++ [r]) :=
  ⟨g.pos, g.few, by rw [List.length_append]; exact l, fun x hx => by
    rcases List.mem_append.mp hx with z | z
    · exact g.row x z
    · rw [List.mem_singleton.mp z]; exact h⟩
theorem Good.sub {m : Nat} {rows rows' : List (List Nat)} (g : Good m rows) (h : ∀ r ∈ rows', r ∈ rows) (l : rows'.length ≤ 1000) : Good m rows' := ⟨g.pos, g.few, l, fun x hx => g.row x (h x hx)⟩
theorem pick_mem {rows : List (List Nat)} {lot : List Nat} (h : ∀ k ∈ lot, k < rows.length) : ∀ r ∈ pick rows lot, r ∈ rows := fun r hr => by
  obtain ⟨k, hk, rfl⟩ := List.mem_map.mp hr
  have hlt := h k hk
  rw [List.getD_eq_getElem?_getD, List.getElem?_eq_getElem hlt]
  exact List.getElem_mem hlt
theorem pick_range (rows : List (List Nat)) : pick rows (List.range rows.length) = rows := by
  unfold pick
  refine List.ext_getElem (by simp) fun i h1 h2 => ?_
  simp [List.getD_eq_getElem?_getD, h2]
theorem words_shown {K : PySem.W.Frag} {H : Hp} {y : Addr} {l : List Nat} (h : WordsAt K H y l) (hb : ∀ n ∈ l, n < 2 ^ 1000) (hl : l.length ≤ 1000) :
    ∃ d : PyData, Dp K H (.ref y) d ∧ d.showable = true ∧ d.hasDict = false ∧ d.depth < 100 ∧ d.shown.length ≤ sizeLine := by
  obtain ⟨h1, h2, h3, h4, h5, h6⟩ := ints_show _ (words_show hb hl)
  rcases h with h | h
  · obtain ⟨s1, s2, s3, s4, _⟩ := list_show (words_show hb hl) (by rw [List.length_map]; exact hl)
    exact ⟨_, dpW l h, s1, s2, s3, s4⟩
  · rw [intsV_map] at h
    refine ⟨_, .tup h (dpI _), h1, h2, ?_, ?_⟩
    · show PyData.depthAll (natsD l) + 1 < 100
      rw [h3]
      decide
    · have z := PyData.shown_le_bulk 1921 (by decide) (.tuple (natsD l)) h4
      have e : (PyData.tuple (natsD l)).bulk = (l.map fun k : Nat => (k : Int)).length := h5
      rw [e, List.length_map] at z
      have e2 : sizeLine = 16777216 := by decide
      show (PyData.tuple (natsD l)).shown.length ≤ sizeLine
      omega
/-- xs at the keys of a lot -/
def atV (xs : List V) : V → V
  | .int n => xs.getD n.toNat .non
  | _ => .non
theorem atV_nat {xs : List V} {k : Nat} {v : V} (h : xs[k]? = some v) : atV xs (.int (k : Int)) = v := by
  show xs.getD ((k : Int)).toNat .non = v
  rw [Int.toNat_natCast, List.getD_eq_getElem?_getD, h]
  rfl
theorem atV_rows {K : PySem.W.Frag} {H : Hp} {xs : List V} {rows : List (List Nat)} (h : DpAll K H xs (rows.map rowD)) : ∀ {lot : List Nat}, (∀ k ∈ lot, k < rows.length) → DpAll K H ((intsV lot).map (atV xs)) ((pick rows lot).map rowD)
  | [], _ => .nil
  | k :: lot, each => by
    have hk := each k List.mem_cons_self
    obtain ⟨v, e1, e2⟩ := DpAll.get _ h (i := k) (d := rowD rows[k]) (by rw [List.getElem?_map, List.getElem?_eq_getElem hk]; rfl)
    have e4 : rows.getD k [] = rows[k] := by
      rw [List.getD_eq_getElem?_getD, List.getElem?_eq_getElem hk]
      rfl
    refine .cons ?_ (atV_rows h fun j hj => each j (List.mem_cons_of_mem _ hj))
    show Dp K H (atV xs (.int (k : Int))) (rowD (rows.getD k []))
    rw [atV_nat e1, e4]
    exact e2
theorem atV_ints {l : List Nat} : ∀ {lot : List Nat}, (∀ k ∈ lot, k < l.length) → (intsV lot).map (atV (intsV l)) = intsV (lot.map fun k => l.getD k 0)
  | [], _ => rfl
  | k :: lot, each => by
    have hk := each k List.mem_cons_self
    have ih := atV_ints (lot := lot) fun j hj => each j (List.mem_cons_of_mem _ hj)
    show atV (intsV l) (.int (k : Int)) :: (intsV lot).map (atV (intsV l)) = V.int ((l.getD k 0 : Nat) : Int) :: intsV (lot.map fun k => l.getD k 0)
    rw [ih, atV_nat (intsV_get hk), List.getD_eq_getElem?_getD, List.getElem?_eq_getElem hk]
    rfl
theorem lc_at {K : PySem.W.Frag} {c b : Addr} {xs : List V} {lot : List Nat} {i : Nat} {te : TE} {vs : List Nat} {σ : L2.St} {H1 : Hp} {D : Addr} {Qd : Hp → Prop} (sq : SqT K H1 c (intsV lot)) (hD : H1 D = none) (h2 : SqT K H1 b xs) (each : ∀ k ∈ lot, k < xs.length) (few : lot.length ≤ 1000)
    (hw : ∀ v, wipe ((wipe σ vs).set i (some v)) vs = wipe σ vs) (el : ∀ (k : Nat) (v : V) (H : Hp) (Q : VK), SqT K H b xs → atI xs (k : Int) = some v → Q v H → te ((wipe σ vs).set i (some (.int (k : Int)))) H Q) (hd : Qd (upd H1 D (.lst ((intsV lot).map (atV xs))))) :
    ∃ W : Nat → Nat → Hp → Prop, (∃ m, W 0 m (upd H1 D (.lst []))) ∧ ∀ i' m H, W i' m H →
      ((Itt K c).stop i' H ∧ Qd H) ∨ ((Itt K c).go i' H ∧ ∃ Nx : Hp → Prop, (∀ H', Nx H' → ∃ m', m' < m ∧ W (i' + 1) m' H') ∧ ∀ x H', (Itt K c).yld i' H x H' → gName i x (wipe σ vs) H' fun σ2 H2 => wipe σ2 vs = wipe σ vs ∧ tYes σ2 H2 fun b H3 =>
        if b = true then te σ2 H3 fun y H4 => ∃ acc, H4 D = some (.lst acc) ∧ acc.length < sizeLine ∧ Nx (upd H4 D (.lst (acc ++ [y]))) else Nx H3) := by
  refine lc_mapT (atV xs) sq hD (by rw [intsV_len]; omega) hw (fun v hv H Q hs q => ?_) hd
  obtain ⟨k, hk, rfl⟩ := List.mem_map.mp hv
  have hlt := each k hk
  refine el k xs[k] H Q (Same.tupS hs h2) (atI_nat (List.getElem?_eq_getElem hlt)) ?_
  rw [atV_nat (List.getElem?_eq_getElem hlt)] at q
  exact q
theorem pick_len (rows : List (List Nat)) (lot : List Nat) : (pick rows lot).length = lot.length := List.length_map _
theorem asc_pick {l inner : List Nat} {n : Nat} (hl : Asc n l) (hi : Asc l.length inner) : Asc n (inner.map fun k => l.getD k 0) := by
  have key : ∀ k, k < l.length → ∀ (h : k < l.length), l.getD k 0 = l[k] := fun k _ h => by
    rw [List.getD_eq_getElem?_getD, List.getElem?_eq_getElem h]
    rfl
  refine ⟨?_, fun k hk => ?_⟩
  · rw [List.pairwise_map]
    refine hi.1.imp_of_mem fun {a b} ha hb hlt => ?_
    have h1 := hi.2 a ha
    have h2 := hi.2 b hb
    rw [key a h1 h1, key b h2 h2]
    exact List.pairwise_iff_getElem.mp hl.1 a b h1 h2 hlt
  · obtain ⟨j, hj, rfl⟩ := List.mem_map.mp hk
    have h1 := hi.2 j hj
    rw [key j h1 h1]
    exact hl.2 _ (List.getElem_mem h1)
theorem pick_pick {rows : List (List Nat)} {lot inner : List Nat} (hi : ∀ k ∈ inner, k < lot.length) : pick (pick rows lot) inner = pick rows (inner.map fun k => lot.getD k 0) := by
  unfold pick
  rw [List.map_map]
  refine List.map_congr_left fun k hk => ?_
  have hlt := hi k hk
  show (lot.map fun k => rows.getD k []).getD k [] = rows.getD (lot.getD k 0) []
  rw [List.getD_eq_getElem?_getD, List.getElem?_map, List.getD_eq_getElem?_getD (l := lot), List.getElem?_eq_getElem hlt]
  rfl
theorem asc_cut (n k : Nat) : Asc n ((List.range n).take k ++ (List.range n).drop (k + 1)) := by
  have s : ((List.range n).take k ++ (List.range n).drop (k + 1)).Sublist (List.range n) := by
    have e := List.take_append_drop k (List.range n)
    have h := List.Sublist.append (List.Sublist.refl ((List.range n).take k)) (List.drop_sublist 1 ((List.range n).drop k))
    rw [e, List.drop_drop] at h
    exact h
  exact ⟨List.pairwise_lt_range.sublist s, fun j hj => List.mem_range.mp (s.subset hj)⟩
theorem pick_cut (rows : List (List Nat)) (k : Nat) : pick rows ((List.range rows.length).take k ++ (List.range rows.length).drop (k + 1)) = rows.take k ++ rows.drop (k + 1) := by
  have e := pick_range rows
  unfold pick at e ⊢
  rw [List.map_append, List.map_take, List.map_drop, e]
/-- cells in the list of cells so far -/
theorem inV_nats (c : Nat) : ∀ l : List Nat, inV (.int (c : Int)) (intsV l) = decide (c ∈ l)
  | [] => rfl
  | d :: l => by
    have ih := inV_nats c l
    show (eqV (.int (d : Int)) (.int (c : Int)) || inV (.int (c : Int)) (intsV l)) = _
    rw [ih]
    have e : eqV (V.int (d : Int)) (V.int (c : Int)) = decide (c = d) := by
      show decide ((d : Int) = (c : Int)) = _
      by_cases h : c = d
      · rw [h, decide_eq_true rfl, decide_eq_true rfl]
      · rw [decide_eq_false h, decide_eq_false (fun z => h (by omega))]
    rw [e]
    by_cases h : c = d
    · rw [decide_eq_true h, Bool.true_or, decide_eq_true (by rw [h]; exact List.mem_cons_self)]
    · rw [decide_eq_false h, Bool.false_or]
      by_cases h2 : c ∈ l
      · rw [decide_eq_true h2, decide_eq_true (List.mem_cons_of_mem _ h2)]
      · rw [decide_eq_false h2, decide_eq_false (fun z => by rcases List.mem_cons.mp z with z | z <;> contradiction)]
theorem flat_nats (l : List Nat) : (intsV l).all flatV = true := by
  unfold intsV
  rw [List.all_map]
  exact List.all_eq_true.mpr fun _ _ => rfl
/-- sorted cells, each once -/
theorem sorted_row {l : List Nat} {ns : List Int} (h : ns.Perm (l.map fun k : Nat => (k : Int))) (hs : ns.Pairwise (· ≤ ·)) (hn : l.Nodup) : ∃ r : List Nat, ns.map V.int = intsV r ∧ r.Pairwise (· < ·) ∧ ∀ k, k ∈ r ↔ k ∈ l := by
  have hp : ∀ i ∈ ns, 0 ≤ i := fun i hi => by
    obtain ⟨k, _, e⟩ := List.mem_map.mp (h.mem_iff.mp hi)
    omega
  have hm : (ns.map Int.toNat).Perm l := by
    have := h.map Int.toNat
    rw [List.map_map] at this
    have e : l.map (Int.toNat ∘ fun k : Nat => (k : Int)) = l := by
      have : (Int.toNat ∘ fun k : Nat => (k : Int)) = id := funext fun k => Int.toNat_natCast k
      rw [this, List.map_id]
    rw [e] at this
    exact this
  refine ⟨ns.map Int.toNat, nats_back hp, ?_, fun k => hm.mem_iff⟩
  have h1 : (ns.map Int.toNat).Nodup := hm.nodup_iff.mpr hn
  have h2 : (ns.map Int.toNat).Pairwise (· ≤ ·) := by
    rw [List.pairwise_map]
    exact hs.imp fun h => Int.toNat_le_toNat h
  exact (List.Pairwise.and h2 h1).imp fun ⟨a, b⟩ => Nat.lt_of_le_of_ne a b
end Ky
/-! ### t[::-1] of a tuple -/
namespace Ky
open PySem PySem.Spec PyProof.Rows L2
theorem adjust_rev (n : Nat) : Builtin.Slice.sliceAdjust none none (-1) (n : Int) = ((n : Int) - 1, -1) := by
  unfold Builtin.Slice.sliceAdjust
  simp
theorem places_rev (n : Nat) : Builtin.Slice.slicePlaces ((n : Int) - 1) (-1) (-1) = n := by
  unfold Builtin.Slice.slicePlaces
  simp
  omega
theorem fm_congr {α β : Type} {f g : α → Option β} : ∀ {l : List α}, (∀ x ∈ l, f x = g x) → l.filterMap f = l.filterMap g
  | [], _ => rfl
  | a :: l, h => by
    rw [List.filterMap_cons, List.filterMap_cons, h a List.mem_cons_self, fm_congr fun x hx => h x (List.mem_cons_of_mem _ hx)]
theorem pick_rev (xs : Array Value) : ((List.range xs.size).filterMap fun (m : Nat) => xs[(((xs.size : Int) - 1) + (m : Int) * -1).toNat]?).toArray = xs.toList.reverse.toArray := by
  have e : ((List.range xs.size).filterMap fun (m : Nat) => xs[(((xs.size : Int) - 1) + (m : Int) * -1).toNat]?) = xs.toList.reverse := by
    have h : ((List.range xs.size).filterMap fun (m : Nat) => xs[(((xs.size : Int) - 1) + (m : Int) * -1).toNat]?) = ((List.range xs.size).map fun k => xs.size - 1 - k).filterMap (xs[·]?) := by
      rw [List.filterMap_map]
      refine fm_congr fun m hm => ?_
      have := List.mem_range.mp hm
      show xs[(((xs.size : Int) - 1) + (m : Int) * -1).toNat]? = xs[xs.size - 1 - m]?
      congr 1
      omega
    rw [h, PySem.W.krv_range, List.filterMap_reverse, PySem.W.krv_all]
  rw [e]
section
variable {prog : Program} {w : World} {A : Around} {E : Value → Shared → Prop} {s : Shared}
theorem applied_rev {sl : Addr} {vs : Value} {n : Nat} {Goal : Int × Int × Nat → Shared → Prop} (isS : s.heap.IsSliceOf sl .none .none vs) (step : IsPart vs (some (-1))) (then_ : Goal ((n : Int) - 1, -1, n) s) :
    wpAny (model prog w) A (Builtin.Slice.sliceApplied (.ref sl) (pure (n : Int))) Goal E s := by
  obtain ⟨ob, g, c, d⟩ := id isS
  unfold Builtin.Slice.sliceApplied Builtin.Slice.sliceFields
  refine wpAny_bind (wpAny_bind (wpAny_field g d (x := .none) rfl (wpAny_bind (wpAny_field g d (x := .none) rfl (wpAny_bind (wpAny_field g d (x := vs) rfl (wpAny_pure ?_)))))))
  refine wpAny_bind (HT.slicePart_ step ?_)
  show wpAny _ _ (if ((-1 : Int) == 0) = true then _ else _) _ _ s
  rw [if_neg (by decide)]
  refine wpAny_bind (slicePart_none (wpAny_bind (slicePart_none (wpAny_bind (wpAny_pure ?_)))))
  show wpAny _ _ (match Builtin.Slice.sliceAdjust none none (-1) (n : Int) with | (lo, hi) => pure (lo, (-1 : Int), Builtin.Slice.slicePlaces lo hi (-1))) _ _ s
  rw [adjust_rev n]
  show wpAny _ _ (pure ((n : Int) - 1, (-1 : Int), Builtin.Slice.slicePlaces ((n : Int) - 1) (-1) (-1))) _ _ s
  rw [places_rev]
  exact wpAny_pure then_
theorem item_rev {t sl : Addr} {items : Array Value} {vs : Value} {Goal : Value → Shared → Prop} (isT : IsTup s.heap t items) (isS : s.heap.IsSliceOf sl .none .none vs) (step : IsPart vs (some (-1)))
    (then_ : Goal (.ref s.heap.objs.size) { s with heap := s.heap.push { cls := .type "tuple", data := .seq items.toList.reverse.toArray } }) (room : items.size ≤ sizeLine) : wpAny (model prog w) A (getItem (.ref t) (.ref sl)) Goal E s := by
  have fits : sizeOk (.seq items.toList.reverse.toArray) := by
    show items.toList.reverse.toArray.size ≤ sizeLine
    rw [List.size_toArray, List.length_reverse, Array.length_toList]
    exact room
  obtain ⟨ob, g, c, d⟩ := id isS
  have ty : s.TypeIs (.ref sl) "slice" := ⟨ob, g, c⟩
  unfold getItem
  try with_reducible refine wpAny_holding ?_
  first | refine wpAny_bind (wpAny_pure ?_) | skip
  refine wpAny_bind (wpAny_sequenceKey isT.typeIs (by decide) ?_)
  refine wpAny_bind (wpAny_callSpecial?_slot (name := Str.ofString "__getitem__") isT.typeIs PyProof.Rows.slot_tuple_getitem (wpAny_call_entry PyProof.Rows.slot_tuple_getitem isT.typeIs entry_tuple_getitem ?_ (args_tuple_getitem _ _)))
  show wpAny _ _ (Builtin.Tuple.tupleItemsOf (.ref t) >>= _) _ _ s
  refine wpAny_bind (PyProof.Rows.tupleItemsOf_ isT (wpAny_bind (wpAny_typeOf ty ?_)))
  rw [if_pos (by decide)]
  refine wpAny_bind (applied_rev isS step ?_)
  have differs : ¬ ((((items.size : Int) - 1) == 0 && (-1 : Int) == 1 && items.size == items.size) = true) := by
    have e : ((-1 : Int) == 1) = false := by decide
    rw [e, Bool.and_false, Bool.false_and]
    exact Bool.false_ne_true
  show wpAny _ _ (if (((items.size : Int) - 1) == 0 && (-1 : Int) == 1 && items.size == items.size) = true then _ else _) _ _ s
  rw [if_neg differs, pick_rev]
  first
    | exact wpAny_bind (m := Builtin.Tuple.tupleExact _) (wpAny_newObj_type (wpAny_pure ⟨_, rfl, wpAny_pure then_⟩) fits)
    | exact wpAny_bind (m := Builtin.Tuple.tupleExact _) (wpAny_newObj_type (wpAny_bind (wpAny_pure (wpAny_pure ⟨_, rfl, wpAny_pure then_⟩))) fits)
    | exact wpAny_bind (wpAny_bind (m := Builtin.Tuple.tupleExact _) (wpAny_newObj_type (wpAny_pure (wpAny_pure ⟨_, rfl, wpAny_pure then_⟩)) fits))
    | exact wpAny_bind (wpAny_bind (m := Builtin.Tuple.tupleExact _) (wpAny_newObj_type (wpAny_pure ⟨_, rfl, wpAny_pure then_⟩) fits))
end
def tRevT (K : PySem.W.Frag) (te : TE) : TE := fun σ H Q => te σ H fun x H1 => ∃ a xs, x = .ref a ∧ SqT K H1 a xs ∧ ∀ p, H1 p = none → Q (.ref p) (upd H1 p (.tup xs.reverse))
theorem pe_revT {X : Cx} {e : Expr} {te : TE} {k : Nat} {p1 p2 p3 pos : Pos} (he : PE X e te) : PE X (.Subscript e (.Slice none none (some (.UnaryOp .USub (.Constant (.int 1) k p1) p2)) p3) pos) (tRevT X.K te) := by
  refine ⟨fun pins s σ H Q I want => Subscript_ (thn (he.run pins s σ H _ I want) fun v s1 ⟨x, H1, I1, r1, a, xs, ex, sq, q⟩ => ?_)⟩
  subst ex
  have ev : v = Value.ref a := r1
  subst ev
  have down : PO X (some (.UnaryOp .USub (.Constant (.int 1) k p1) p2)) (tPart (tUn (rU fun i => .int (-i)) (tC (.int 1)))) := po_some (pe_un un_neg pe_int)
  refine wpAny_Slice (thn (po_none.run pins s1 σ H1 (fun o G => o = none ∧ G = H1) I1 ⟨rfl, rfl⟩) fun vl s2 ⟨l, H2, I2, pl, el, e2⟩ => ?_)
  subst el e2
  refine thn (po_none.run pins s2 σ H2 (fun o G => o = none ∧ G = H2) I2 ⟨rfl, rfl⟩) fun vu s3 ⟨u, H3, I3, pu, eu, e3⟩ => ?_
  subst eu e3
  refine thn (down.run pins s3 σ H3 (fun o G => o = some (-1) ∧ G = H3) I3 ⟨1, rfl, -1, rfl, rfl, rfl⟩) fun vs s4 ⟨o, H4, I4, ps, eo, e4⟩ => ?_
  subst eo e4
  have I5 : Inv X pins σ H4 { s4 with heap := s4.heap.push { cls := .type "slice", data := .fields #[vl, vu, vs] } } := I4.kept (t' := s4.toks) fun b ob z => Heap.get?_push_of_some _ z
  obtain ⟨its, rel, isT, few⟩ := I5.tuple sq
  have many := rel.length
  cases pl
  cases pu
  show wpAny (model X.prog X.w) X.A (subscriptTail e (.Slice none none (some (.UnaryOp .USub (.Constant (.int 1) k p1) p2)) p3) (.ref a) (.ref s4.heap.objs.size)) (EP X pins σ Q) X.xe { s4 with heap := s4.heap.push { cls := .type "slice", data := .fields #[.none, .none, vs] } }
  refine tail_any (ops := [.ref a, .ref s4.heap.objs.size]) isT.typeIs PyProof.Rows.slot_tuple_getitem.lookup ?_ (by with_unfolding_all rfl)
  refine item_rev isT (Heap.IsSliceOf.new _ .none .none vs) ps ?_ (by rw [List.size_toArray]; omega)
  exact ⟨.ref _, _, I5.laid (t' := s4.toks) (o := .tup xs.reverse) (fun b ob z => Heap.get?_push_of_some _ z) (Nat.le_refl _) ⟨by rw [List.length_reverse]; exact few, _, rel.reverse, IsTup.new _ _⟩, rfl, q _ (I5.hok.fresh (Nat.le_refl _))⟩
end Ky
/-! ### rows told, each a list or a tuple -/
namespace Ky
open PySem PySem.Spec PyProof.Rows L2
/-- the told rows at the items vs -/
def WAll (K : PySem.W.Frag) (H : Hp) (vs : List V) (cs : List (List Nat)) : Prop := vs.length = cs.length ∧ ∀ (i : Nat) (v : V) (c : List Nat), vs[i]? = some v → cs[i]? = some c → ∃ a, v = .ref a ∧ WordsAt K H a c
theorem WAll.gro {K : PySem.W.Frag} {H H' : Hp} {vs : List V} {cs : List (List Nat)} (h : WAll K H vs cs) (g : Gro H H') : WAll K H' vs cs := ⟨h.1, fun i v c e1 e2 => by
  obtain ⟨a, e, w⟩ := h.2 i v c e1 e2
  exact ⟨a, e, w.gro g⟩⟩
/-- the rows are the told ones, put in order -/
def RowsOf (m : Nat) (cs rows : List (List Nat)) : Prop := cs.length = rows.length ∧ ∀ (i : Nat) (c r : List Nat), cs[i]? = some c → rows[i]? = some r → IsRow c r ∧ Told m c
def spBook (K : PySem.W.Frag) : Sp := fun vs H Q _ => ∃ (y : Addr) (m : Nat) (us : List V) (cs rows : List (List Nat)), vs = [.int (m : Int), .ref y] ∧ 1 ≤ m ∧ (SqL K H y us ∨ SqT K H y us) ∧ WAll K H us cs ∧ RowsOf m cs rows ∧ cs.length ≤ 1000 ∧
  GxR.TabG H (tA K "are_integers") ∧ ∀ H' p, Gro H H' → Dp K H' (.ref p) (pageD m rows) → Q (.ref p) H'
def isCellD : PyData → Int → Bool
  | .int i, m => decide (0 ≤ i) && decide (i < m)
  | _, _ => false
def spIsCell (K : PySem.W.Frag) : Sp := fun vs H Q _ => ∃ (x : V) (d : PyData) (m : Int), vs = [.int m, x] ∧ Dp K H x d ∧ Q (.bl (isCellD d m)) H
/-- two by two ascending -/
def adjUp : List PyData → Bool
  | [] => true
  | d :: ds => (match d, ds with
    | .int i, .int j :: _ => decide (i < j)
    | _, _ => true) && adjUp ds
theorem asc_split (m : Int) : ∀ (ds : List PyData) (l : Int), 0 ≤ l → ascFrom m l ds = (ds.all (fun d => isCellD d m) && adjUp ds && (match ds with | .int i :: _ => decide (l ≤ i) | _ => true))
  | [], l, _ => rfl
  | d :: ds, l, h0 => by
    cases d with
    | int i =>
      show (decide (l ≤ i) && (decide (i < m) && ascFrom m (i + 1) ds)) = _
      by_cases h1 : l ≤ i
      · rw [asc_split m ds (i + 1) (by omega)]
        have e1 : isCellD (.int i) m = decide (i < m) := by
          show (decide (0 ≤ i) && decide (i < m)) = _
          rw [decide_eq_true (by omega : 0 ≤ i), Bool.true_and]
        show _ = ((isCellD (.int i) m && ds.all fun d => isCellD d m) && adjUp (.int i :: ds) && decide (l ≤ i))
        rw [e1, decide_eq_true h1]
        have e2 : adjUp (.int i :: ds) = ((match ds with | .int j :: _ => decide (i + 1 ≤ j) | _ => true) && adjUp ds) := by
          cases ds with
          | nil => rfl
          | cons e es => cases e <;> rfl
        rw [e2]
        cases decide (i < m) <;> cases (ds.all fun d => isCellD d m) <;> cases adjUp ds <;> simp
      · show _ = (_ && _ && decide (l ≤ i))
        rw [decide_eq_false h1, Bool.false_and, Bool.and_false]
    | none => rfl
    | bool b => rfl
    | str x => rfl
    | list x => rfl
    | tuple x => rfl
    | dict x => rfl
theorem asc0 (m : Int) (ds : List PyData) : ascFrom m 0 ds = (ds.all (fun d => isCellD d m) && adjUp ds) := by
  rw [asc_split m ds 0 (Int.le_refl 0)]
  cases ds with
  | nil => rfl
  | cons d ds =>
    cases d with
    | int i =>
      show ((isCellD (.int i) m && ds.all fun d => isCellD d m) && adjUp (.int i :: ds) && decide (0 ≤ i)) = ((isCellD (.int i) m && ds.all fun d => isCellD d m) && adjUp (.int i :: ds))
      have e1 : isCellD (.int i) m = (decide (0 ≤ i) && decide (i < m)) := rfl
      rw [e1]
      cases decide (0 ≤ i) <;> simp
    | none => rfl
    | bool b => rfl
    | str x => rfl
    | list x => rfl
    | tuple x => rfl
    | dict x => rfl
theorem adj_iff : ∀ ns : List Int, adjUp (ns.map PyData.int) = true ↔ ∀ j, 1 ≤ j → j < ns.length → ns.getD (j - 1) 0 < ns.getD j 0
  | [] => ⟨fun _ j _ h => absurd h (Nat.not_lt_zero _), fun _ => rfl⟩
  | [n] => ⟨fun _ j h1 h2 => by
      have : j < 1 := h2
      omega, fun _ => rfl⟩
  | n :: k :: ns => by
    have ih := adj_iff (k :: ns)
    show (decide (n < k) && adjUp ((k :: ns).map PyData.int)) = true ↔ _
    rw [Bool.and_eq_true, ih, decide_eq_true_iff]
    constructor
    · intro ⟨h1, h2⟩ j hj1 hj2
      match j, hj1, hj2 with
      | 1, _, _ => exact h1
      | j + 2, _, hj2 =>
        have z := h2 (j + 1) (Nat.succ_le_succ (Nat.zero_le _)) (Nat.lt_of_succ_lt_succ hj2)
        exact z
    · intro h
      refine ⟨h 1 (Nat.le_refl 1) (by show 1 < (n :: k :: ns).length; simp), fun j hj1 hj2 => ?_⟩
      have z := h (j + 1) (by omega) (Nat.succ_lt_succ hj2)
      match j, hj1 with
      | j + 1, _ => exact z
theorem cells_ints {m : Int} : ∀ {ds : List PyData}, (ds.all fun d => isCellD d m) = true → ∃ ns : List Int, ds = ns.map PyData.int
  | [], _ => ⟨[], rfl⟩
  | d :: ds, h => by
    obtain ⟨h1, h2⟩ := Bool.and_eq_true_iff.mp (show (isCellD d m && ds.all fun d => isCellD d m) = true from h)
    obtain ⟨ns, rfl⟩ := cells_ints h2
    cases d with
    | int i => exact ⟨i :: ns, rfl⟩
    | none => cases h1
    | bool b => cases h1
    | str x => cases h1
    | list x => cases h1
    | tuple x => cases h1
    | dict x => cases h1
theorem dp_ints {K : PySem.W.Frag} {H : Hp} : ∀ {ns : List Int} {xs : List V}, DpAll K H xs (ns.map PyData.int) → xs = ns.map V.int
  | [], _, h => by cases h; rfl
  | n :: ns, _, h => by
    have h' : DpAll K H _ (.int n :: ns.map PyData.int) := h
    cases h' with
    | cons h1 h2 =>
      cases h1
      rw [dp_ints h2]
      rfl
def spIsPage (K : PySem.W.Frag) : Sp := fun vs H Q _ => ∃ (x : V) (d : PyData), vs = [x] ∧ Dp K H x d ∧ SeqAt.shaped d = true ∧ (∀ (m : Int) ds, d = .tuple (.int m :: ds) → m < 1000000000) ∧ (∀ dm rs cs, d = .tuple [dm, .tuple rs] → .tuple cs ∈ rs → cs.length ≤ 1000) ∧ ∀ H', Gro H H' → Q (.bl (isBookD d)) H'
theorem shaped_of_all : ∀ {ds : List PyData}, (∀ d ∈ ds, PyData.canLay0 d = true ∧ PyData.depth d ≤ 63) → PyData.canLayAll0 ds = true ∧ PyData.depthAll ds ≤ 63
  | [], _ => ⟨rfl, Nat.zero_le _⟩
  | d :: ds, h => by
    obtain ⟨h1, h2⟩ := shaped_of_all fun e he => h e (List.mem_cons_of_mem _ he)
    obtain ⟨h3, h4⟩ := h d List.mem_cons_self
    constructor
    · show (PyData.canLay0 d && PyData.canLayAll0 ds) = true
      rw [h3, h1] <;> rfl
    · show max (PyData.depth d) (PyData.depthAll ds) ≤ 63
      omega
theorem shaped_sub {cs bs : List PyData} (h : SeqAt.shaped (.tuple cs) = true) (s : ∀ d ∈ bs, d ∈ cs) : SeqAt.shaped (.list bs) = true := by
  unfold SeqAt.shaped at h
  obtain ⟨h1, h2⟩ := Bool.and_eq_true_iff.mp h
  have h3 : PyData.depthAll cs + 1 ≤ 64 := of_decide_eq_true h2
  obtain ⟨c1, c2⟩ := shaped_of_all fun d hd => shaped_in (n := 63) (show PyData.canLayAll0 cs = true from h1) (by omega) d (s d hd)
  unfold SeqAt.shaped
  show (PyData.canLayAll0 bs && decide (PyData.depthAll bs + 1 ≤ 64)) = true
  rw [c1, decide_eq_true (by omega)] <;> rfl
theorem eqv_nil (bs : List PyData) : PyData.eqv (.list bs) (.list []) = bs.isEmpty := by cases bs <;> rfl
theorem eqv_nilT (bs : List PyData) : PyData.eqv (.tuple bs) (.tuple []) = bs.isEmpty := by cases bs <;> rfl
theorem filt_nil {m : Int} {cs : List PyData} : (cs.filter fun d => !isCellD d m).isEmpty = cs.all fun d => isCellD d m := by
  induction cs with
  | nil => rfl
  | cons d ds ih =>
    rw [List.filter_cons, List.all_cons]
    cases h : isCellD d m with
    | true => exact ih
    | false => rfl
theorem rowOk_tup (m : Int) (cs : List PyData) : rowOk m (.tuple cs) = (!cs.isEmpty && ((cs.all fun d => isCellD d m) && adjUp cs)) := by
  show (!PyData.eqv (.tuple cs) (.tuple []) && ascFrom m 0 cs) = _
  rw [eqv_nilT, asc0]
/-! ### rows given, as lists and tuples of one's own -/
/-- the item v holds the cells c; it is neither the deck nor the list of items -/
def ItemAt (K : PySem.W.Frag) (a G : Addr) (H : Hp) (v : V) (c : List Nat) : Prop := ∃ b : Addr, v = .ref b ∧ b ≠ a ∧ b ≠ G ∧ (H b = some (.lst (intsV c)) ∨ SqT K H b (intsV c))
def Items (K : PySem.W.Frag) (a G : Addr) (H : Hp) (vs : List V) (cs : List (List Nat)) : Prop := vs.length = cs.length ∧ ∀ (i : Nat) (v : V) (c : List Nat), vs[i]? = some v → cs[i]? = some c → ItemAt K a G H v c
theorem ItemAt.off {K : PySem.W.Frag} {a G : Addr} {H H' : Hp} {v : V} {c : List Nat} (h : ItemAt K a G H v c) (o : OffG a H H') (d : DeckAt H a) : ItemAt K a G H' v c := by
  obtain ⟨b, rfl, n1, n2, h | h⟩ := h
  · exact ⟨b, rfl, n1, n2, .inl (o.at n1 h)⟩
  · exact ⟨b, rfl, n1, n2, .inr ((Tup.deck o d).sqt h)⟩
theorem ItemAt.put {K : PySem.W.Frag} {a G : Addr} {H : Hp} {v : V} {c : List Nat} {xs : List V} (h : ItemAt K a G H v c) (e : H G = some (.lst xs)) (ys : List V) : ItemAt K a G (upd H G (.lst ys)) v c := by
  obtain ⟨b, rfl, n1, n2, h | h⟩ := h
  · exact ⟨b, rfl, n1, n2, .inl (by rw [upd_ne n2]; exact h)⟩
  · exact ⟨b, rfl, n1, n2, .inr ((Tup.put ys e).sqt h)⟩
theorem Items.off {K : PySem.W.Frag} {a G : Addr} {H H' : Hp} {vs : List V} {cs : List (List Nat)} (h : Items K a G H vs cs) (o : OffG a H H') (d : DeckAt H a) : Items K a G H' vs cs := ⟨h.1, fun i v c e1 e2 => (h.2 i v c e1 e2).off o d⟩
theorem Items.snoc {K : PySem.W.Frag} {a G : Addr} {H : Hp} {vs : List V} {cs : List (List Nat)} {v : V} {c : List Nat} (h : Items K a G H vs cs) (e : H G = some (.lst vs)) (hv : ItemAt K a G H v c) : Items K a G (upd H G (.lst (vs ++ [v]))) (vs ++ [v]) (cs ++ [c]) := by
  refine ⟨by rw [List.length_append, List.length_append, h.1]; rfl, fun i u d e1 e2 => ?_⟩
  by_cases hi : i < vs.length
  · rw [List.getElem?_append_left hi] at e1
    rw [List.getElem?_append_left (by rw [← h.1]; exact hi)] at e2
    exact (h.2 i u d e1 e2).put e _
  · have l1 := (List.getElem?_eq_some_iff.mp e1).1
    rw [List.length_append] at l1
    have ei : i = vs.length := by
      have : i < vs.length + 1 := l1
      omega
    subst ei
    rw [List.getElem?_append_right (Nat.le_refl _), Nat.sub_self] at e1
    rw [h.1, List.getElem?_append_right (Nat.le_refl _), Nat.sub_self] at e2
    cases e1
    cases e2
    exact hv.put e _
theorem Items.all {K : PySem.W.Frag} {a G : Addr} {H : Hp} {vs : List V} {cs : List (List Nat)} (h : Items K a G H vs cs) : WAll K H vs cs := ⟨h.1, fun i v c e1 e2 => by
  obtain ⟨b, e, _, _, w | w⟩ := h.2 i v c e1 e2
  · exact ⟨b, e, .inl (SqL.of w)⟩
  · exact ⟨b, e, .inr w⟩⟩
/-- data that can be shown: small -/
def Shw (d : PyData) : Prop := d.showable = true ∧ d.hasDict = false ∧ d.depth ≤ 1 ∧ d.leavesShort 1921 = true ∧ d.bulk ≤ 100
theorem shw_all : ∀ {ds : List PyData}, (∀ d ∈ ds, Shw d) → PyData.showableAll ds = true ∧ PyData.hasDictAll ds = false ∧ PyData.depthAll ds ≤ 1 ∧ PyData.leavesShortAll 1921 ds = true ∧ PyData.bulkAll ds ≤ 101 * ds.length
  | [], _ => ⟨rfl, rfl, Nat.zero_le _, rfl, Nat.zero_le _⟩
  | d :: ds, h => by
    obtain ⟨h1, h2, h3, h4, h5⟩ := shw_all fun e he => h e (List.mem_cons_of_mem _ he)
    obtain ⟨k1, k2, k3, k4, k5⟩ := h d List.mem_cons_self
    refine ⟨?_, ?_, ?_, ?_, ?_⟩
    · show (d.showable && PyData.showableAll ds) = true
      rw [k1, h1] <;> rfl
    · show (d.hasDict || PyData.hasDictAll ds) = false
      rw [k2, h2] <;> rfl
    · show max d.depth (PyData.depthAll ds) ≤ 1
      omega
    · show (d.leavesShort 1921 && PyData.leavesShortAll 1921 ds) = true
      rw [k4, h4] <;> rfl
    · show d.bulk + 1 + PyData.bulkAll ds ≤ 101 * (d :: ds).length
      rw [List.length_cons]
      omega
theorem shw_nats {c : List Nat} (hb : ∀ n ∈ c, n < 2 ^ 1000) (hl : c.length ≤ 100) : Shw (.list (natsD c)) ∧ Shw (.tuple (natsD c)) := by
  obtain ⟨h1, h2, h3, h4, h5, _⟩ := ints_show _ (words_show hb (by omega))
  rw [List.length_map] at h5
  have d1 : PyData.depthAll (natsD c) + 1 ≤ 1 := by rw [h3]; exact Nat.le_refl _
  have b1 : PyData.bulkAll (natsD c) ≤ 100 := by rw [h5]; exact hl
  exact ⟨⟨h1, h2, d1, h4, b1⟩, ⟨h1, h2, d1, h4, b1⟩⟩
theorem items_data {K : PySem.W.Frag} {H : Hp} {m : Nat} : ∀ {vs : List V} {cs : List (List Nat)}, WAll K H vs cs → (∀ c ∈ cs, Told m c) → m ≤ 1000 → ∃ ds, DpAll K H vs ds ∧ (∀ d ∈ ds, Shw d) ∧ ds.length = cs.length
  | [], [], _, _, _ => ⟨[], .nil, (fun _ h => absurd h List.not_mem_nil), rfl⟩
  | [], _ :: _, h, _, _ => by cases h.1
  | _ :: _, [], h, _, _ => by cases h.1
  | v :: vs, c :: cs, h, ht, hm => by
    obtain ⟨ds, e1, e2, e3⟩ := items_data (vs := vs) (cs := cs) ⟨Nat.succ.inj h.1, fun i u d q1 q2 => h.2 (i + 1) u d q1 q2⟩ (fun d hd => ht d (List.mem_cons_of_mem _ hd)) hm
    obtain ⟨b, rfl, w⟩ := h.2 0 v c rfl rfl
    have tl := ht c List.mem_cons_self
    have few := tl.few
    obtain ⟨s1, s2⟩ := shw_nats (c := c) (fun n hn => Nat.lt_of_lt_of_le (tl.low n hn) (Nat.le_trans hm (by decide +kernel))) (by omega)
    rcases w with w | w
    · refine ⟨.list (natsD c) :: ds, .cons (dpW c w) e1, fun d hd => ?_, by rw [List.length_cons, e3]; rfl⟩
      rcases List.mem_cons.mp hd with rfl | hd
      · exact s1
      · exact e2 d hd
    · rw [intsV_map] at w
      refine ⟨.tuple (natsD c) :: ds, .cons (.tup w (dpI _)) e1, fun d hd => ?_, by rw [List.length_cons, e3]; rfl⟩
      rcases List.mem_cons.mp hd with rfl | hd
      · exact s2
      · exact e2 d hd
theorem shown_list {ds : List PyData} (h : ∀ d ∈ ds, Shw d) (l : ds.length ≤ 50) : (PyData.list ds).showable = true ∧ (PyData.list ds).hasDict = false ∧ (PyData.list ds).depth < 100 ∧ (PyData.list ds).shown.length ≤ sizeLine := by
  obtain ⟨h1, h2, h3, h4, h5⟩ := shw_all h
  refine ⟨h1, h2, ?_, ?_⟩
  · show PyData.depthAll ds + 1 < 100
    omega
  · have z := PyData.shown_le_bulk 1921 (by decide) (.list ds) h4
    have e : (PyData.list ds).bulk ≤ 101 * ds.length := h5
    have e2 : sizeLine = 16777216 := by decide
    omega
def spMade (K : PySem.W.Frag) (tf : List Str) : Sp := fun vs H Q _ => ∃ (a : Addr) (x : V) (m : Nat) (rows : List (List Nat)), vs = [.ref a, x] ∧ DeckAt H a ∧ Dp K H x (pageD m rows) ∧ Good m rows ∧ m ≤ 41 ∧ rows.length ≤ 41 ∧ (∀ x ∈ tf, GxR.TabG H (tA K x)) ∧
  ∀ H', OffG a H H' → DeckAt H' a → Q (.bl true) H'
theorem mem_insert {c : List Nat} {u x : Nat} (k : Nat) : k ∈ c.take u ++ [x] ++ c.drop u ↔ k ∈ c ∨ k = x := by
  rw [List.mem_append, List.mem_append, List.mem_singleton]
  have e := List.take_append_drop u c
  constructor
  · rintro ((h | h) | h)
    · exact .inl (List.mem_of_mem_take h)
    · exact .inr h
    · exact .inl (List.mem_of_mem_drop h)
  · rintro (h | h)
    · rw [← e, List.mem_append] at h
      rcases h with h | h
      · exact .inl (.inl h)
      · exact .inr h
    · exact .inl (.inr h)
theorem intsV_ins (c : List Nat) (u x : Nat) : (intsV c).take u ++ [V.int (x : Int)] ++ (intsV c).drop u = intsV (c.take u ++ [x] ++ c.drop u) := by
  unfold intsV
  rw [List.map_append, List.map_append, List.map_take, List.map_drop]
  rfl
theorem Items.put {K : PySem.W.Frag} {a G : Addr} {H : Hp} {vs : List V} {cs : List (List Nat)} {xs : List V} (h : Items K a G H vs cs) (e : H G = some (.lst xs)) (ys : List V) : Items K a G (upd H G (.lst ys)) vs cs := ⟨h.1, fun i v c e1 e2 => (h.2 i v c e1 e2).put e ys⟩
theorem rev_at {α : Type} {l : List α} {i : Nat} {x : α} (h : l.reverse[i]? = some x) : i < l.length ∧ l[l.length - 1 - i]? = some x := by
  have hi : i < l.length := by
    have := (List.getElem?_eq_some_iff.mp h).1
    rwa [List.length_reverse] at this
  rw [List.getElem?_reverse hi] at h
  exact ⟨hi, h⟩
theorem WAll.rev {K : PySem.W.Frag} {H : Hp} {vs : List V} {cs : List (List Nat)} (h : WAll K H vs cs) : WAll K H vs.reverse cs.reverse := by
  refine ⟨by rw [List.length_reverse, List.length_reverse, h.1], fun i v c e1 e2 => ?_⟩
  obtain ⟨_, f1⟩ := rev_at e1
  obtain ⟨_, f2⟩ := rev_at e2
  rw [← h.1] at f2
  exact h.2 _ v c f1 f2
theorem RowsOf.rev {m : Nat} {cs rows : List (List Nat)} (h : RowsOf m cs rows) : RowsOf m cs.reverse rows.reverse := by
  refine ⟨by rw [List.length_reverse, List.length_reverse, h.1], fun i c r e1 e2 => ?_⟩
  obtain ⟨_, f1⟩ := rev_at e1
  obtain ⟨_, f2⟩ := rev_at e2
  rw [← h.1] at f2
  exact h.2 _ c r f1 f2
theorem DpAll.snoc {K : PySem.W.Frag} {H : Hp} {xs : List V} {ds : List PyData} {v : V} {d : PyData} (h : DpAll K H xs ds) (hv : Dp K H v d) : DpAll K H (xs ++ [v]) (ds ++ [d]) := DpAll.app (.cons hv .nil) h
theorem DpAll.rev {K : PySem.W.Frag} {H : Hp} : ∀ {xs : List V} {ds : List PyData}, DpAll K H xs ds → DpAll K H xs.reverse ds.reverse
  | _, _, .nil => .nil
  | _, _, .cons h t => by
    rw [List.reverse_cons, List.reverse_cons]
    exact DpAll.snoc (DpAll.rev t) h
/-! ### bent pages -/
theorem cut_ints (row : List Nat) (lo hi : Option Int) : ∃ l : List Nat, cutV (intsV row) lo hi = intsV l ∧ l.length ≤ row.length := by
  refine ⟨(row.drop (HT.sIx (intsV row).length 0 lo)).take (HT.sIx (intsV row).length (intsV row).length hi - HT.sIx (intsV row).length 0 lo), ?_, ?_⟩
  · unfold cutV
    show _ = List.map _ _
    rw [List.map_take, List.map_drop]
    rfl
  · rw [List.length_take, List.length_drop]
    omega
/-- what may stand for a row: small -/
structure OddRow (d : PyData) : Prop where
  lay : PyData.canLay0 d = true
  deep : PyData.depth d ≤ 2
  few : ∀ cs, d = .tuple cs → cs.length ≤ 1000
theorem odd_nats {l : List Nat} (h : l.length ≤ 1000) : OddRow (.tuple (natsD l)) := ⟨canLay_nats l, by show PyData.depthAll (natsD l) + 1 ≤ 2; rw [depth_nats]; decide, fun cs e => by
  cases e
  rw [natsD_len]
  exact h⟩
def spBentRow (K : PySem.W.Frag) : Sp := fun vs H Q _ => ∃ (a : Addr) (m : Nat) (v : V) (row : List Nat), vs = [.ref a, .int (m : Int), v] ∧ DeckAt H a ∧ m ≤ 100 ∧ Dp K H v (rowD row) ∧ 1 ≤ row.length ∧ row.length ≤ 100 ∧
  ∀ H' v' d', OffG a H H' → DeckAt H' a → Dp K H' v' d' → OddRow d' → Q v' H'
theorem lay_app : ∀ {ds es : List PyData}, PyData.canLayAll0 ds = true → PyData.canLayAll0 es = true → PyData.canLayAll0 (ds ++ es) = true
  | [], _, _, h => h
  | d :: ds, es, h1, h2 => by
    obtain ⟨a, b⟩ := Bool.and_eq_true_iff.mp (show (PyData.canLay0 d && PyData.canLayAll0 ds) = true from h1)
    show (PyData.canLay0 d && PyData.canLayAll0 (ds ++ es)) = true
    rw [a, lay_app b h2] <;> rfl
theorem depth_app {n : Nat} : ∀ {ds es : List PyData}, PyData.depthAll ds ≤ n → PyData.depthAll es ≤ n → PyData.depthAll (ds ++ es) ≤ n
  | [], _, _, h => h
  | d :: ds, es, h1, h2 => by
    have h3 : max (PyData.depth d) (PyData.depthAll ds) ≤ n := h1
    have ih := depth_app (ds := ds) (es := es) (n := n) (by omega) h2
    show max (PyData.depth d) (PyData.depthAll (ds ++ es)) ≤ n
    omega
theorem odd_mid {l1 l2 : List Nat} {d : PyData} (h1 : PyData.canLay0 d = true) (h2 : PyData.depth d ≤ 1) (n1 : l1.length ≤ 400) (n2 : l2.length ≤ 400) : OddRow (.tuple (natsD l1 ++ [d] ++ natsD l2)) := by
  refine ⟨lay_app (lay_app (canLay_nats l1) (by show (PyData.canLay0 d && true) = true; rw [h1] <;> rfl)) (canLay_nats l2), ?_, fun cs e => ?_⟩
  · have z : PyData.depthAll (natsD l1 ++ [d] ++ natsD l2) ≤ 1 := depth_app (depth_app (by rw [depth_nats]; decide) (by show max (PyData.depth d) 0 ≤ 1; omega)) (by rw [depth_nats]; decide)
    show PyData.depthAll (natsD l1 ++ [d] ++ natsD l2) + 1 ≤ 2
    omega
  · cases e
    rw [List.length_append, List.length_append, natsD_len, natsD_len]
    show l1.length + 1 + l2.length ≤ 1000
    omega
/-- laid, of depth n at most -/
def Lay (n : Nat) (d : PyData) : Prop := PyData.canLay0 d = true ∧ PyData.depth d ≤ n
theorem lay_all {n : Nat} : ∀ {ds : List PyData}, (∀ d ∈ ds, Lay n d) → PyData.canLayAll0 ds = true ∧ PyData.depthAll ds ≤ n
  | [], _ => ⟨rfl, Nat.zero_le _⟩
  | d :: ds, h => by
    obtain ⟨h1, h2⟩ := lay_all fun e he => h e (List.mem_cons_of_mem _ he)
    obtain ⟨h3, h4⟩ := h d List.mem_cons_self
    constructor
    · show (PyData.canLay0 d && PyData.canLayAll0 ds) = true
      rw [h3, h1] <;> rfl
    · show max (PyData.depth d) (PyData.depthAll ds) ≤ n
      omega
theorem lay_t {n : Nat} {ds : List PyData} (h : ∀ d ∈ ds, Lay n d) : Lay (n + 1) (.tuple ds) := ⟨(lay_all h).1, Nat.succ_le_succ (lay_all h).2⟩
theorem lay_l {n : Nat} {ds : List PyData} (h : ∀ d ∈ ds, Lay n d) : Lay (n + 1) (.list ds) := ⟨(lay_all h).1, Nat.succ_le_succ (lay_all h).2⟩
theorem Lay.up {n k : Nat} {d : PyData} (h : Lay n d) (l : n ≤ k) : Lay k d := ⟨h.1, Nat.le_trans h.2 l⟩
theorem lay_row (r : List Nat) : Lay 1 (rowD r) := ⟨canLay_nats r, by show PyData.depthAll (natsD r) + 1 ≤ 1; rw [depth_nats]; exact Nat.le_refl _⟩
theorem lay_rows (rows : List (List Nat)) : Lay 2 (.tuple (rows.map rowD)) := lay_t fun d hd => by
  obtain ⟨r, _, rfl⟩ := List.mem_map.mp hd
  exact lay_row r
theorem lay_int (i : Int) : Lay 0 (.int i) := ⟨rfl, Nat.le_refl _⟩
/-- what is judged -/
structure Bent (d : PyData) : Prop where
  lay : Lay 10 d
  low : ∀ (m : Int) ds, d = .tuple (.int m :: ds) → m < 1000000000
  few : ∀ dm rs cs, d = .tuple [dm, .tuple rs] → .tuple cs ∈ rs → cs.length ≤ 1000
theorem Bent.shaped {d : PyData} (h : Bent d) : SeqAt.shaped d = true := by
  unfold SeqAt.shaped
  rw [h.lay.1, decide_eq_true (Nat.le_trans h.lay.2 (by decide))] <;> rfl
def spBent (K : PySem.W.Frag) : Sp := fun vs H Q _ => ∃ (a : Addr) (x : V) (m : Nat) (rows : List (List Nat)), vs = [.ref a, x] ∧ DeckAt H a ∧ Dp K H x (pageD m rows) ∧ Good m rows ∧ m ≤ 100 ∧ rows.length ≤ 41 ∧
  ∀ H' v d, OffG a H H' → DeckAt H' a → Dp K H' v d → Bent d → Q v H'
theorem cut_rows {K : PySem.W.Frag} {H : Hp} {xs : List V} {rows : List (List Nat)} (h : DpAll K H xs (rows.map rowD)) (lo hi : Option Int) : ∃ rows' : List (List Nat), DpAll K H (cutV xs lo hi) (rows'.map rowD) ∧ (∀ r ∈ rows', r ∈ rows) ∧ rows'.length ≤ rows.length := by
  refine ⟨(rows.drop (HT.sIx xs.length 0 lo)).take (HT.sIx xs.length xs.length hi - HT.sIx xs.length 0 lo), ?_, fun r hr => List.mem_of_mem_drop (List.mem_of_mem_take hr), ?_⟩
  · rw [List.map_take, List.map_drop]
    exact DpAll.take _ (DpAll.drop _ h)
  · rw [List.length_take, List.length_drop]
    omega
end Ky
/-! ### enumerate(t) of a tuple -/
namespace Ky
open PySem PySem.Spec PyProof.Rows L2
/-- the cell of an enumeration that was just made, its iterator at it -/
abbrev enObj (it : Addr) : Obj := { cls := .type "enumerate", data := .fields #[.none, .bool false, .ref it, rawInt 0, .none, .none] }
theorem meets_enT {v : Value} {o : Obj} {Hh : Heap → Prop} (B : Begins v o Hh) :
    Meets (Builtin.«enumerate.__new__» ⟨[.type "enumerate", v], []⟩) (fun _ R s => Hh s.heap ∧ R (.ok (.ret (.ref (s.heap.push o).objs.size))) { s with heap := (s.heap.push o).push (enObj s.heap.objs.size) }) :=
  .of_wp fun prog w A R s h => by
    obtain ⟨hp, g, d, tk, os⟩ := s
    obtain ⟨b1, h⟩ := h
    have sub := sub_enumerate
    have st1 : ∀ {A' : Around} {E' Q' : Value → Shared → Prop}, Q' (.ref hp.objs.size) ⟨hp.push o, g, d, tk, os⟩ → wpAny (model prog w) A' (pyIter v) Q' E' ⟨hp, g, d, tk, os⟩ := fun q => B.iter prog w _ _ ⟨hp, g, d, tk, os⟩ _ b1 q
    wp_walk using st1
    refine wpAny_stack_any fun st => wpAny_pure ?_
    split
    · rename_i c _ _ _ _ _
      cases (c == Value.type "enumerate") <;> (wp_walk using st1; exact ⟨_, rfl, h⟩)
    · wp_walk using st1
      exact ⟨_, rfl, h⟩
theorem call_enT {prog : Program} {w : World} {A : Around} {E : Value → Shared → Prop} {s : Shared} {t : Addr} {items : Array Value} {Q : Value → Shared → Prop} (ht : s.heap.IsTuple t items)
    (h : ∀ h', IsEnum h' (s.heap.objs.size + 1) s.heap.objs.size 0 .none → h'.IsTupleIter s.heap.objs.size t 0 → (∀ b o, s.heap.get? b = some o → h'.get? b = some o) → Q (.ref (s.heap.objs.size + 1)) { s with heap := h' }) :
    wpAny (model prog w) A (call (.type "enumerate") [.ref t]) Q E s := by
  refine callType_new F.called_enumerate (by decide) (F.typeCall_enumerate_1 _) (F.newCall_enumerate_1 _) (fun obj => F.args_object_init_2 obj _) F.entry_enumerate_new (meets_enT (begins_tuple t items)) ⟨ht, ?_⟩
  have two : (s.heap.push { cls := .type "tuple_iterator", data := .fields #[.ref t, .int 0 0] }).objs.size = s.heap.objs.size + 1 := Heap.size_push ..
  show _ ∧ _
  rw [two]
  have en : ((s.heap.push { cls := .type "tuple_iterator", data := .fields #[.ref t, .int 0 0] }).push (enObj s.heap.objs.size)).get? (s.heap.objs.size + 1) = some (enObj s.heap.objs.size) := by
    have z := Heap.get?_push_size (s.heap.push { cls := .type "tuple_iterator", data := .fields #[.ref t, .int 0 0] }) (o := enObj s.heap.objs.size) rfl
    rw [two] at z
    exact z
  exact ⟨⟨_, en, rfl⟩, h _ en ⟨_, Heap.get?_push_of_some _ (Heap.get?_push_size _ rfl), rfl, rfl⟩ fun b o x => Heap.get?_push_of_some _ (Heap.get?_push_of_some _ x)⟩
theorem enT_end {prog : Program} {w : World} {A : Around} {E : Value → Shared → Prop} {s : Shared} {e it t : Addr} {i : Nat} {c : Int} {old : Value} {items : Array Value} {Q : Option Value → Shared → Prop} (hh : A.handled = none) (he : IsEnum s.heap e it c old)
    (hit : s.heap.IsTupleIter it t i) (ht : s.heap.IsTuple t items) (hx : items[i]? = none) (hQ : ∀ h', Heap.ExtBut it s.heap h' → Q none { s with heap := h' }) : wpAny (model prog w) A (pyNext (.ref e)) Q E s := by
  have ty : s.TypeIs (.ref e) "enumerate" := ⟨_, he, rfl⟩
  unfold pyNext
  refine wpAny_bind (wpAny_attempt (wpAny_callSpecial?_slot (name := Str.ofString "__next__") ty F.slot_enumerate_next (wpAny_call_entry F.slot_enumerate_next ty F.entry_enumerate_next ?_ (F.args_enumerate_next_1 _))))
  show wpAny _ _ (field (.ref e) 2 >>= _) _ _ _
  refine wpAny_bind (wpAny_field he rfl (x := .ref it) rfl (wpAny_bind (wpAny_nextOf_tuple_end hh hit ht hx fun h' x eb so => ?_)))
  obtain ⟨o, ho, hc⟩ := so
  exact wpAny_bind (wpAny_isInstance (T := "StopIteration") (b := true) ⟨o, ho, hc⟩ isSubtype_stop (wpAny_pure (hQ _ eb)))
/-- the tuple at a, each item in a new pair -/
def IteT (K : PySem.W.Frag) (a : Addr) : It :=
  ⟨fun i H => ∃ (xs : List V) (x : V), SqT K H a xs ∧ xs[i]? = some x,
   fun i H v H' => ∃ T x, v = .ref T ∧ H T = none ∧ H' = upd H T (.tup [.int (i : Nat), x]) ∧ ∀ xs, SqT K H a xs → xs[i]? = some x,
   fun i H => ∃ xs : List V, SqT K H a xs ∧ xs.length ≤ i⟩
theorem turn_enumT {P : Program} {w : World} {K : PySem.W.Frag} {elts : List Expr} {kk : Nat} {tpos : Pos} (a e it : Addr) :
    Turn P w K (.Tuple elts kk tpos) (IteT K a) [e, it] e (fun i h => (∃ old, IsEnum h e it ((i : Nat) : Int) old) ∧ h.IsTupleIter it a i ∧ e ≠ it ∧ a ≠ it ∧ e ≠ a) where
  mem := List.mem_cons_self
  obj := fun i h st b hb => by
    obtain ⟨⟨old, he⟩, ⟨o, ho, _, hd⟩, _⟩ := st
    rcases List.mem_cons.mp hb with z | z
    · rw [z]
      exact ⟨_, he, fun v q => nomatch q⟩
    · rw [List.mem_singleton.mp z]
      exact ⟨o, ho, fun v q => by rw [hd] at q; cases q⟩
  keep := fun i h h' st k => by
    obtain ⟨⟨old, he⟩, hi, n1, n2, n3⟩ := st
    exact ⟨⟨old, k e List.mem_cons_self _ he⟩, hi.at fun o q => k it (List.mem_cons_of_mem _ List.mem_cons_self) o q, n1, n2, n3⟩
  item := by
    intro X hP hw hK hc i pins s σ H E I hf st hg
    subst hP hw hK
    obtain ⟨⟨old, he⟩, hit, n1, n2, n3⟩ := st
    obtain ⟨xs, x, hq, hx⟩ := hg
    obtain ⟨its, rv, p, hz⟩ := I.tuple hq
    obtain ⟨u, hu, ru⟩ := rv.get hx
    have le : e < s.heap.objs.size := Heap.lt_size he
    have li : it < s.heap.objs.size := by
      obtain ⟨_, q, _⟩ := hit
      exact Heap.lt_size q
    have hi : i < its.toArray.size := by
      have := (List.getElem?_eq_some_iff.mp hu).1
      simpa using this
    have D := Draws.tuple (prog := X.prog) (w := X.w) (A := X.A.in1) (I.ok.hd hc) it a n2 its.toArray
    refine wpAny_pyNext_enum_itemC D he ⟨hit, p⟩ hi n1 (by simp [n1, n3]) fun y h' tk hy ho hs hT hsz hk => ?_
    have ey : y = u := by
      have z : its.toArray[i]? = some u := by simpa using hu
      exact Option.some.inj (hy.symm.trans z)
    subst ey
    refine ⟨_, rfl, wpAny_letOwnedTupleGo_enum (s := { s with heap := h', toks := tk + 1 }) ho fun h2 he2 sb => ?_⟩
    have hT2 : h2.get? s.heap.objs.size = some { cls := .type "tuple", data := .seq #[.int i tk, y] } := (sb.2 _ (Nat.ne_of_gt le)).trans hT
    have new : ObjOk X.prog X.w (upd H s.heap.objs.size (.tup [.int (i : Nat), x])) h2 s.heap.objs.size (.tup [.int (i : Nat), x]) :=
      ⟨by show 2 ≤ sizeLine; decide, [.int i tk, y], .cons ⟨_, rfl⟩ (.cons ru .nil), ⟨_, hT2, rfl, _, rfl⟩⟩
    have I1 : Inv X pins σ (upd H s.heap.objs.size (.tup [.int (i : Nat), x])) { s with heap := h2, toks := tk + 1 } :=
      I.turnedNew (ch := [e, it]) (fun b ob hb q => (sb.2 b (fun z => hb (by simp [z]))).trans (hk b ob (fun z => hb (by simp [z])) (fun z => hb (by simp [z])) q)) hf (Nat.le_refl _) new
    refine ⟨.ref s.heap.objs.size, _, I1, rfl, ⟨_, x, rfl, I.hok.fresh (Nat.le_refl _), rfl, fun ys hy => by rw [I.tuple_inj hy hq]; exact hx⟩, ⟨⟨y, ?_⟩, hs.1.at fun o q => (sb.2 it (Ne.symm n1)).trans q, n1, n2, n3⟩, fun b hb => ?_⟩
    · have e1 : ((i + 1 : Nat) : Int) = (i : Int) + 1 := by omega
      rw [e1]
      exact he2
    · have lb : b < s.heap.objs.size := by
        rcases List.mem_cons.mp hb with z | z
        · rw [z]; exact le
        · rw [List.mem_singleton.mp z]; exact li
      rw [upd_ne (Nat.ne_of_lt lb)]
      exact (hf b hb).1
  done := by
    intro X hP hw hK hc i pins s σ H E I hf st hg
    subst hP hw hK
    obtain ⟨⟨old, he⟩, hit, n1, n2, n3⟩ := st
    obtain ⟨xs, hq, hx⟩ := hg
    obtain ⟨its, rv, p, hz⟩ := I.tuple hq
    obtain ⟨f0, f1, f2, f3, f4, f5⟩ := hf it (by simp)
    have hl := rv.length
    exact enT_end (I.ok.hd hc) he hit p (by simp; omega) fun h' eb => ⟨rfl, I.turned (t' := s.toks) (fun b o hb q => eb b o hb q) f0 f1 f3 f4 f5⟩
  self := fun A i s Q E st h => by
    obtain ⟨⟨_, he⟩, _⟩ := st
    exact wpAny_pyIter_enum he h
def iEnumT (K : PySem.W.Frag) (ta : TA) : TI := fun σ H R => ta σ H fun vs H1 => ∃ a xs, vs = [.ref a] ∧ SqT K H1 a xs ∧ R (IteT K a) H1
theorem pi_enumT {X : Cx} {e : Expr} {ta : TA} {p pos tpos : Pos} {elts : List Expr} {kk : Nat} (hg : Gl X "enumerate") (hm : X.mg "enumerate" = none) (ha : PA X [e] ta) (hs : starEach [e] X.env = [(false, eval e X.env)] := by rfl) :
    PI X (.Tuple elts kk tpos) (.Call (.Name "enumerate" p) [e] [] pos) (iEnumT X.K ta) := by
  refine ⟨fun pins s σ H R I h => Call_ (ld_blt I hg hm boot_enumerate (PyProof.Rows.callWith_type1 (thn (ha.run pos pins s σ H _ I h) fun us s1 ⟨vs, H1, I1, r1, q1⟩ => ?_) hs rfl))⟩
  obtain ⟨a, xs, ex, hq, q⟩ := q1
  subst ex
  cases r1 with
  | cons r rr =>
    cases rr
    cases r
    obtain ⟨its, rv, pt, hz⟩ := I1.tuple hq
    have la : a < s1.heap.objs.size := by
      obtain ⟨_, z, _⟩ := pt
      exact Heap.lt_size z
    refine call_enT pt fun h' he hit hk => wpAny_pyIter_enum he ?_
    refine ⟨s1.heap.objs.size + 1, [s1.heap.objs.size + 1, s1.heap.objs.size], _, _, H1, rfl, I1.kept (t' := s1.toks) hk, turn_enumT a (s1.heap.objs.size + 1) s1.heap.objs.size, ⟨⟨.none, he⟩, hit, Nat.succ_ne_self _, Nat.ne_of_lt la, Nat.ne_of_gt (Nat.lt_succ_of_lt la)⟩, fun b hb => ?_, q⟩
    have hle : s1.heap.objs.size ≤ b := by
      rcases List.mem_cons.mp hb with z | z
      · rw [z]; exact Nat.le_add_right _ _
      · rw [List.mem_singleton.mp z]; exact Nat.le_refl _
    exact I1.fpOk hle (I1.hok.fresh hle)
theorem walk_enumT {K : PySem.W.Frag} {a : Addr} {xs : List V} : Walk (IteT K a) xs.length (fun H => SqT K H a xs) (YPair (fun i => some (.int (i : Nat))) (fun i => xs[i]?)) := by
  refine ⟨fun i _ hi q => ⟨xs, xs[i], q, by simp [hi]⟩, fun _ q => ⟨xs, q, Nat.le_refl _⟩, fun i H v H' _ q y => ?_⟩
  obtain ⟨T, x, r1, r2, r3, r4⟩ := y
  exact ⟨T, .int (i : Nat), x, r1, r2, r3, rfl, r4 xs q⟩
end Ky
/-! ### sets of ints written as comprehensions: {e for x in xs}, {e for x in xs for y in ys} -/
namespace Ky
open PySem PySem.Spec PyProof.Rows L2
section
variable {Y : Cx}
/-- set.add of an int, as a call -/
theorem into_set {ps : List (Addr × Obj)} {σ : L2.St} {H : Hp} {s : Shared} {E : Value → Shared → Prop} {D : Addr} {S : Int → Bool} {n : Nat} {k : Int} {tk : Tok} {Z : Value → Shared → Prop} (inv : Inv Y ps σ H s) (has : H D = some (SetO Y.w D S n)) (room : n + 1 < scanBound)
    (after : ∀ st, Inv Y ps σ (upd H D (SetO Y.w D (fun j => S j || decide (j = k)) (if S k = true then n else n + 1))) st → Z .none st) :
    wpAny (model Y.prog Y.w) Y.A (call (.builtin "set.add") [.ref D, .int k tk]) Z E s := by
  refine setR_add (setO_get inv has) room fun hp kept now => after _ ?_
  obtain ⟨o, _, _, _, there, _⟩ := id now
  exact inv.write (e := D) (t' := s.toks + 1) (by rw [has]; trivial) (.inl rfl) (fun b u z q => (kept.2 b z).trans q) ⟨o, there⟩ (setO_new now)
/-- one turn of a clause: the iterator's next, the store, what follows -/
theorem clause_turn {tg : Expr} {g : TG} {J : It} {fp : List Addr} {it : Addr} {tn : Nat → Heap → Prop} {ps : List (Addr × Obj)} {σ : L2.St} {H : Hp} {s : Shared} {i : Nat} {E : Value → Shared → Prop} {None_ : Shared → Prop} {More : Shared → Prop}
    (T : Turn Y.prog Y.w Y.K tg J fp it tn) (calm : Y.calm = true) (tgt : PG Y tg g) (xf : Y.xe = fun _ _ => False) (inv : Inv Y ps σ H s) (fine : ∀ b ∈ fp, FpOk Y ps H b) (at_ : tn i s.heap)
    (way : (J.stop i H ∧ ∀ st, Inv Y ps σ H st → None_ st) ∨
      (J.go i H ∧ ∀ x H2, J.yld i H x H2 → ∃ Z : L2.St → Hp → Prop, g x σ H2 Z ∧ ∀ (τ : L2.St) (H3 : Hp) (sa sb : Shared), Z τ H3 → tn (i + 1) sa.heap → Inv Y (ps ++ pinsAt fp sa.heap) τ H3 sb → More sb)) :
    wpAny (model Y.prog Y.w) Y.A (pyNext (.ref it)) (fun r st => match r with
      | none => None_ st
      | some u => wpAny (model Y.prog Y.w) Y.A (letOwnedTupleGo tg (.ref it) u) (fun _ st2 => wpAny (model Y.prog Y.w) Y.A (assign tg Y.env u) (fun _ st3 => More st3) E st2) E st) E s := by
  rcases way with ⟨stop, fin⟩ | ⟨go, on⟩
  · refine thnF (T.done Y rfl rfl rfl calm i ps s σ H _ inv fine at_ stop) fun r st ⟨e, inv2⟩ => ?_
    subst e
    exact fin st inv2
  · refine thnF (T.item Y rfl rfl rfl calm i ps s σ H _ inv fine at_ go) fun r st ⟨u, e, rest⟩ => ?_
    subst e
    refine thnF rest fun _ sa ⟨x, H2, inv2, rel, y, at2, none2⟩ => ?_
    have fine2 : ∀ b ∈ fp, FpOk Y ps H2 b := fun b hb => ⟨none2 b hb, (fine b hb).2⟩
    obtain ⟨Z, stored, more⟩ := on x H2 y
    have z := tgt.run _ sa σ H2 x u Z (inv2.pinned fine2 (T.obj _ _ at2)) rel stored
    rw [xf] at z
    refine thnF z fun _ sb ⟨τ, H3, inv3, got⟩ => ?_
    exact more τ H3 sa sb got at2 inv3
/-- .. and back to the clause's start -/
theorem clause_back {tg : Expr} {J : It} {fp : List Addr} {it : Addr} {tn : Nat → Heap → Prop} {ps : List (Addr × Obj)} {σ τ : L2.St} {H : Hp} {sa sb : Shared} {i : Nat} (T : Turn Y.prog Y.w Y.K tg J fp it tn) (at_ : tn i sa.heap) (inv : Inv Y (ps ++ pinsAt fp sa.heap) τ H sb)
    (len : σ.length = τ.length) (knew : ∀ (j : Nat) v, σ[j]? = some (some v) → τ[j]? = some (some v)) : Inv Y ps σ H sb ∧ tn i sb.heap ∧ ∀ b ∈ fp, H b = none := by
  have held : ∀ b ∈ fp, ∀ o, sa.heap.get? b = some o → sb.heap.get? b = some o ∧ H b = none := fun b hb o e => by
    obtain ⟨z1, z2, _⟩ := inv.pin (b, o) (List.mem_append_right _ (List.mem_append_right _ (mem_pinsAt hb e)))
    exact ⟨z1, z2⟩
  refine ⟨inv.unpinned.weak len knew, T.keep _ _ _ at_ fun b hb o e => (held b hb o e).1, fun b hb => ?_⟩
  obtain ⟨o, e, _⟩ := T.obj _ _ at_ b hb
  exact (held b hb o e).2
end
/-- what a set comprehension of one clause asks; vs: its own names -/
def tSet1 (w : World) (wi : TI) (g : TG) (te : TE) (vs : List Nat) : TE := fun σ H Q => wi σ H fun J H1 => ∀ D, H1 D = none → ∃ W : Nat → Nat → Hp → Prop, (∃ m, W 0 m (upd H1 D (SetO w D (fun _ => false) 0))) ∧ ∀ i m H2, W i m H2 →
  (J.stop i H2 ∧ Q (.ref D) H2) ∨ (J.go i H2 ∧ ∃ N : Hp → Prop, (∀ H3, N H3 → ∃ m2, m2 < m ∧ W (i + 1) m2 H3) ∧ ∀ x H3, J.yld i H2 x H3 → g x (wipe σ vs) H3 fun τ H4 => wipe τ vs = wipe σ vs ∧
    te τ H4 fun y H5 => ∃ (k : Int) (S : Int → Bool) (n : Nat), y = .int k ∧ H5 D = some (SetO w D S n) ∧ n + 1 < scanBound ∧ N (upd H5 D (SetO w D (fun j => S j || decide (j = k)) (if S k = true then n else n + 1))))
/-- .. of two clauses; us: the second one's -/
def tSet2 (w : World) (wi : TI) (g : TG) (wj : TI) (f : TG) (te : TE) (vs us : List Nat) : TE := fun σ H Q => wi σ H fun J H1 => ∀ D, H1 D = none → ∃ W : Nat → Nat → Hp → Prop, (∃ m, W 0 m (upd H1 D (SetO w D (fun _ => false) 0))) ∧ ∀ i m H2, W i m H2 →
  (J.stop i H2 ∧ Q (.ref D) H2) ∨ (J.go i H2 ∧ ∃ N : Hp → Prop, (∀ H3, N H3 → ∃ m2, m2 < m ∧ W (i + 1) m2 H3) ∧ ∀ x H3, J.yld i H2 x H3 → g x (wipe σ vs) H3 fun τ H4 => wipe τ vs = wipe σ vs ∧
    wj τ H4 fun L H5 => ∃ V : Nat → Nat → Hp → Prop, (∃ m, V 0 m H5) ∧ ∀ j k H6, V j k H6 →
      (L.stop j H6 ∧ N H6) ∨ (L.go j H6 ∧ ∃ M : Hp → Prop, (∀ H7, M H7 → ∃ k2, k2 < k ∧ V (j + 1) k2 H7) ∧ ∀ y H7, L.yld j H6 y H7 → f y (wipe τ us) H7 fun ρ H8 => wipe ρ us = wipe τ us ∧
        te ρ H8 fun z H9 => ∃ (k : Int) (S : Int → Bool) (n : Nat), z = .int k ∧ H9 D = some (SetO w D S n) ∧ n + 1 < scanBound ∧ M (upd H9 D (SetO w D (fun j => S j || decide (j = k)) (if S k = true then n else n + 1)))))
section
variable {prog : Program} {w : World} {A : Around} {R : Result → Shared → Prop} {s : Shared} {elt p0 q0 p1 q1 : Expr} {scope : Scope} {pos : Pos} {it acc : Value} {env : Env}
/-- the two clauses' turns as they are written out -/
theorem turn_first (as bs : List Expr) : compTurn (.SetComp elt [⟨p0, q0, as, 0⟩, ⟨p1, q1, bs, 0⟩] scope pos) 0 it acc env = (do
      standAt q0.pos
      match ← pyNext it with
      | none => pure (.done .next)
      | some u =>
        letOwnedTupleGo p0 it u
        assign p0 env u
        let mut yes := true
        for a in as do
          if yes then yes ← isTrue a env (eval a env)
        if yes then
          let src ← eval q1 env
          standAt q1.pos
          let src ← foldedSetIterable q1 env src
          let _ ← runOwn (.compStart (.SetComp elt [⟨p0, q0, as, 0⟩, ⟨p1, q1, bs, 0⟩] scope pos) 1 (← holding [src] (pyIter src)) acc env) env
        again (.compLoop (.SetComp elt [⟨p0, q0, as, 0⟩, ⟨p1, q1, bs, 0⟩] scope pos) 0 it acc env)) := by rfl
theorem turn_second (as bs : List Expr) : compTurn (.SetComp elt [⟨p0, q0, as, 0⟩, ⟨p1, q1, bs, 0⟩] scope pos) 1 it acc env = (do
      standAt q1.pos
      match ← pyNext it with
      | none => pure (.done .next)
      | some u =>
        letOwnedTupleGo p1 it u
        assign p1 env u
        let mut yes := true
        for b in bs do
          if yes then yes ← isTrue b env (eval b env)
        if yes then
          (do let y ← eval elt env; standAt elt.pos; let _ ← call (.builtin "set.add") [acc, y])
        again (.compLoop (.SetComp elt [⟨p0, q0, as, 0⟩, ⟨p1, q1, bs, 0⟩] scope pos) 1 it acc env)) := by rfl
/-- the first clause's loop: a number falls with each turn -/
theorem first_loop (same : ∀ x, foldedSetIterable q1 env x = pure x) (I : Nat → Shared → Prop)
    (each : ∀ (n : Nat) (st : Shared) (E : Value → Shared → Prop), I n st → wpAny (model prog w) A (pyNext it) (fun r s1 => match r with
      | none => R (.ok .next) s1
      | some u => wpAny (model prog w) A (letOwnedTupleGo p0 it u) (fun _ s2 => wpAny (model prog w) A (assign p0 env u) (fun _ s3 =>
          wpAny (model prog w) A (eval q1 env) (fun x s4 => wpAny (model prog w) A (pyIter x) (fun src s5 =>
            codeAny (model prog w) A (.compStart (.SetComp elt [⟨p0, q0, [], 0⟩, ⟨p1, q1, [], 0⟩] scope pos) 1 src acc env) (fun out s6 => match out with
              | .error _ => False
              | .ok _ => ∃ m, m < n ∧ I m s6) s5) E s4) E s3) E s2) E s1) E st)
    (n : Nat) (st : Shared) (now : I n st) : codeAny (model prog w) A (.compLoop (.SetComp elt [⟨p0, q0, [], 0⟩, ⟨p1, q1, [], 0⟩] scope pos) 0 it acc env) R st := by
  refine codeAny_loop rfl I (fun k st hI => ?_) n now
  show wpAny _ A (Sem.onRaise (compTurn _ 0 it acc env) (fun x => do noteFrame x env; theTreesLotGoes x)) _ _ st
  refine wpAny_noted ?_
  rw [turn_first]
  refine wpAny_bind (wpAny_standAt (wpAny_bind (thn (each k st _ hI) fun r s1 h1 => ?_)))
  cases r with
  | none => exact wpAny_pure h1
  | some u =>
    refine wpAny_bind (thn h1 fun _ s2 h2 => wpAny_bind (thn h2 fun _ s3 h3 => wpAny_bind (wpAny_pure ?_)))
    refine wpAny_bind (thn h3 fun x s4 h4 => ?_)
    refine wpAny_bind (wpAny_standAt (wpAny_bind (wpAny_of_eq (same x) (wpAny_bind (wpAny_holding (thn h4 fun src s5 h5 => ?_))))))
    refine wpAny_bind (wpAny_runOwn ?_)
    rw [Around.mark_none]
    refine codeAny_mono h5 fun out s6 h6 => ?_
    cases out with
    | error e => exact h6.elim
    | ok f =>
      first
        | exact wpAny_bind (wpAny_pure (wpAny_pure ⟨rfl, h6⟩))
        | exact wpAny_pure ⟨rfl, h6⟩
/-- the second one's -/
theorem second_loop (I : Nat → Shared → Prop)
    (each : ∀ (n : Nat) (st : Shared) (E : Value → Shared → Prop), I n st → wpAny (model prog w) A (pyNext it) (fun r s1 => match r with
      | none => R (.ok .next) s1
      | some u => wpAny (model prog w) A (letOwnedTupleGo p1 it u) (fun _ s2 => wpAny (model prog w) A (assign p1 env u) (fun _ s3 =>
          wpAny (model prog w) A (eval elt env) (fun y s4 => wpAny (model prog w) A (call (.builtin "set.add") [acc, y]) (fun _ s5 => ∃ m, m < n ∧ I m s5) E s4) E s3) E s2) E s1) E st)
    (n : Nat) (st : Shared) (now : I n st) : codeAny (model prog w) A (.compLoop (.SetComp elt [⟨p0, q0, [], 0⟩, ⟨p1, q1, [], 0⟩] scope pos) 1 it acc env) R st := by
  refine codeAny_loop rfl I (fun k st hI => ?_) n now
  show wpAny _ A (Sem.onRaise (compTurn _ 1 it acc env) (fun x => do noteFrame x env; theTreesLotGoes x)) _ _ st
  refine wpAny_noted ?_
  rw [turn_second]
  refine wpAny_bind (wpAny_standAt (wpAny_bind (thn (each k st _ hI) fun r s1 h1 => ?_)))
  cases r with
  | none => exact wpAny_pure h1
  | some u =>
    refine wpAny_bind (thn h1 fun _ s2 h2 => wpAny_bind (thn h2 fun _ s3 h3 => wpAny_bind (wpAny_pure ?_)))
    exact wpAny_bind (wpAny_bind (thn h3 fun y s4 h4 => wpAny_bind (wpAny_standAt (wpAny_bind (thn h4 fun _ s5 h5 => wpAny_pure (wpAny_pure ⟨rfl, h5⟩))))))
/-- one clause's -/
theorem only_loop (I : Nat → Shared → Prop)
    (each : ∀ (n : Nat) (st : Shared) (E : Value → Shared → Prop), I n st → wpAny (model prog w) A (pyNext it) (fun r s1 => match r with
      | none => R (.ok .next) s1
      | some u => wpAny (model prog w) A (letOwnedTupleGo p0 it u) (fun _ s2 => wpAny (model prog w) A (assign p0 env u) (fun _ s3 =>
          wpAny (model prog w) A (eval elt env) (fun y s4 => wpAny (model prog w) A (call (.builtin "set.add") [acc, y]) (fun _ s5 => ∃ m, m < n ∧ I m s5) E s4) E s3) E s2) E s1) E st)
    (n : Nat) (st : Shared) (now : I n st) : codeAny (model prog w) A (.compLoop (.SetComp elt [⟨p0, q0, [], 0⟩] scope pos) 0 it acc env) R st := by
  refine codeAny_loop rfl I (fun k st hI => ?_) n now
  show wpAny _ A (Sem.onRaise (compTurn _ 0 it acc env) (fun x => do noteFrame x env; theTreesLotGoes x)) _ _ st
  refine wpAny_noted ?_
  rw [PpSet.compTurn_set]
  refine wpAny_bind (wpAny_standAt (wpAny_bind (thn (each k st _ hI) fun r s1 h1 => ?_)))
  cases r with
  | none => exact wpAny_pure h1
  | some u =>
    refine wpAny_bind (thn h1 fun _ s2 h2 => wpAny_bind (thn h2 fun _ s3 h3 => wpAny_bind (wpAny_pure ?_)))
    exact wpAny_bind (wpAny_bind (thn h3 fun y s4 h4 => wpAny_bind (wpAny_standAt (wpAny_bind (thn h4 fun _ s5 h5 => wpAny_pure (wpAny_pure ⟨rfl, h5⟩))))))
/-- where the second clause starts -/
theorem second_start {src : Value} (ready : ∀ E, wpAny (model prog w) A (pyIter src) (fun i2 st => codeAny (model prog w) A (.compLoop (.SetComp elt [⟨p0, q0, [], 0⟩, ⟨p1, q1, [], 0⟩] scope pos) 1 i2 acc env) R st) E s)
    (ready0 : codeAny (model prog w) A (.compLoop (.SetComp elt [⟨p0, q0, [], 0⟩, ⟨p1, q1, [], 0⟩] scope pos) 1 src acc env) R s) :
    codeAny (model prog w) A (.compStart (.SetComp elt [⟨p0, q0, [], 0⟩, ⟨p1, q1, [], 0⟩] scope pos) 1 src acc env) R s := by
  refine codeAny_of_tree ?_
  show wpAny _ _ (Sem.onRaise (compStart _ 1 src acc env) (fun x => do noteFrame x env; standAt theWindowsPlace)) _ _ s
  refine wpAny_notedAt ?_
  unfold compStart
  refine wpAny_bind (wpAny_askSetting (wpAny_ite ?_))
  split
  · first
      | exact wpAny_pure ⟨rfl, ready0⟩
      | exact wpAny_bind (wpAny_pure (wpAny_pure ⟨rfl, ready0⟩))
  · first
      | exact wpAny_bind (wpAny_rule (wpAny_bind (wpAny_standAt (wpAny_bind (thn (ready _) fun _ _ z => wpAny_pure ⟨rfl, z⟩)))))
      | (refine wpAny_bind (wpAny_rule ?_)
         exact wpAny_bind (wpAny_standAt (wpAny_bind (thn (ready _) fun _ _ z => wpAny_pure ⟨rfl, z⟩))))
end
section
variable {X : Cx} {ps : List (Addr × Obj)} {s : Shared} {σ : L2.St} {H : Hp} {Q : VK} {elt tg src : Expr} {rest : List Comprehension} {scope : Scope} {own : List (PySem.Str × Nat)} {pos pos' : Pos} {wi : TI}
/-- the block of a set comprehension, from its first iterator on -/
theorem set_block {G : It → Hp → Prop} (calm : X.calm = true) (nodup : X.N.Nodup) (inv : Inv X ps σ H s) (first : PI X tg src wi) (ok : BlkOk X.N X.env.scope scope own) (same : ∀ x, foldedSetIterable src X.env x = pure x) (want : wi σ H G)
    (cls : clausesOf (.SetComp elt (⟨tg, src, [], 0⟩ :: rest) scope pos) = ⟨tg, src, [], 0⟩ :: rest)
    (body : ∀ (D it : Addr) (fp : List Addr) (tn : Nat → Heap → Prop) (J : It) (H2 : Hp) (s3 s4 : Shared) (cl : List (PySem.Str × Addr)) (B : Cx), B = X.blk s3 (upd H2 D (SetO X.w D (fun _ => false) 0)) scope (compEnvC scope cl s3.heap.objs.size X.env) fp → G J H2 → H2 D = none → Turn X.prog X.w X.K tg J fp it tn →
      Inv B [] (wipe σ (own.map (·.2))) (upd H2 D (SetO X.w D (fun _ => false) 0)) s4 → tn 0 s4.heap → (∀ b ∈ fp, upd H2 D (SetO X.w D (fun _ => false) 0) b = none) → (∀ (τ : L2.St) (H' : Hp) (s' : Shared), Inv B [] τ H' s' → (∀ b ∈ fp, H' b = none) → ∀ b ∈ fp, FpOk B [] H' b) →
      codeAny (model X.prog X.w) X.A (.compLoop (.SetComp elt (⟨tg, src, [], 0⟩ :: rest) scope pos) 0 (.ref it) (.ref D) B.env) (fun out s' => match out with
        | .ok _ => ∃ H5, Inv B [] (wipe σ (own.map (·.2))) H5 s' ∧ Q (.ref D) H5
        | .error _ => False) s4) :
    wpAny (model X.prog X.w) X.A (comprehension (.SetComp elt (⟨tg, src, [], 0⟩ :: rest) scope pos) scope X.env pos' (newSet (.type "set")) false (eval src X.env)) (EP X ps σ Q) X.xe s := by
  have here : ∀ y ∈ scope.names, y.2 = .free → ∃ c, X.env.cells.lookup y.1 = some c := fun y hy e => inv.ok.has _ (ok.free y hy e)
  refine wpAny_comprehension_free (use := none) cls same (closure_ok here) ok.kind (fun y hy e => by rw [ok.uniq y hy, e]) (thn (first.run ps s σ H _ inv want) fun v s1 h1 => thn h1 fun u s2 h2 => ?_)
  obtain ⟨it, fp, tn, J, H2, rfl, inv2, T, at2, fine, want2⟩ := h2
  refine PpSet.newSet_ok (newEnv_comp ?_)
  have new : H2 s2.heap.objs.size = none := inv2.hok.fresh (Nat.le_refl _)
  have grown : (s2.heap.push (bareSet X.w)).objs.size = s2.heap.objs.size + 1 := Heap.size_push ..
  have inv3 : Inv X ps σ (upd H2 s2.heap.objs.size (SetO X.w s2.heap.objs.size (fun _ => false) 0)) { s2 with heap := s2.heap.push (bareSet X.w) } :=
    inv2.laid (t' := s2.toks) (fun b o e => Heap.get?_push_of_some _ e) (Nat.le_refl _) (setO_new (setR_fresh X.w))
  have low : ∀ b ∈ fp, b < s2.heap.objs.size := fun b hb => by
    obtain ⟨o, e, _⟩ := T.obj _ _ at2 b hb
    exact Heap.lt_size e
  have fine3 : ∀ b ∈ fp, FpOk X ps (upd H2 s2.heap.objs.size (SetO X.w s2.heap.objs.size (fun _ => false) 0)) b ∧ b < (s2.heap.push (bareSet X.w)).objs.size := fun b hb => by
    have lt := low b hb
    refine ⟨⟨?_, (fine b hb).2⟩, by rw [grown]; exact Nat.lt_succ_of_lt lt⟩
    rw [upd_ne (Nat.ne_of_lt lt)]
    exact (fine b hb).1
  have inv4 := block_start inv3 ok nodup fine3
  have at4 : tn 0 (pushCells ((s2.heap.push (bareSet X.w)).push { cls := .type "dict", data := .dict #[] }) scope.names) :=
    T.keep _ _ _ at2 fun b _ o e => pushCells_keeps _ _ _ _ (Heap.get?_push_of_some _ (Heap.get?_push_of_some _ e))
  have go := body s2.heap.objs.size it fp tn J H2 { s2 with heap := s2.heap.push (bareSet X.w) } _ _ _ rfl want2 new T inv4 at4 (fun b hb => (fine3 b hb).1.1) (fun τ H' s' i' none' b hb =>
    ⟨none' b hb, (i'.ok.exf b hb).1, i'.ok.exfs b hb, .inl hb, fun x c e => (i'.ok.exf b hb).2 x c e, fun p hp => absurd (show p ∈ ([] : List (Addr × Obj)) ++ [] from hp) (by simp)⟩)
  have loop := codeAny_mono go (R' := compPost (model X.prog X.w) X.A X.xe none (EP X ps σ Q) (.ref s2.heap.objs.size) (s2.heap.push (bareSet X.w)).objs.size) fun out s' z => ?_
  · exact PpSet.codeAny_compStart_set loop (T.self X.A 0 _ _ _ at4 loop)
  · cases out with
    | error e => exact z.elim
    | ok f =>
      obtain ⟨H5, inv5, q⟩ := z
      have inv6 : Inv X ps σ H5 s' := inv3.call' (ch := fp) inv5.os inv5.base inv5.hok inv5.bare fun b hb => ⟨(fine3 b hb).1.2.2.2.1, (fine3 b hb).1.2.1, (fine3 b hb).1.2.2.2.2.1, (fine3 b hb).1.2.2.2.2.2⟩
      have free5 : H5 (s2.heap.push (bareSet X.w)).objs.size = none := inv5.free
      obtain ⟨m, mine, _⟩ := inv5.loc
      refine ⟨m, mine, fun h' but => ?_⟩
      obtain ⟨f0, f1, f2, f3, f4, f5⟩ := inv3.fpOk (H' := H5) (b := (s2.heap.push (bareSet X.w)).objs.size) (Nat.le_refl _) free5
      exact ⟨.ref s2.heap.objs.size, H5, inv6.turned (t' := s'.toks) (fun b o hb e => (but.2 b hb).trans e) f0 f1 f3 f4 f5, rfl, q⟩
end
section
variable {X : Cx} {elt tg src tg1 src1 : Expr} {scope : Scope} {own : List (PySem.Str × Nat)} {us : List Nat} {pos : Pos} {wi wj : TI} {g f : TG} {te : TE}
/-- {elt for tg in src} of ints -/
theorem pe_set1 (calm : X.calm = true) (nodup : X.N.Nodup) (first : PI X tg src wi) (ok : BlkOk X.N X.env.scope scope own)
    (tgt : ∀ (s : Shared) (H : Hp) (C : Addr) (cl : List (PySem.Str × Addr)) (fp : List Addr), PG (X.blk s H scope (compEnvC scope cl C X.env) fp) tg g)
    (each : ∀ (s : Shared) (H : Hp) (C : Addr) (cl : List (PySem.Str × Addr)) (fp : List Addr), PE (X.blk s H scope (compEnvC scope cl C X.env) fp) elt te) (same : ∀ x, foldedSetIterable src X.env x = pure x := by intro _; rfl) :
    PE X (.SetComp elt [⟨tg, src, [], 0⟩] scope pos) (tSet1 X.w wi g te (own.map (·.2))) := by
  refine ⟨fun ps s σ H Q inv want => ?_⟩
  rw [PpSet.eval_SetComp]
  refine set_block calm nodup inv first ok same want rfl fun D it fp tn J H2 s3 s4 cl B eB hG new T inv4 at4 none4 fine => ?_
  obtain ⟨W, ⟨m0, w0⟩, turn⟩ := hG D new
  have Tb : Turn B.prog B.w B.K tg J fp it tn := by rw [eB]; exact T
  have tb : PG B tg g := by rw [eB]; exact tgt _ _ _ _ _
  have eb : PE B elt te := by rw [eB]; exact each _ _ _ _ _
  have cb : B.calm = true := by rw [eB]; exact calm
  have xb : B.xe = fun _ _ => False := by rw [eB]
  have wb : B.w = X.w := by rw [eB]
  have pb : B.prog = X.prog := by rw [eB]
  have ab : B.A = X.A := by rw [eB]
  rw [← wb, ← pb, ← ab]
  refine only_loop (fun n st => ∃ i H5, Inv B [] (wipe σ (own.map (·.2))) H5 st ∧ tn i st.heap ∧ (∀ b ∈ fp, H5 b = none) ∧ W i n H5) ?_ m0 s4 ⟨0, _, inv4, at4, none4, w0⟩
  rintro n st E ⟨i, H5, inv5, at5, none5, w5⟩
  refine clause_turn Tb cb tb xb inv5 (fine _ _ _ inv5 none5) at5 ?_
  rcases turn i n H5 w5 with ⟨stop, q⟩ | ⟨go, N, back, on⟩
  · exact .inl ⟨stop, fun s6 inv6 => ⟨H5, inv6, q⟩⟩
  · refine .inr ⟨go, fun x H6 y => ⟨_, on x H6 y, fun τ H7 sa sb ⟨wz, z⟩ at7 inv7 => ?_⟩⟩
    have zz := eb.run _ sb τ H7 _ inv7 z
    rw [xb] at zz
    refine thnF zz fun u sc ⟨v, H8, inv8, rel, k, S, c, ek, has, room, nx⟩ => ?_
    subst ek
    obtain ⟨tk, rfl⟩ := rel
    rw [← wb] at has nx
    refine into_set inv8 has room fun sd inv9 => ?_
    obtain ⟨m2, less, w2⟩ := back _ nx
    have len : (wipe σ (own.map (·.2))).length = τ.length := by rw [← wz, wipe_length]
    have knew : ∀ (j : Nat) v, (wipe σ (own.map (·.2)))[j]? = some (some v) → τ[j]? = some (some v) := fun j v e => by
      rw [← wz] at e
      exact (wipe_some e).1
    obtain ⟨invZ, atZ, noneZ⟩ := clause_back Tb at7 inv9 len knew
    exact ⟨m2, less, i + 1, _, invZ, atZ, noneZ, w2⟩
/-- {elt for tg in src for tg1 in src1} of ints -/
theorem pe_set2 (calm : X.calm = true) (nodup : X.N.Nodup) (first : PI X tg src wi) (ok : BlkOk X.N X.env.scope scope own) (part : ∀ i ∈ us, i ∈ own.map (·.2))
    (tgt : ∀ (s : Shared) (H : Hp) (C : Addr) (cl : List (PySem.Str × Addr)) (fp : List Addr), PG (X.blk s H scope (compEnvC scope cl C X.env) fp) tg g)
    (second : ∀ (s : Shared) (H : Hp) (C : Addr) (cl : List (PySem.Str × Addr)) (fp : List Addr), PI (X.blk s H scope (compEnvC scope cl C X.env) fp) tg1 src1 wj)
    (tgt1 : ∀ (s : Shared) (H : Hp) (C : Addr) (cl : List (PySem.Str × Addr)) (fp : List Addr), PG (X.blk s H scope (compEnvC scope cl C X.env) fp) tg1 f)
    (each : ∀ (s : Shared) (H : Hp) (C : Addr) (cl : List (PySem.Str × Addr)) (fp : List Addr), PE (X.blk s H scope (compEnvC scope cl C X.env) fp) elt te) (same : ∀ x, foldedSetIterable src X.env x = pure x := by intro _; rfl) (same1 : ∀ env x, foldedSetIterable src1 env x = pure x := by intro _ _; rfl) :
    PE X (.SetComp elt [⟨tg, src, [], 0⟩, ⟨tg1, src1, [], 0⟩] scope pos) (tSet2 X.w wi g wj f te (own.map (·.2)) us) := by
  refine ⟨fun ps s σ H Q inv want => ?_⟩
  rw [PpSet.eval_SetComp]
  refine set_block calm nodup inv first ok same want rfl fun D it fp tn J H2 s3 s4 cl B eB hG new T inv4 at4 none4 fine => ?_
  obtain ⟨W, ⟨m0, w0⟩, turn⟩ := hG D new
  have Tb : Turn B.prog B.w B.K tg J fp it tn := by rw [eB]; exact T
  have tb : PG B tg g := by rw [eB]; exact tgt _ _ _ _ _
  have ub : PG B tg1 f := by rw [eB]; exact tgt1 _ _ _ _ _
  have sb2 : PI B tg1 src1 wj := by rw [eB]; exact second _ _ _ _ _
  have eb : PE B elt te := by rw [eB]; exact each _ _ _ _ _
  have cb : B.calm = true := by rw [eB]; exact calm
  have xb : B.xe = fun _ _ => False := by rw [eB]
  have wb : B.w = X.w := by rw [eB]
  have pb : B.prog = X.prog := by rw [eB]
  have ab : B.A = X.A := by rw [eB]
  rw [← wb, ← pb, ← ab]
  refine first_loop (same1 _) (fun n st => ∃ i H5, Inv B [] (wipe σ (own.map (·.2))) H5 st ∧ tn i st.heap ∧ (∀ b ∈ fp, H5 b = none) ∧ W i n H5) ?_ m0 s4 ⟨0, _, inv4, at4, none4, w0⟩
  rintro n st E ⟨i, H5, inv5, at5, none5, w5⟩
  refine clause_turn Tb cb tb xb inv5 (fine _ _ _ inv5 none5) at5 ?_
  rcases turn i n H5 w5 with ⟨stop, q⟩ | ⟨go, N, back, on⟩
  · exact .inl ⟨stop, fun s6 inv6 => ⟨H5, inv6, q⟩⟩
  · refine .inr ⟨go, fun x H6 y => ⟨_, on x H6 y, fun τ H7 sa sb ⟨wz, z⟩ at7 inv7 => ?_⟩⟩
    have len : (wipe σ (own.map (·.2))).length = τ.length := by rw [← wz, wipe_length]
    have knew : ∀ (j : Nat) v, (wipe σ (own.map (·.2)))[j]? = some (some v) → (wipe τ us)[j]? = some (some v) := fun j v e => by
      rw [← wz] at e
      obtain ⟨e1, e2⟩ := wipe_some e
      rw [wipe_out fun h => e2 (part j h)]
      exact e1
    have zz := sb2.run _ sb τ H7 _ inv7 z
    rw [xb] at zz
    refine thnF zz fun u sc got => ?_
    refine thnF got fun u2 sd ⟨it2, fp2, tn2, L, H8, e2, inv8, T2, at8, fine8, want8⟩ => ?_
    subst e2
    obtain ⟨V, ⟨k0, v0⟩, turn2⟩ := want8
    have loop : codeAny (model B.prog B.w) B.A (.compLoop (.SetComp elt [⟨tg, src, [], 0⟩, ⟨tg1, src1, [], 0⟩] scope pos) 1 (.ref it2) (.ref D) B.env) (fun out s6 => match out with
        | .error _ => False
        | .ok _ => ∃ m, m < n ∧ ∃ i H5, Inv B [] (wipe σ (own.map (·.2))) H5 s6 ∧ tn i s6.heap ∧ (∀ b ∈ fp, H5 b = none) ∧ W i m H5) sd := by
      refine second_loop (fun k st => ∃ j H9, Inv B ([] ++ pinsAt fp sa.heap) (wipe τ us) H9 st ∧ tn2 j st.heap ∧ (∀ b ∈ fp2, H9 b = none) ∧ V j k H9) ?_ k0 sd ⟨0, H8, inv8.weak (wipe_length _ _) (fun j v e => (wipe_some e).1), at8, fun b hb => (fine8 b hb).1, v0⟩
      rintro k se E2 ⟨j, H9, inv9, at9, none9, v9⟩
      refine clause_turn T2 cb ub xb inv9 (fun b hb => ⟨none9 b hb, (fine8 b hb).2⟩) at9 ?_
      rcases turn2 j k H9 v9 with ⟨stop2, nx⟩ | ⟨go2, M, back2, on2⟩
      · refine .inl ⟨stop2, fun s6 inv6 => ?_⟩
        obtain ⟨m2, less, w2⟩ := back _ nx
        obtain ⟨invZ, atZ, noneZ⟩ := clause_back Tb at7 inv6 (len.trans (wipe_length τ us).symm) knew
        exact ⟨m2, less, i + 1, _, invZ, atZ, noneZ, w2⟩
      · refine .inr ⟨go2, fun x2 HA y2 => ⟨_, on2 x2 HA y2, fun ρ HB sf sg ⟨wr, z2⟩ atB invB => ?_⟩⟩
        have z3 := eb.run _ sg ρ HB _ invB z2
        rw [xb] at z3
        refine thnF z3 fun u sh ⟨v, HC, invC, rel, kk, S, c, ek, has, room, nx⟩ => ?_
        subst ek
        obtain ⟨tk, rfl⟩ := rel
        rw [← wb] at has nx
        refine into_set invC has room fun sk invD => ?_
        obtain ⟨k2, less, v2⟩ := back2 _ nx
        obtain ⟨invZ, atZ, noneZ⟩ := clause_back (σ := wipe τ us) T2 atB invD (by rw [← wr, wipe_length]) (fun j v e => by
          rw [← wr] at e
          exact (wipe_some e).1)
        exact ⟨k2, less, j + 1, _, invZ, atZ, noneZ, v2⟩
    exact second_start (fun E3 => T2.self B.A 0 _ _ _ at8 loop) loop
end
end Ky
/-! ### values of a program as data: how they stand in the heap, lists that one slot owns, steps of the heap -/
namespace Vm
open PySem PySem.Spec PyProof.Rows L2 Ky
abbrev D := PyData
abbrev Sl := L2.St
/-- what a slot may own: a list, a dict, a set of ints -/
inductive Ob where
  | lst (xs : List D)
  | dic (kvs : List (D × D))
  | set (xs : List Int)
  | exc (cls : Str) (val : D)
/-- a slot's content: data that nothing changes any more; an object that this slot alone knows; such a one while a loop walks it -/
inductive C where
  | dat (d : D)
  | own (o : Ob)
  | pin (o : Ob)
abbrev Env := List (Option C)
/-- what an expression gives: data; a new object that nothing knows; the object of a slot -/
inductive R where
  | dat (d : D)
  | own (o : Ob)
  | slot (i : Nat)
structure Ex where
  cls : Str
  val : D
abbrev M (α : Type) := Env → Option (Except Ex α × Env)

def keyD : Key → D
  | .inl i => .int i
  | .inr x => .str x
/-- a list that stands at a place of S, or is known to be fixed -/
def StL (K : PySem.W.Frag) (H : Hp) (S : Addr → Prop) (a : Addr) (xs : List V) : Prop :=
  (S a ∧ H a = some (.lst xs)) ∨ (∃ o, H a = some (.frz o (.lst xs))) ∨ ∃ (o : Obj) (its : Array Value) (n : Nat), K.lookup a = some o ∧ o.cls = .type "list" ∧ o.dict = none ∧ o.data = .seq its n ∧ its.size ≤ sizeLine ∧ Vals xs its.toList
theorem StL.sq {K : PySem.W.Frag} {H : Hp} {S : Addr → Prop} {a : Addr} {xs : List V} (h : StL K H S a xs) : SqL K H a xs := by
  rcases h with h | h | h
  · exact .of h.2
  · exact .inl (.inr h)
  · exact .inr h
mutual
inductive Rp (K : PySem.W.Frag) (H : Hp) (S : Addr → Prop) : V → D → Prop
  | non : Rp K H S .non .none
  | bl (b : Bool) : Rp K H S (.bl b) (.bool b)
  | int (i : Int) : Rp K H S (.int i) (.int i)
  | str (x : Str) : Rp K H S (.str x) (.str x)
  | lst {a : Addr} {xs : List V} {ds : List D} : StL K H S a xs → RpA K H S xs ds → Rp K H S (.ref a) (.list ds)
  | tup {a : Addr} {xs : List V} {ds : List D} : SqT K H a xs → RpA K H S xs ds → Rp K H S (.ref a) (.tuple ds)
  | dK {a : Addr} {ks : List (Key × V)} {kvs : List (D × D)} : S a → H a = some (.dK ks) → RpK K H S ks kvs → Rp K H S (.ref a) (.dict kvs)
inductive RpA (K : PySem.W.Frag) (H : Hp) (S : Addr → Prop) : List V → List D → Prop
  | nil : RpA K H S [] []
  | cons {v : V} {vs : List V} {d : D} {ds : List D} : Rp K H S v d → RpA K H S vs ds → RpA K H S (v :: vs) (d :: ds)
inductive RpK (K : PySem.W.Frag) (H : Hp) (S : Addr → Prop) : List (Key × V) → List (D × D) → Prop
  | nil : RpK K H S [] []
  | cons {k : Key} {v : V} {ks : List (Key × V)} {d : D} {ds : List (D × D)} : Rp K H S v d → RpK K H S ks ds → RpK K H S ((k, v) :: ks) ((keyD k, d) :: ds)
end
def mutK : HO → Prop
  | .lst _ => True
  | .dK _ => True
  | .dT _ => True
  | .set _ _ => True
  | .ext _ => True
  | _ => False
def fixK : HO → Prop
  | .tup _ => True
  | .frz _ _ => True
  | .xd _ => True
  | _ => False
theorem sqT_keep {K : PySem.W.Frag} {H H' : Hp} {a : Addr} {xs : List V} (k : ∀ b o, H b = some o → fixK o → H' b = some o) (h : SqT K H a xs) : SqT K H' a xs := by
  rcases h with (h | ⟨o, h⟩) | h
  · exact .inl (.inl (k _ _ h trivial))
  · exact .inl (.inr ⟨o, k _ _ h trivial⟩)
  · exact .inr h
theorem stL_keep {K : PySem.W.Frag} {H H' : Hp} {S S' : Addr → Prop} {a : Addr} {xs : List V} (k : ∀ b o, H b = some o → (S b ∧ mutK o) ∨ fixK o → H' b = some o) (s : ∀ a, S a → S' a) (h : StL K H S a xs) : StL K H' S' a xs := by
  rcases h with ⟨h1, h2⟩ | ⟨o, h⟩ | h
  · exact .inl ⟨s _ h1, k _ _ h2 (.inl ⟨h1, trivial⟩)⟩
  · exact .inr (.inl ⟨o, k _ _ h (.inr trivial)⟩)
  · exact .inr (.inr h)
section
variable {K : PySem.W.Frag} {H H' : Hp} {S S' : Addr → Prop} (k : ∀ b o, H b = some o → (S b ∧ mutK o) ∨ fixK o → H' b = some o) (s : ∀ a, S a → S' a)
include k s
mutual
theorem Rp.keep : ∀ {v : V} {d : D}, Rp K H S v d → Rp K H' S' v d
  | _, _, .non => .non
  | _, _, .bl b => .bl b
  | _, _, .int i => .int i
  | _, _, .str x => .str x
  | _, _, .lst h1 h2 => .lst (stL_keep k s h1) (RpA.keep h2)
  | _, _, .tup h1 h2 => .tup (sqT_keep (fun b o e f => k b o e (.inr f)) h1) (RpA.keep h2)
  | _, _, .dK h1 h2 h3 => .dK (s _ h1) (k _ _ h2 (.inl ⟨h1, trivial⟩)) (RpK.keep h3)
theorem RpA.keep : ∀ {vs : List V} {ds : List D}, RpA K H S vs ds → RpA K H' S' vs ds
  | _, _, .nil => .nil
  | _, _, .cons h1 h2 => .cons (Rp.keep h1) (RpA.keep h2)
theorem RpK.keep : ∀ {vs : List (Key × V)} {ds : List (D × D)}, RpK K H S vs ds → RpK K H' S' vs ds
  | _, _, .nil => .nil
  | _, _, .cons h1 h2 => .cons (Rp.keep h1) (RpK.keep h2)
end
end
/-- what holds of a program's names, for all its defs -/
structure Cn where
  K : PySem.W.Frag
  mg : Str → Option Value
  tf : List Str
  w : World
/-- an object of the heap at a -/
def ObRp (c : Cn) (H : Hp) (S : Addr → Prop) (a : Addr) : Ob → Prop
  | .lst xs => ∃ vs, H a = some (.lst vs) ∧ RpA c.K H S vs xs
  | .dic kvs => ∃ ks, H a = some (.dK ks) ∧ RpK c.K H S ks kvs
  | .set xs => xs.Pairwise (· < ·) ∧ ∃ n, H a = some (SetO c.w a (fun j => decide (j ∈ xs)) n)
  | .exc cls val => ∃ (C d : Addr) (v : V), c.mg cls = some (.ref C) ∧ H a = some (KeptE (.ref C) (some d) a) ∧ H d = some (.xd [(("value" : Str), v)]) ∧ Rp c.K H S v val
theorem ObRp.mut {c : Cn} {H : Hp} {S : Addr → Prop} {a : Addr} {o : Ob} (h : ObRp c H S a o) : ∃ u, H a = some u ∧ mutK u := by
  cases o with
  | lst xs => obtain ⟨vs, e, _⟩ := h; exact ⟨_, e, trivial⟩
  | dic kvs => obtain ⟨ks, e, _⟩ := h; exact ⟨_, e, trivial⟩
  | set xs => obtain ⟨_, n, e⟩ := h; exact ⟨_, e, trivial⟩
  | exc cls val => obtain ⟨_, _, _, _, e, _⟩ := h; exact ⟨_, e, trivial⟩
theorem ObRp.keep {c : Cn} {H H' : Hp} {S S' : Addr → Prop} {a : Addr} {o : Ob} (k : ∀ b o, H b = some o → (S b ∧ mutK o) ∨ fixK o → H' b = some o) (s : ∀ a, S a → S' a) (ha : ∀ u, H a = some u → mutK u → H' a = some u)
    (h : ObRp c H S a o) : ObRp c H' S' a o := by
  cases o with
  | lst xs => obtain ⟨vs, e, r⟩ := h; exact ⟨vs, ha _ e trivial, r.keep k s⟩
  | dic kvs => obtain ⟨ks, e, r⟩ := h; exact ⟨ks, ha _ e trivial, r.keep k s⟩
  | set xs => obtain ⟨r, n, e⟩ := h; exact ⟨r, n, ha _ e trivial⟩
  | exc cls val => obtain ⟨C, d, v, m, e, ed, r⟩ := h; exact ⟨C, d, v, m, ha _ e trivial, k _ _ ed (.inr trivial), r.keep k s⟩
/-- a set of ints, as data to be read: its members, ascending -/
def setD (xs : List Int) : D := .dict [(.none, .list (xs.map .int))]
/-- the object as data, to be read -/
def Ob.view : Ob → Option D
  | .lst xs => some (.list xs)
  | .dic kvs => some (.dict kvs)
  | .set xs => some (setD xs)
  | .exc _ _ => none
/-- the object as data, to be kept -/
def Ob.toD : Ob → Option D
  | .lst xs => some (.list xs)
  | .dic kvs => some (.dict kvs)
  | .set _ => none
  | .exc _ _ => none
theorem ObRp.frz {c : Cn} {H : Hp} {S : Addr → Prop} {a : Addr} {o : Ob} {d : D} (h : ObRp c H S a o) (e : o.toD = some d) (s : S a) : Rp c.K H S (.ref a) d := by
  cases o with
  | lst xs => cases e; obtain ⟨vs, e, r⟩ := h; exact .lst (.inl ⟨s, e⟩) r
  | dic kvs =>
    cases e
    obtain ⟨ks, e, r⟩ := h
    exact .dK s e r
  | set xs => cases e
  | exc _ _ => cases e

/-- the object that a slot holds -/
def C.ob : C → Option Ob
  | .dat _ => none
  | .own o => some o
  | .pin o => some o
def LivA (σ : Sl) (ρ : Env) (a : Addr) : Prop := ∃ (i : Nat) (x : C) (o : Ob), ρ[i]? = some (some x) ∧ x.ob = some o ∧ σ[i]? = some (some (.ref a))
def OwnA (σ : Sl) (ρ : Env) (a : Addr) : Prop := ∃ (i : Nat) (o : Ob), ρ[i]? = some (some (.own o)) ∧ σ[i]? = some (some (.ref a))
/-- the slots stand for the contents -/
structure Rep (c : Cn) (σ : Sl) (H : Hp) (S : Addr → Prop) (ρ : Env) : Prop where
  len : σ.length = ρ.length
  dat : ∀ (i : Nat) d, ρ[i]? = some (some (.dat d)) → ∃ v, σ[i]? = some (some v) ∧ Rp c.K H S v d
  liv : ∀ (i : Nat) x o, ρ[i]? = some (some x) → x.ob = some o → ∃ a, σ[i]? = some (some (.ref a)) ∧ ObRp c H S a o ∧ ¬ S a
  dis : ∀ (i j : Nat) x y o o' a, ρ[i]? = some (some x) → x.ob = some o → ρ[j]? = some (some y) → y.ob = some o' → σ[i]? = some (some (.ref a)) → σ[j]? = some (some (.ref a)) → i = j
  live : ∀ a, S a → ∃ o, H a = some o ∧ mutK o
  tabs : ∀ x ∈ c.tf, GxR.TabG H (tA c.K x)
theorem OwnA.liv {σ : Sl} {ρ : Env} {a : Addr} (h : OwnA σ ρ a) : LivA σ ρ a := let ⟨i, o, e1, e2⟩ := h; ⟨i, .own o, o, e1, rfl, e2⟩
theorem Rep.nL {c : Cn} {σ : Sl} {H : Hp} {S : Addr → Prop} {ρ : Env} (r : Rep c σ H S ρ) {a : Addr} (h : LivA σ ρ a) : ¬ S a := by
  obtain ⟨i, x, o, e1, e2, e3⟩ := h
  obtain ⟨b, e4, _, n⟩ := r.liv i x o e1 e2
  rw [e3] at e4; cases e4; exact n
theorem Rep.livAt {c : Cn} {σ : Sl} {H : Hp} {S : Addr → Prop} {ρ : Env} (r : Rep c σ H S ρ) {a : Addr} (h : LivA σ ρ a) : ∃ u, H a = some u ∧ mutK u := by
  obtain ⟨i, x, o, e1, e2, e3⟩ := h
  obtain ⟨b, e4, q, n⟩ := r.liv i x o e1 e2
  rw [e3] at e4; cases e4; exact q.mut
theorem Rep.nS {c : Cn} {σ : Sl} {H : Hp} {S : Addr → Prop} {ρ : Env} (r : Rep c σ H S ρ) {a : Addr} (h : OwnA σ ρ a) : ¬ S a := r.nL h.liv
theorem Rep.ownAt {c : Cn} {σ : Sl} {H : Hp} {S : Addr → Prop} {ρ : Env} (r : Rep c σ H S ρ) {a : Addr} (h : OwnA σ ρ a) : ∃ u, H a = some u ∧ mutK u := r.livAt h.liv
/-- the heap has gone on -/
structure Stq (fx : List Nat) (σ : Sl) (ρ : Env) (S : Addr → Prop) (H : Hp) (σ' : Sl) (ρ' : Env) (S' : Addr → Prop) (H' : Hp) : Prop where
  st : ∀ b o, H b = some o → ∃ o', H' b = some o' ∧ (¬ OwnA σ ρ b → GrO o o')
  s1 : ∀ a, S a → S' a
  s2 : ∀ a, S' a → S a ∨ H a = none ∨ LivA σ ρ a
  ow : ∀ a, OwnA σ' ρ' a → OwnA σ ρ a ∨ H a = none
  lv : ∀ a, LivA σ' ρ' a → LivA σ ρ a ∨ H a = none
  pf : ∀ (i : Nat) o', ρ'[i]? = some (some (.pin o')) → ∃ o, ρ[i]? = some (some (.pin o)) ∧ σ'[i]? = σ[i]?
  fx : ∀ j ∈ fx, σ'[j]? = σ[j]?
theorem Stq.refl {fx : List Nat} {σ : Sl} {ρ : Env} {S : Addr → Prop} {H : Hp} : Stq fx σ ρ S H σ ρ S H :=
  ⟨fun b o e => ⟨o, e, fun _ => .inl rfl⟩, fun _ h => h, fun _ h => .inl h, fun _ h => .inl h, fun _ h => .inl h, fun i o h => ⟨o, h, rfl⟩, fun _ _ => rfl⟩
theorem Stq.trans {fx : List Nat} {σ σ1 σ2 : Sl} {ρ ρ1 ρ2 : Env} {S S1 S2 : Addr → Prop} {H H1 H2 : Hp} (p : Stq fx σ ρ S H σ1 ρ1 S1 H1) (q : Stq fx σ1 ρ1 S1 H1 σ2 ρ2 S2 H2) : Stq fx σ ρ S H σ2 ρ2 S2 H2 where
  st := fun b o e => by
    obtain ⟨o1, e1, g1⟩ := p.st b o e
    obtain ⟨o2, e2, g2⟩ := q.st b o1 e1
    refine ⟨o2, e2, fun n => (g1 n).trans (g2 fun h => ?_)⟩
    rcases p.ow b h with h | h
    · exact n h
    · rw [e] at h; cases h
  s1 := fun a h => q.s1 a (p.s1 a h)
  s2 := fun a h => by
    have none_of : H1 a = none → H a = none := fun z => by
      cases e : H a with
      | none => rfl
      | some o => obtain ⟨o1, e1, _⟩ := p.st a o e; rw [z] at e1; cases e1
    rcases q.s2 a h with h | h | h
    · exact p.s2 a h
    · exact .inr (.inl (none_of h))
    · rcases p.lv a h with h | h
      · exact .inr (.inr h)
      · exact .inr (.inl h)
  ow := fun a h => by
    rcases q.ow a h with h | h
    · exact p.ow a h
    · right
      cases e : H a with
      | none => rfl
      | some o => obtain ⟨o1, e1, _⟩ := p.st a o e; rw [h] at e1; cases e1
  lv := fun a h => by
    rcases q.lv a h with h | h
    · exact p.lv a h
    · right
      cases e : H a with
      | none => rfl
      | some o => obtain ⟨o1, e1, _⟩ := p.st a o e; rw [h] at e1; cases e1
  pf := fun i o' h => by
    obtain ⟨o1, h1, e1⟩ := q.pf i o' h
    obtain ⟨o, h0, e0⟩ := p.pf i o1 h1
    exact ⟨o, h0, e1.trans e0⟩
  fx := fun j hj => (q.fx j hj).trans (p.fx j hj)
theorem GrO.eq {o o' : HO} (g : GrO o o') (n : mutK o ∨ fixK o) : o' = o := by
  rcases g with g | ⟨ps, ps', rfl, _⟩
  · exact g
  · rcases n with n | n <;> exact n.elim
section
variable {c : Cn} {fx : List Nat} {σ σ' : Sl} {ρ ρ' : Env} {S S' : Addr → Prop} {H H' : Hp}
/-- data stays -/
theorem Stq.kp (q : Stq fx σ ρ S H σ' ρ' S' H') (r : Rep c σ H S ρ) : ∀ b o, H b = some o → (S b ∧ mutK o) ∨ fixK o → H' b = some o := fun b o e h => by
  obtain ⟨o', e', g⟩ := q.st b o e
  have n : ¬ OwnA σ ρ b := fun z => by
    rcases h with ⟨h, _⟩ | h
    · exact r.nS z h
    · obtain ⟨u, eu, m⟩ := r.ownAt z
      rw [e] at eu; cases eu
      cases o <;> first | exact h | exact m
  rw [GrO.eq (g n) (h.imp (fun z => z.2) id)] at e'
  exact e'
theorem Stq.rp (q : Stq fx σ ρ S H σ' ρ' S' H') (r : Rep c σ H S ρ) {v : V} {d : D} (h : Rp c.K H S v d) : Rp c.K H' S' v d := h.keep (q.kp r) q.s1
theorem Stq.rpA (q : Stq fx σ ρ S H σ' ρ' S' H') (r : Rep c σ H S ρ) {v : List V} {d : List D} (h : RpA c.K H S v d) : RpA c.K H' S' v d := h.keep (q.kp r) q.s1
theorem Stq.gone (q : Stq fx σ ρ S H σ' ρ' S' H') {a : Addr} (h : H' a = none) : H a = none := by
  cases e : H a with
  | none => rfl
  | some o => obtain ⟨o1, e1, _⟩ := q.st a o e; rw [h] at e1; cases e1
/-- an object that no slot owns stays -/
theorem Stq.ob (q : Stq fx σ ρ S H σ' ρ' S' H') (r : Rep c σ H S ρ) {a : Addr} {o : Ob} (n : ¬ OwnA σ ρ a) (h : ObRp c H S a o) : ObRp c H' S' a o :=
  h.keep (q.kp r) q.s1 fun u e m => by
    obtain ⟨o', e', g⟩ := q.st a u e
    rw [GrO.eq (g n) (.inl m)] at e'
    exact e'
theorem Stq.tab (q : Stq fx σ ρ S H σ' ρ' S' H') (r : Rep c σ H S ρ) {P : Addr} (t : GxR.TabG H P) : GxR.TabG H' P := by
  obtain ⟨ps, e, tr⟩ := t
  obtain ⟨o', e', g⟩ := q.st _ _ e
  have n : ¬ OwnA σ ρ P := fun z => by
    obtain ⟨u, eu, m⟩ := r.ownAt z
    rw [e] at eu; cases eu; exact m
  rcases g n with rfl | ⟨_, ps', _, rfl, t'⟩
  · exact ⟨ps, e', tr⟩
  · exact ⟨ps', e', t'⟩
/-- the heap has grown, or tables have -/
theorem stq_gro (g : Gro H H') : Stq fx σ ρ S H σ ρ S H' :=
  ⟨fun b o e => by obtain ⟨o', e', x⟩ := g b o e; exact ⟨o', e', fun _ => x⟩, fun _ h => h, fun _ h => .inl h, fun _ h => .inl h, fun _ h => .inl h, fun i o h => ⟨o, h, rfl⟩, fun _ _ => rfl⟩
theorem Gro.kp (g : Gro H H') : ∀ b o, H b = some o → (S b ∧ mutK o) ∨ fixK o → H' b = some o := fun b o e h => by
  obtain ⟨o', e', x⟩ := g b o e
  rw [GrO.eq x (h.imp (fun z => z.2) id)] at e'
  exact e'
theorem Gro.mk_ (g : Gro H H') {a : Addr} {u : HO} (e : H a = some u) (m : mutK u) : H' a = some u := by
  obtain ⟨o', e', x⟩ := g a u e
  rw [GrO.eq x (.inl m)] at e'
  exact e'
theorem Rep.gro (r : Rep c σ H S ρ) (g : Gro H H') : Rep c σ H' S ρ where
  len := r.len
  dat := fun i d e => by obtain ⟨v, e1, h⟩ := r.dat i d e; exact ⟨v, e1, h.keep (Gro.kp g) fun _ z => z⟩
  liv := fun i x o e f => by obtain ⟨a, e1, h, n⟩ := r.liv i x o e f; exact ⟨a, e1, h.keep (Gro.kp g) (fun _ z => z) fun u e m => Gro.mk_ g e m, n⟩
  dis := r.dis
  live := fun a h => by obtain ⟨o, e, m⟩ := r.live a h; exact ⟨o, Gro.mk_ g e m, m⟩
  tabs := fun x hx => g.tg (r.tabs x hx)
end
end Vm
/-! ### what an expression of the text gives, as a function on contents -/
namespace Vm
open PySem PySem.Spec PyProof.Rows L2 Ky
def M.pure {α : Type} (a : α) : M α := fun ρ => some (.ok a, ρ)
def M.bind {α β : Type} (m : M α) (k : α → M β) : M β := fun ρ => match m ρ with
  | some (.ok a, ρ1) => k a ρ1
  | some (.error e, ρ1) => some (.error e, ρ1)
  | none => none
/-- a value stands for a result -/
def RR (c : Cn) (σ : Sl) (ρ' : Env) (H0 : Hp) (r : R) (v : V) (H' : Hp) (S' : Addr → Prop) : Prop := match r with
  | .dat d => Rp c.K H' S' v d
  | .own o => ∃ a, v = .ref a ∧ ObRp c H' S' a o ∧ ¬ S' a ∧ ¬ LivA σ ρ' a ∧ H0 a = none
  | .slot i => σ[i]? = some (some v)
def RRs (c : Cn) (σ : Sl) (ρ' : Env) (H0 : Hp) : List R → List V → Hp → (Addr → Prop) → Prop
  | [], [], _, _ => True
  | r :: rs, v :: vs, H', S' => RR c σ ρ' H0 r v H' S' ∧ RRs c σ ρ' H0 rs vs H' S'
  | _, _, _, _ => False
def GoodE {α β : Type} (c : Cn) (W : WX) (σ : Sl) (H : Hp) (S : Addr → Prop) (ρ : Env) (rel : α → β → Hp → (Addr → Prop) → Prop) (res : Except Ex α) (ρ' : Env) (Q : β → Hp → Prop) : Prop := match res with
  | .ok r => ∀ v H' S', Rep c σ H' S' ρ' → Stq [] σ ρ S H σ ρ' S' H' → rel r v H' S' → Q v H'
  | .error e => ∀ C d H' S' v, c.mg e.cls = some (.ref C) → H' d = some (.xd [("value", v)]) → Rp c.K H' S' v e.val → Rep c σ H' S' ρ' → Stq [] σ ρ S H σ ρ' S' H' → W (.ref C) (some d) σ H'
def Vt {α β : Type} (c : Cn) (W : WX) (rel : Sl → Env → Hp → α → β → Hp → (Addr → Prop) → Prop) (t : Sl → Hp → (β → Hp → Prop) → Prop) (f : M α) : Prop :=
  ∀ σ H S ρ res ρ' Q, Rep c σ H S ρ → f ρ = some (res, ρ') → GoodE c W σ H S ρ (rel σ ρ' H) res ρ' Q → t σ H Q
abbrev VEt (c : Cn) (W : WX) (t : TE) (f : M R) : Prop := Vt c W (RR c) t f
abbrev relB : Sl → Env → Hp → Bool → Bool → Hp → (Addr → Prop) → Prop := fun _ _ _ a b _ _ => b = a
abbrev VTt (c : Cn) (W : WX) (t : TT) (f : M Bool) : Prop := Vt c W relB t f
abbrev VAt (c : Cn) (W : WX) (t : TA) (f : M (List R)) : Prop := Vt c W (RRs c) t f
structure VE (X : Cx) (c : Cn) (W : WX) (e : Expr) (t : TE) (f : M R) : Prop where
  pe : PE X e t
  vt : VEt c W t f
structure VT (X : Cx) (c : Cn) (W : WX) (e : Expr) (t : TT) (f : M Bool) : Prop where
  pe : PT X e t
  vt : VTt c W t f
structure VW (X : Cx) (c : Cn) (W : WX) (e : Expr) (t : TT) (f : M Bool) : Prop where
  pe : PW X e t
  vt : VTt c W t f
structure VA (X : Cx) (c : Cn) (W : WX) (es : List Expr) (t : TA) (f : M (List R)) : Prop where
  pe : PA X es t
  vt : VAt c W t f
section
variable {c : Cn} {W : WX} {σ : Sl} {H H1 H2 H0 : Hp} {S S1 S2 : Addr → Prop} {ρ ρ1 ρ2 : Env} {r : R} {v : V}
theorem M.bind_ok {α β : Type} {m : M α} {k : α → M β} {a : α} {ρ ρ1 : Env} (e : m ρ = some (.ok a, ρ1)) : (m.bind k) ρ = k a ρ1 := by
  unfold M.bind
  rw [e]
theorem RR.step (p : Rep c σ H1 S1 ρ1) (q : Stq [] σ ρ1 S1 H1 σ ρ2 S2 H2) (h : RR c σ ρ1 H0 r v H1 S1) : RR c σ ρ2 H0 r v H2 S2 := by
  cases r with
  | dat d => exact q.rp p h
  | slot i => exact h
  | own o =>
    obtain ⟨a, e, h1, h2, h3, h4⟩ := h
    obtain ⟨u, eu, _⟩ := h1.mut
    refine ⟨a, e, q.ob p (fun z => h3 z.liv) h1, fun z => ?_, fun z => ?_, h4⟩
    · rcases q.s2 a z with z | z | z
      · exact h2 z
      · rw [eu] at z; cases z
      · exact h3 z
    · rcases q.lv a z with z | z
      · exact h3 z
      · rw [eu] at z; cases z
theorem RR.back (h : RR c σ ρ1 H1 r v H2 S2) (k : ∀ a, H1 a = none → H0 a = none) : RR c σ ρ1 H0 r v H2 S2 := by
  cases r with
  | dat d => exact h
  | slot i => exact h
  | own o => obtain ⟨a, e, h1, h2, h3, h4⟩ := h; exact ⟨a, e, h1, h2, h3, k a h4⟩
theorem RRs.step (p : Rep c σ H1 S1 ρ1) (q : Stq [] σ ρ1 S1 H1 σ ρ2 S2 H2) : ∀ {rs : List R} {vs : List V}, RRs c σ ρ1 H0 rs vs H1 S1 → RRs c σ ρ2 H0 rs vs H2 S2
  | [], [], _ => trivial
  | _ :: _, _ :: _, h => ⟨RR.step p q h.1, RRs.step p q h.2⟩
  | [], _ :: _, h => h.elim
  | _ :: _, [], h => h.elim
theorem RRs.back (k : ∀ a, H1 a = none → H0 a = none) : ∀ {rs : List R} {vs : List V}, RRs c σ ρ1 H1 rs vs H2 S2 → RRs c σ ρ1 H0 rs vs H2 S2
  | [], [], _ => trivial
  | _ :: _, _ :: _, h => ⟨RR.back h.1 k, RRs.back k h.2⟩
  | [], _ :: _, h => h.elim
  | _ :: _, [], h => h.elim
/-- first one, then the rest -/
theorem Vt.bind {α1 β1 α2 β2 : Type} {rel1 : Sl → Env → Hp → α1 → β1 → Hp → (Addr → Prop) → Prop} {rel2 : Sl → Env → Hp → α2 → β2 → Hp → (Addr → Prop) → Prop} {t1 : Sl → Hp → (β1 → Hp → Prop) → Prop} {f1 : M α1} {f2 : α1 → M α2}
    {k : β1 → Sl → Hp → (β2 → Hp → Prop) → Prop} (h1 : Vt c W rel1 t1 f1)
    (h2 : ∀ σ Hs Ss ρs H S ρ a v res ρ' Q, Stq [] σ ρs Ss Hs σ ρ S H → Rep c σ H S ρ → rel1 σ ρ Hs a v H S → f2 a ρ = some (res, ρ') → GoodE c W σ Hs Ss ρs (rel2 σ ρ' Hs) res ρ' Q → k v σ H Q) :
    Vt c W rel2 (fun σ H Q => t1 σ H fun v H1 => k v σ H1 Q) (f1.bind f2) := by
  intro σ H S ρ res ρ' Q p e g
  unfold M.bind at e
  split at e
  · rename_i a ρ1 e1
    exact h1 σ H S ρ (.ok a) ρ1 _ p e1 fun v H1 S1 p1 q1 r1 => h2 σ H S ρ H1 S1 ρ1 a v res ρ' Q q1 p1 r1 e g
  · rename_i x ρ1 e1
    cases e
    exact h1 σ H S ρ (.error _) _ _ p e1 g
  · cases e
/-- two in a row, then what is made of both -/
theorem Vt.bind2 {α1 β1 α2 β2 α3 β3 : Type} {rel1 : Sl → Env → Hp → α1 → β1 → Hp → (Addr → Prop) → Prop} {rel2 : Sl → Env → Hp → α2 → β2 → Hp → (Addr → Prop) → Prop} {rel3 : Sl → Env → Hp → α3 → β3 → Hp → (Addr → Prop) → Prop}
    {t1 : Sl → Hp → (β1 → Hp → Prop) → Prop} {t2 : Sl → Hp → (β2 → Hp → Prop) → Prop} {f1 : M α1} {f2 : M α2} {f3 : α1 → α2 → M α3} {k : β1 → β2 → Sl → Hp → (β3 → Hp → Prop) → Prop}
    (back : ∀ {σ ρ Ha Hb a b H S}, rel2 σ ρ Ha a b H S → (∀ x, Ha x = none → Hb x = none) → rel2 σ ρ Hb a b H S)
    (stay : ∀ {σ ρ1 ρ2 H0 a v H1 S1 H2 S2}, Rep c σ H1 S1 ρ1 → Stq [] σ ρ1 S1 H1 σ ρ2 S2 H2 → rel1 σ ρ1 H0 a v H1 S1 → rel1 σ ρ2 H0 a v H2 S2) (h1 : Vt c W rel1 t1 f1) (h2 : Vt c W rel2 t2 f2)
    (h3 : ∀ σ Hs Ss ρs H S ρ a x b y res ρ' Q, Stq [] σ ρs Ss Hs σ ρ S H → Rep c σ H S ρ → rel1 σ ρ Hs a x H S → rel2 σ ρ Hs b y H S → f3 a b ρ = some (res, ρ') → GoodE c W σ Hs Ss ρs (rel3 σ ρ' Hs) res ρ' Q → k x y σ H Q) :
    Vt c W rel3 (fun σ H Q => t1 σ H fun x H1 => t2 σ H1 fun y H2 => k x y σ H2 Q) (f1.bind fun a => f2.bind fun b => f3 a b) := by
  refine Vt.bind h1 fun σ Hs Ss ρs H S ρ a x res ρ' Q q p ra e G => ?_
  unfold M.bind at e
  split at e
  · rename_i b ρ2 e2
    exact h2 σ H S ρ (.ok b) ρ2 _ p e2 fun y H2 S2 p2 q2 r2 => h3 σ Hs Ss ρs H2 S2 ρ2 a x b y res ρ' Q (q.trans q2) p2 (stay p q2 ra) (back r2 fun _ => q.gone) e G
  · rename_i x ρ2 e2
    cases e
    exact h2 σ H S ρ (.error _) _ _ p e2 fun C d H' S' v' m1 m2 m3 p3 q3 => G C d H' S' v' m1 m2 m3 p3 (q.trans q3)
  · cases e
theorem backRR {σ : Sl} {ρ : Env} {Ha Hb : Hp} {a : R} {b : V} {H : Hp} {S : Addr → Prop} (h : RR c σ ρ Ha a b H S) (k : ∀ x, Ha x = none → Hb x = none) : RR c σ ρ Hb a b H S := RR.back h k
theorem backB {σ : Sl} {ρ : Env} {Ha Hb : Hp} {a b : Bool} {H : Hp} {S : Addr → Prop} (h : relB σ ρ Ha a b H S) (_ : ∀ x, Ha x = none → Hb x = none) : relB σ ρ Hb a b H S := h
end
/-! ### a result as data -/
def obAt (ρ : Env) (i : Nat) : Option D := match ρ[i]? with
  | some (some (.dat d)) => some d
  | some (some (.own o)) => o.view
  | some (some (.pin o)) => o.view
  | _ => none
def look (ρ : Env) : R → Option D
  | .dat d => some d
  | .own o => o.view
  | .slot i => obAt ρ i
/-- a value read as data: its own object may stand anywhere -/
inductive RpV (c : Cn) (H : Hp) (S : Addr → Prop) : V → D → Prop
  | of {v : V} {d : D} : Rp c.K H S v d → RpV c H S v d
  | lst {a : Addr} {xs : List V} {ds : List D} : H a = some (.lst xs) → RpA c.K H S xs ds → RpV c H S (.ref a) (.list ds)
  | dK {a : Addr} {ks : List (Key × V)} {kvs : List (D × D)} : H a = some (.dK ks) → RpK c.K H S ks kvs → RpV c H S (.ref a) (.dict kvs)
  | st {a : Addr} {n : Nat} {xs : List Int} : xs.Pairwise (· < ·) → H a = some (SetO c.w a (fun j => decide (j ∈ xs)) n) → RpV c H S (.ref a) (setD xs)
theorem ObRp.view {c : Cn} {H : Hp} {S : Addr → Prop} {a : Addr} {o : Ob} {d : D} (h : ObRp c H S a o) (q : o.view = some d) : RpV c H S (.ref a) d := by
  cases o with
  | lst xs => cases q; obtain ⟨vs, e, r⟩ := h; exact .lst e r
  | dic kvs => cases q; obtain ⟨ks, e, r⟩ := h; exact .dK e r
  | set xs => cases q; obtain ⟨p, n, e⟩ := h; exact .st p e
  | exc _ _ => cases q
section
variable {c : Cn} {W : WX} {σ : Sl} {H H1 H2 H0 : Hp} {S S1 S2 : Addr → Prop} {ρ ρ1 ρ2 : Env} {r : R} {v : V} {d : D}
theorem look_ok (p : Rep c σ H S ρ) (h : RR c σ ρ H0 r v H S) (e : look ρ r = some d) : RpV c H S v d := by
  cases r with
  | dat d' => cases e; exact .of h
  | own o => obtain ⟨a, rfl, h1, _⟩ := h; exact h1.view e
  | slot i =>
    have e : obAt ρ i = some d := e
    have h : σ[i]? = some (some v) := h
    unfold obAt at e
    split at e
    · rename_i d' e1
      cases e
      obtain ⟨v', e2, q⟩ := p.dat i _ e1
      rw [h] at e2; cases e2; exact .of q
    · rename_i o e1
      obtain ⟨a, e2, q, _⟩ := p.liv i _ _ e1 rfl
      rw [h] at e2; cases e2; exact q.view e
    · rename_i o e1
      obtain ⟨a, e2, q, _⟩ := p.liv i _ _ e1 rfl
      rw [h] at e2; cases e2; exact q.view e
    · cases e
/-- what an operation on data gives, in a heap that has grown -/
def RO (c : Cn) (H H' : Hp) (S : Addr → Prop) (res : R) (v : V) : Prop := match res with
  | .dat d => Rp c.K H' S v d
  | .own o => ∃ a, v = .ref a ∧ H a = none ∧ ObRp c H' S a o
  | .slot _ => False
theorem RO.fin {H' : Hp} (p : Rep c σ H S ρ) (g : Gro H H') (h : RO c H H' S r v) : RR c σ ρ H r v H' S := by
  cases r with
  | dat d => exact h
  | slot i => exact h.elim
  | own o =>
    obtain ⟨a, e, n, q⟩ := h
    refine ⟨a, e, q, fun z => ?_, fun z => ?_, n⟩
    · obtain ⟨u, eu, _⟩ := p.live a z
      rw [n] at eu; cases eu
    · obtain ⟨u, eu, _⟩ := p.livAt z
      rw [n] at eu; cases eu
theorem RO.good {H' Hs : Hp} {Ss : Addr → Prop} {ρs : Env} {Q : V → Hp → Prop} (q : Stq [] σ ρs Ss Hs σ ρ S H) (p : Rep c σ H S ρ) (G : GoodE c W σ Hs Ss ρs (RR c σ ρ Hs) (.ok r) ρ Q) (g : Gro H H') (h : RO c H H' S r v) : Q v H' :=
  G v H' S (p.gro g) (q.trans (stq_gro g)) (RR.back (RO.fin p g h) fun _ => q.gone)
end
/-! ### operations on data -/
def op1 (g : D → Option R) (a : R) : M R := fun ρ => (look ρ a).bind fun d => (g d).map fun r => (.ok r, ρ)
def op2 (g : D → D → Option R) (a b : R) : M R := fun ρ => (look ρ a).bind fun d => (look ρ b).bind fun e => (g d e).map fun r => (.ok r, ρ)
def xOp1 (g : D → Option R) (fa : M R) : M R := fa.bind (op1 g)
def xOp2 (g : D → D → Option R) (fa fb : M R) : M R := fa.bind fun a => fb.bind fun b => op2 g a b
structure Op2 (X : Cx) (c : Cn) (f : R2 → Prop) (r : R2) (g : D → D → Option R) : Prop where
  h : f r
  s : ∀ H S x y d e res Q, RpV c H S x d → RpV c H S y e → g d e = some res → (∀ v H', Gro H H' → RO c H H' S res v → Q v H') → r x y H Q
abbrev R1 := V → Hp → VK → Prop
structure Op1 (X : Cx) (c : Cn) (f : R1 → Prop) (r : R1) (g : D → Option R) : Prop where
  h : f r
  s : ∀ H S x d res Q, RpV c H S x d → g d = some res → (∀ v H', Gro H H' → RO c H H' S res v → Q v H') → r x H Q
def orR (r r' : R2) : R2 := fun x y H Q => r x y H Q ∨ r' x y H Q
section
variable {c : Cn} {W : WX}
theorem op2_good {g : D → D → Option R} {r : R2} (hr : ∀ H S x y d e res Q, RpV c H S x d → RpV c H S y e → g d e = some res → (∀ v H', Gro H H' → RO c H H' S res v → Q v H') → r x y H Q)
    {σ : Sl} {H H0 H00 Hs : Hp} {S Ss : Addr → Prop} {ρ ρ' ρs : Env} {a b : R} {x y : V} {res : Except Ex R} {Q : V → Hp → Prop} (q : Stq [] σ ρs Ss Hs σ ρ S H) (p : Rep c σ H S ρ) (ha : RR c σ ρ H0 a x H S) (hb : RR c σ ρ H00 b y H S) (e : op2 g a b ρ = some (res, ρ')) (G : GoodE c W σ Hs Ss ρs (RR c σ ρ' Hs) res ρ' Q) : r x y H Q := by
  unfold op2 at e
  cases e1 : look ρ a with
  | none => rw [e1] at e; cases e
  | some d =>
    cases e2 : look ρ b with
    | none => rw [e1, e2] at e; cases e
    | some d2 =>
      rw [e1, e2] at e
      cases e3 : g d d2 with
      | none => simp [e3] at e
      | some r' =>
        simp [e3] at e
        obtain ⟨rfl, rfl⟩ := e
        exact hr H S x y d d2 r' Q (look_ok p ha e1) (look_ok p hb e2) e3 fun v H' g' h => RO.good q p G g' h
theorem Vt.op2 {g : D → D → Option R} {r : R2} (hr : ∀ H S x y d e res Q, RpV c H S x d → RpV c H S y e → g d e = some res → (∀ v H', Gro H H' → RO c H H' S res v → Q v H') → r x y H Q) {ta tb : TE} {fa fb : M R} (ha : VEt c W ta fa) (hb : VEt c W tb fb) :
    VEt c W (tOp r ta tb) (xOp2 g fa fb) :=
  Vt.bind2 (rel1 := RR c) (rel2 := RR c) (rel3 := RR c) (k := fun x y _ H Q => r x y H Q) (fun h k => backRR h k) (fun p q h => RR.step p q h) ha hb fun σ Hs Ss ρs H S ρ a x b y res ρ' Q q p ra rb e G => op2_good hr q p ra rb e G
theorem op1_good {g : D → Option R} {r : R1} (hr : ∀ H S x d res Q, RpV c H S x d → g d = some res → (∀ v H', Gro H H' → RO c H H' S res v → Q v H') → r x H Q)
    {σ : Sl} {H H0 Hs : Hp} {S Ss : Addr → Prop} {ρ ρ' ρs : Env} {a : R} {x : V} {res : Except Ex R} {Q : V → Hp → Prop} (q : Stq [] σ ρs Ss Hs σ ρ S H) (p : Rep c σ H S ρ) (ha : RR c σ ρ H0 a x H S) (e : op1 g a ρ = some (res, ρ')) (G : GoodE c W σ Hs Ss ρs (RR c σ ρ' Hs) res ρ' Q) : r x H Q := by
  unfold op1 at e
  cases e1 : look ρ a with
  | none => rw [e1] at e; cases e
  | some d =>
    rw [e1] at e
    cases e3 : g d with
    | none => simp [e3] at e
    | some r' =>
      simp [e3] at e
      obtain ⟨rfl, rfl⟩ := e
      exact hr H S x d r' Q (look_ok p ha e1) e3 fun v H' g' h => RO.good q p G g' h
theorem Vt.op1 {g : D → Option R} {r : R1} (hr : ∀ H S x d res Q, RpV c H S x d → g d = some res → (∀ v H', Gro H H' → RO c H H' S res v → Q v H') → r x H Q) {ta : TE} {fa : M R} (ha : VEt c W ta fa) :
    VEt c W (tUn r ta) (xOp1 g fa) :=
  Vt.bind (rel1 := RR c) (rel2 := RR c) (k := fun x _ H Q => r x H Q) ha fun σ Hs Ss ρs H S ρ a x res ρ' Q q p ra e G => op1_good hr q p ra e G
end
section
variable {X : Cx} {c : Cn} {W : WX} {a b : Expr} {ta tb : TE} {r : R2} {r1 : R1} {fa fb : M R} {pos : Pos}
/-- a + b and the like -/
theorem VE.bin {op : Operator} {g : D → D → Option R} (ho : Op2 X c (OpR X (binaryOp op)) r g) (ha : VE X c W a ta fa) (hb : VE X c W b tb fb) : VE X c W (.BinOp a op b pos) (tOp r ta tb) (xOp2 g fa fb) :=
  ⟨pe_op ho.h ha.pe hb.pe, Vt.op2 ho.s ha.vt hb.vt⟩
theorem VE.un {op : UnaryOp} {g : D → Option R} (ho : Op1 X c (UnR X (unaryOp op)) r1 g) (ha : VE X c W a ta fa) : VE X c W (.UnaryOp op a pos) (tUn r1 ta) (xOp1 g fa) :=
  ⟨pe_un ho.h ha.pe, Vt.op1 ho.s ha.vt⟩
theorem VE.cmp {op : CmpOp} {g : D → D → Option R} (ho : Op2 X c (OpR X (compareOp op)) r g) (ha : VE X c W a ta fa) (hb : VE X c W b tb fb) (hm : behindInMarks op b = false) : VE X c W (.Compare a [op] [b] pos) (tOp r ta tb) (xOp2 g fa fb) :=
  ⟨pe_cmpR ho.h ha.pe hb.pe hm, Vt.op2 ho.s ha.vt hb.vt⟩
/-- an expression as a test: it gives a bool -/
def xB (fa : M R) : M Bool := fa.bind fun r => fun ρ => match r with
  | .dat (.bool b) => some (.ok b, ρ)
  | _ => none
theorem Vt.bl {t : TE} {fa : M R} (ha : VEt c W t fa) : VTt c W (tTest t) (xB fa) := by
  refine Vt.bind (rel2 := relB) (k := fun x _ H Q => ∃ k, x = .bl k ∧ Q k H) ha ?_
  intro σ Hs Ss ρs H S ρ a x res ρ' Q q p ra e G
  split at e
  · rename_i b
    cases e
    cases ra
    exact ⟨b, rfl, G b H S p q rfl⟩
  · cases e
theorem VT.cmp {op : CmpOp} {g : D → D → Option R} (ho : Op2 X c (OpR X (compareOp op)) r g) (ha : VE X c W a ta fa) (hb : VE X c W b tb fb) (hm : behindInMarks op b = false) : VT X c W (.Compare a [op] [b] pos) (tTest (tOp r ta tb)) (xB (xOp2 g fa fb)) :=
  ⟨pt_cmpR ho.h ha.pe hb.pe hm, Vt.bl (Vt.op2 ho.s ha.vt hb.vt)⟩
end
/-! ### names, constants -/
def xVar (i : Nat) : M R := fun ρ => match ρ[i]? with
  | some (some (.dat d)) => some (.ok (.dat d), ρ)
  | some (some _) => some (.ok (.slot i), ρ)
  | _ => none
def xC (d : D) : M R := fun ρ => some (.ok (.dat d), ρ)
theorem Vt.var {c : Cn} {W : WX} (i : Nat) : VEt c W (tVar i) (xVar i) := by
  intro σ H S ρ res ρ' Q p e G
  unfold xVar at e
  split at e
  · rename_i d e1
    cases e
    obtain ⟨v, e2, q⟩ := p.dat i d e1
    exact ⟨v, e2, G v H S p .refl q⟩
  · rename_i o n e1
    cases e
    cases o with
    | dat d => exact absurd e1 (by simpa using n d)
    | own o =>
      obtain ⟨a, e2, q, _⟩ := p.liv i _ _ e1 rfl
      exact ⟨_, e2, G _ H S p .refl e2⟩
    | pin o =>
      obtain ⟨a, e2, q, _⟩ := p.liv i _ _ e1 rfl
      exact ⟨_, e2, G _ H S p .refl e2⟩
  · cases e
theorem Vt.con {c : Cn} {W : WX} {x : V} {d : D} (h : ∀ K H S, Rp K H S x d) : VEt c W (tC x) (xC d) := by
  intro σ H S ρ res ρ' Q p e G
  cases e
  exact G x H S p .refl (h _ _ _)
section
variable {X : Cx} {c : Cn} {W : WX} {pos : Pos} {j : Nat}
theorem VE.of {e : Expr} {t : TE} {f : M R} (h1 : PE X e t) (h2 : VEt c W t f) : VE X c W e t f := ⟨h1, h2⟩
theorem VE.int {i : Int} {k} : VE X c W (.Constant (.int i) k pos) (tC (.int i)) (xC (.int i)) := ⟨pe_int, Vt.con fun _ _ _ => .int i⟩
theorem VE.bl {b : Bool} {k} : VE X c W (.Constant (.bool b) k pos) (tC (.bl b)) (xC (.bool b)) := ⟨pe_bl, Vt.con fun _ _ _ => .bl b⟩
theorem VE.non {k} : VE X c W (.Constant .none k pos) (tC .non) (xC .none) := ⟨pe_non, Vt.con fun _ _ _ => .non⟩
theorem VE.str {x : Str} {k} : VE X c W (.Constant (.str x) k pos) (tC (.str x)) (xC (.str x)) := ⟨pe_str, Vt.con fun _ _ _ => .str x⟩
theorem VE.var {i : Nat} {e : Expr} (h : PE X e (tVar i)) : VE X c W e (tVar i) (xVar i) := ⟨h, Vt.var i⟩
end
end Vm
/-! ### powers of wide numbers, math.comb, ways to choose -/
namespace Ky
open PySem PySem.Spec PyProof.Rows L2
/-- a ** b of together at most 2 ^ 27 bits -/
def CPowW (i j : Int) : Prop := 0 ≤ j ∧ (Builtin.Int.intBits i : Int) * j ≤ 2 ^ 27
theorem op_powW {X : Cx} : OpR X (binaryOp .Pow) (rI CPowW fun i j => .int (i ^ j.toNat)) := opI fun _ _ _ _ _ _ _ c z => pow_int c.1 c.2 z
theorem powW_ok {i : Int} {a : Nat} (n : Nat) (h : i.natAbs < 2 ^ a) (h2 : a * n ≤ 134217728) : CPowW i (n : Int) := by
  refine ⟨Int.natCast_nonneg _, ?_⟩
  have b := PyProof.Rows.intBits_le h
  have b2 : Builtin.Int.intBits i * n ≤ a * n := Nat.mul_le_mul_right n b
  have e : (Builtin.Int.intBits i : Int) * (n : Int) = ((Builtin.Int.intBits i * n : Nat) : Int) := (Int.natCast_mul _ _).symm
  rw [e]
  have e2 : (2 : Int) ^ 27 = 134217728 := by decide
  rw [e2]
  omega
/-- ways to choose k of n -/
def ch : Nat → Nat → Nat
  | _, 0 => 1
  | 0, _ + 1 => 0
  | n + 1, k + 1 => ch n k + ch n (k + 1)
theorem ch_zero (n : Nat) : ch n 0 = 1 := by cases n <;> rfl
theorem ch_succ (n k : Nat) : ch (n + 1) (k + 1) = ch n k + ch n (k + 1) := rfl
theorem ch_above : ∀ {n k : Nat}, n < k → ch n k = 0
  | 0, k + 1, _ => rfl
  | n + 1, k + 1, h => by rw [ch_succ, ch_above (by omega), ch_above (by omega)]
theorem ch_self : ∀ n : Nat, ch n n = 1
  | 0 => rfl
  | n + 1 => by rw [ch_succ, ch_self n, ch_above (Nat.lt_succ_self n)]
theorem ch_pos : ∀ {n k : Nat}, k ≤ n → 1 ≤ ch n k
  | n, 0, _ => by rw [ch_zero]; exact Nat.le_refl 1
  | n + 1, k + 1, h => by
    rw [ch_succ]
    have := ch_pos (n := n) (k := k) (by omega)
    omega
theorem ch_mono (n k : Nat) : ch n k ≤ ch (n + 1) k := by
  cases k with
  | zero => rw [ch_zero, ch_zero]; exact Nat.le_refl 1
  | succ k => rw [ch_succ]; omega
theorem ch_lt : ∀ n k : Nat, ch n k < 2 ^ (n + 1)
  | n, 0 => by
    rw [ch_zero]
    exact Nat.one_lt_two_pow (by omega)
  | 0, k + 1 => by show 0 < 2; decide
  | n + 1, k + 1 => by
    have h1 := ch_lt n k
    have h2 := ch_lt n (k + 1)
    rw [ch_succ, Nat.pow_succ 2 (n + 1)]
    omega
theorem ch_sym : ∀ a b : Nat, ch (a + b) a = ch (a + b) b
  | 0, b => by rw [ch_zero, Nat.zero_add, ch_self]
  | a + 1, 0 => by rw [ch_zero, Nat.add_zero, ch_self]
  | a + 1, b + 1 => by
    have e1 : ch (a + (b + 1)) a = ch (a + (b + 1)) (b + 1) := ch_sym a (b + 1)
    have e2 : ch (a + 1 + b) (a + 1) = ch (a + 1 + b) b := ch_sym (a + 1) b
    have e3 : a + 1 + (b + 1) = (a + (b + 1)) + 1 := by omega
    have e4 : a + 1 + b = a + (b + 1) := by omega
    rw [e4] at e2
    rw [e3, ch_succ, ch_succ, e1, e2]
    exact Nat.add_comm _ _
theorem ch_flip {n k : Nat} (h : k ≤ n) : ch n (n - k) = ch n k := by
  have := ch_sym k (n - k)
  rw [show k + (n - k) = n by omega] at this
  exact this.symm
section
open PySem.W
theorem fp_up (n : Int) : ∀ k : Nat, Builtin.Math.fallingProduct (n + 1) (k + 1) = (n + 1) * Builtin.Math.fallingProduct n k
  | 0 => by
    rw [mc_fp_succ, mc_fp_zero, mc_fp_zero]
    omega
  | k + 1 => by
    rw [mc_fp_succ (n + 1) (k + 1), fp_up n k, mc_fp_succ n k, Int.mul_assoc]
    have : n + 1 - ((k + 1 : Nat) : Int) = n - (k : Int) := by omega
    rw [this]
theorem ch_fp : ∀ n k : Nat, (ch n k : Int) * Builtin.Math.fallingProduct (k : Int) k = Builtin.Math.fallingProduct (n : Int) k
  | n, 0 => by rw [ch_zero, mc_fp_zero, mc_fp_zero]; rfl
  | 0, k + 1 => by
    have z : Builtin.Math.fallingProduct ((0 : Nat) : Int) (k + 1) = 0 := by
      clear ch_fp
      induction k with
      | zero => rw [mc_fp_succ, mc_fp_zero]; rfl
      | succ k ih => rw [mc_fp_succ, ih]; exact Int.zero_mul _
    rw [z]
    exact Int.zero_mul _
  | n + 1, k + 1 => by
    have h1 := ch_fp n k
    have h2 := ch_fp n (k + 1)
    have e1 := fp_up (k : Int) k
    have e2 := fp_up (n : Int) k
    have e3 := mc_fp_succ (n : Int) k
    have c1 : (((k + 1 : Nat)) : Int) = (k : Int) + 1 := by omega
    have c2 : (((n + 1 : Nat)) : Int) = (n : Int) + 1 := by omega
    rw [c1] at h2 ⊢
    rw [c2]
    rw [e1] at h2 ⊢
    rw [e2, ch_succ, Int.natCast_add, Int.add_mul, h2, e3]
    rw [← h1]
    generalize Builtin.Math.fallingProduct (k : Int) k = z
    generalize (ch n k : Int) = y
    rw [show y * (((k : Int) + 1) * z) = (y * z) * ((k : Int) + 1) by rw [Int.mul_comm ((k : Int) + 1) z, Int.mul_assoc], ← Int.mul_add, Int.mul_comm ((n : Int) + 1)]
    congr 1
    omega
theorem comb_ch {n k : Nat} : mcComb (n : Int) (k : Int) = (ch n k : Int) := by
  by_cases h : n < k
  · rw [mcComb_above (by omega), ch_above h]
    rfl
  · obtain ⟨m, hm, e⟩ : ∃ m : Nat, min (k : Int) ((n : Int) - (k : Int)) = (m : Int) ∧ ch n k = ch n m := by
      by_cases h2 : k ≤ n - k
      · exact ⟨k, by omega, rfl⟩
      · exact ⟨n - k, by omega, (ch_flip (by omega)).symm⟩
    rw [mcComb_at (Int.natCast_nonneg _) (by omega) hm, e, Int.toNat_natCast, ← ch_fp n m]
    have p := mc_fp_pos (n := (m : Int)) m (Int.le_refl _)
    exact Int.mul_ediv_cancel _ (by omega)
end
/-- comb(n, k) -/
def rComb : List V → Hp → VK → Prop := fun vs H Q => ∃ n k : Nat, vs = [.int (n : Int), .int (k : Int)] ∧ n ≤ 18000 ∧ Q (.int (ch n k : Int)) H
theorem cr_comb {X : Cx} : CallR X (.builtin "math.comb") rComb := by
  intro pins s σ H vs us Q I r h
  obtain ⟨n, k, rfl, hn, q⟩ := h
  obtain ⟨t, u, rfl⟩ := Vals.int2 r
  refine PySem.W.mc_comb_v (Int.natCast_nonneg _) (Int.natCast_nonneg _) (by omega) (.inr (by omega)) comb_ch ?_
  exact ⟨.int _, H, I.tok _, ⟨_, rfl⟩, q⟩
/-- the bits of a ceiling -/
theorem ceil_bits {w e : Nat} (he : 1 ≤ e) (hw : 1 ≤ w) (b : Nat) : bl ((w + e - 1) / e - 1) ≤ b ↔ w ≤ 2 ^ b * e := by
  rw [bl_le]
  have hd : 1 ≤ (w + e - 1) / e := (Nat.le_div_iff_mul_le he).mpr (by omega)
  have h1 : (w + e - 1) / e ≤ 2 ^ b ↔ (w + e - 1) / e < 2 ^ b + 1 := Nat.lt_succ_iff.symm
  have h2 : (w + e - 1) / e < 2 ^ b + 1 ↔ w + e - 1 < (2 ^ b + 1) * e := Nat.div_lt_iff_lt_mul he
  have h3 : (2 ^ b + 1) * e = 2 ^ b * e + e := Nat.succ_mul _ _
  have hp : 0 < 2 ^ b := Nat.pow_pos (by decide)
  generalize (w + e - 1) / e = d at *
  generalize 2 ^ b = p at *
  generalize p * e = pe at *
  omega
/-- least b with w ≤ 2 ^ b * e -/
def lb (w e : Nat) : Nat := bl ((w + e - 1) / e - 1)
theorem lb_ok {w e : Nat} (he : 1 ≤ e) (hw : 1 ≤ w) : w ≤ 2 ^ lb w e * e := (ceil_bits he hw _).mp (Nat.le_refl _)
theorem lb_least {w e b : Nat} (he : 1 ≤ e) (hw : 1 ≤ w) (h : b < lb w e) : 2 ^ b * e < w := by
  refine Nat.lt_of_not_le fun z => ?_
  have := (ceil_bits he hw b).mpr z
  unfold lb at h
  omega
theorem lb_mono {w e e2 : Nat} (he : 1 ≤ e) (hw : 1 ≤ w) (h : e ≤ e2) : lb w e2 ≤ lb w e :=
  (ceil_bits (Nat.le_trans he h) hw _).mpr (Nat.le_trans (lb_ok he hw) (Nat.mul_le_mul_left _ h))
/-! ### wells of drawn numbers -/
def WellAt (H : Hp) (a : Addr) (k : Nat) : Prop := ∃ x y z : Int, H a = some (.lst [.int x, .int y, .int z]) ∧ 0 ≤ y ∧ y < 2 ^ 100 ∧ 0 ≤ z ∧ z ≤ (k : Int)
theorem WellAt.same {H H' : Hp} {a : Addr} {k : Nat} (h : WellAt H a k) (s : Same H H') : WellAt H' a k := by
  obtain ⟨x, y, z, e, r⟩ := h
  exact ⟨x, y, z, s _ _ e, r⟩
theorem WellAt.mono {H : Hp} {a : Addr} {j k : Nat} (h : WellAt H a j) (l : j ≤ k) : WellAt H a k := by
  obtain ⟨x, y, z, e, r0, r1, r2, r3⟩ := h
  exact ⟨x, y, z, e, r0, r1, r2, by omega⟩
theorem WellAt.sq {K : PySem.W.Frag} {H : Hp} {a : Addr} {k : Nat} (h : WellAt H a k) : ∃ x y z : Int, SqL K H a [.int x, .int y, .int z] := by
  obtain ⟨x, y, z, e, _⟩ := h
  exact ⟨x, y, z, SqL.of e⟩
def spWell (K : PySem.W.Frag) : Sp := fun vs H Q _ => ∃ (s : Addr) (ns : List Int) (j : Nat), vs = [.ref s, .int (j : Int)] ∧ SqL K H s (ns.map V.int) ∧ j < 1000000 ∧
  ∀ (H' : Hp) (p : Addr), Same H H' → H p = none → WellAt H' p 0 → Q (.ref p) H'
def spDip : Sp := fun vs H Q _ => ∃ (a : Addr) (m k : Nat), vs = [.ref a, .int (m : Int)] ∧ WellAt H a k ∧ k < 1000000 ∧ 0 < m ∧ m < 2 ^ 200 ∧
  ∀ (t : Nat) (H' : Hp), t < m → Off a H H' → WellAt H' a (k + 1) → Q (.int (t : Int)) H'
def spWaysP : Sp := fun vs H Q _ => ∃ k n : Nat, vs = [.int (k : Int), .int (n : Int)] ∧ k ≤ 18000 ∧ Q (.int (ch k n : Int)) H
def spLeastP : Sp := fun vs H Q _ => ∃ u n f : Nat, vs = [.int (u : Int), .int (n : Int), .int (f : Int)] ∧ n ≤ u ∧ u ≤ 2000 ∧ n + f ≤ 2000 ∧ Q (.int (lb (ch u n) (ch (n + f) n) : Int)) H
def spWaysL : Sp := fun vs H Q _ => ∃ k n : Nat, vs = [.int (k : Int), .int (n : Int)] ∧ k ≤ 100000 ∧ n ≤ 100000 ∧ ∀ H', Same H H' → Q (.int (ch k n : Int)) H'
def spLeastL : Sp := fun vs H Q _ => ∃ u n f : Nat, vs = [.int (u : Int), .int (n : Int), .int (f : Int)] ∧ n ≤ u ∧ u ≤ 2000 ∧ n + f ≤ 2000 ∧ ∀ H', Same H H' → Q (.int (lb (ch u n) (ch (n + f) n) : Int)) H'
/-- the row of ways to choose of t things -/
def chRow (t n : Nat) : List V := (List.range (n + 1)).map fun j => V.int (ch t j : Int)
theorem chRow_len (t n : Nat) : (chRow t n).length = n + 1 := by
  unfold chRow
  rw [List.length_map, List.length_range]
theorem chRow_get {t n j : Nat} (h : j ≤ n) : (chRow t n)[j]? = some (V.int (ch t j : Int)) := by
  unfold chRow
  rw [List.getElem?_map, List.getElem?_range (by omega)]
  rfl
theorem chRow_succ (t n : Nat) : V.int 1 :: (List.range n).map (fun j => V.int ((ch t j : Int) + (ch t (j + 1) : Int))) = chRow (t + 1) n := by
  unfold chRow
  rw [List.range_succ_eq_map, List.map_cons, List.map_map]
  refine congr (congrArg List.cons ?_) (List.map_congr_left fun j _ => ?_)
  · rw [ch_zero]
    rfl
  · show V.int ((ch t j : Int) + (ch t (j + 1) : Int)) = V.int ((ch (t + 1) (j + 1) : Nat) : Int)
    rw [ch_succ, Int.natCast_add]
theorem chRow_zero (n : Nat) : V.int 1 :: (List.replicate n [V.int 0]).flatten = chRow 0 n := by
  unfold chRow
  rw [List.range_succ_eq_map, List.map_cons, List.map_map]
  refine congr (congrArg List.cons ?_) ?_
  · rw [ch_zero]
    rfl
  · have e : (List.replicate n [V.int 0]).flatten = List.replicate n (V.int 0) := by
      induction n with
      | zero => rfl
      | succ n ih => rw [List.replicate_succ, List.replicate_succ, List.flatten_cons, ih]; rfl
    rw [e]
    refine List.ext_getElem? fun i => ?_
    rw [List.getElem?_map]
    by_cases h : i < n
    · rw [List.getElem?_range h, List.getElem?_replicate, if_pos h]
      rfl
    · rw [List.getElem?_eq_none (by rw [List.length_replicate]; omega), List.getElem?_eq_none (by rw [List.length_range]; omega)]
      rfl
theorem lb_small {w e a : Nat} (he : 1 ≤ e) (hw : 1 ≤ w) (h : w < 2 ^ a) : lb w e ≤ a := (ceil_bits he hw a).mpr (Nat.le_trans (Nat.le_of_lt h) (Nat.le_mul_of_pos_right _ he))
/-- min of three -/
theorem min3_int (a b c : Int) : nuMin3 (.int a) (.int b) (.int c) = some (.int (min (min a b) c)) := by
  have e : ∀ i j : Int, nuMin2 (.int i) (.int j) = some (.int (min i j)) := fun i j => by
    show some (if decide (j < i) = true then V.int j else V.int i) = _
    by_cases h : j < i
    · rw [decide_eq_true h, if_pos rfl, Int.min_eq_right (by omega)]
    · rw [decide_eq_false h, if_neg (by decide), Int.min_eq_left (by omega)]
  show (nuMin2 (.int a) (.int b)).bind (fun m => nuMin2 m (.int c)) = _
  rw [e]
  exact e _ _
theorem Off.to_same {p : Addr} {H H1 H2 : Hp} (s : Same H H1) (np : H p = none) (o : Off p H1 H2) : Same H H2 := fun b u e => o b u (ne_of_none e np) (s b u e)
theorem WellAt.ne {p q : Addr} {k : Nat} {H : Hp} (w : WellAt H p k) (hq : H q = none) : q ≠ p := by
  obtain ⟨_, _, _, e, _⟩ := w
  exact (ne_of_none e hq).symm
end Ky
/-! ### operations -/
namespace Vm
open PySem PySem.Spec PyProof.Rows L2 Ky
/-- the context is one of the program's -/
structure Fit (X : Cx) (c : Cn) : Prop where
  K : X.K = c.K
  mg : X.mg = c.mg
  w : X.w = c.w
section
variable {c : Cn} {H : Hp} {S : Addr → Prop} {v : V}
theorem RpV.int_ {i : Int} (h : RpV c H S v (.int i)) : v = .int i := by
  cases h with | of h => cases h; rfl
theorem RpV.bl_ {b : Bool} (h : RpV c H S v (.bool b)) : v = .bl b := by
  cases h with | of h => cases h; rfl
theorem RpV.non_ (h : RpV c H S v .none) : v = .non := by
  cases h with | of h => cases h; rfl
theorem RpV.str_ {x : Str} (h : RpV c H S v (.str x)) : v = .str x := by
  cases h with | of h => cases h; rfl
theorem RpV.lst_ {ds : List D} (h : RpV c H S v (.list ds)) : ∃ a xs, v = .ref a ∧ SqL c.K H a xs ∧ RpA c.K H S xs ds := by
  cases h with
  | of h => cases h with | lst h1 h2 => exact ⟨_, _, rfl, h1.sq, h2⟩
  | lst h1 h2 => exact ⟨_, _, rfl, .of h1, h2⟩
theorem RpV.tup_ {ds : List D} (h : RpV c H S v (.tuple ds)) : ∃ a xs, v = .ref a ∧ SqT c.K H a xs ∧ RpA c.K H S xs ds := by
  cases h with
  | of h => cases h with | tup h1 h2 => exact ⟨_, _, rfl, h1, h2⟩
theorem key_none : ∀ {ks : List (Key × V)} {d : D} {kvs : List (D × D)} {K : PySem.W.Frag}, ¬ RpK K H S ks ((.none, d) :: kvs) := fun {ks d kvs K} h => by
  generalize e : ((PyData.none, d) :: kvs) = l at h
  cases h with
  | nil => cases e
  | cons _ _ =>
    rename_i k _ _ _ _ _ _
    cases k <;> simp [keyD] at e
theorem RpV.set_ {xs : List Int} (h : RpV c H S v (setD xs)) : ∃ a n, v = .ref a ∧ xs.Pairwise (· < ·) ∧ H a = some (SetO c.w a (fun j => decide (j ∈ xs)) n) := by
  unfold setD at h
  generalize e : PyData.dict [(.none, .list (xs.map .int))] = d at h
  cases h with
  | of h =>
    subst e
    cases h with
    | dK _ _ h3 => exact (key_none h3).elim
  | lst _ _ => cases e
  | dK _ h =>
    cases e
    exact (key_none h).elim
  | st h1 h2 =>
    have inj : ∀ {l m : List Int}, l.map PyData.int = m.map PyData.int → l = m := fun {l} => by
      induction l with
      | nil => intro m h; cases m with | nil => rfl | cons _ _ => cases h
      | cons x l ih => intro m h; cases m with | nil => cases h | cons _ _ => simp at h; rw [h.1, ih (by simpa using h.2)]
    unfold setD at e
    injection e with e
    injection e with e _
    injection e with _ e
    injection e with e
    cases inj e
    exact ⟨_, _, rfl, h1, h2⟩
end
section
variable {K : PySem.W.Frag} {H : Hp} {S : Addr → Prop} {v : V}
theorem RpA.length : ∀ {vs : List V} {ds : List D}, RpA K H S vs ds → vs.length = ds.length
  | _, _, .nil => rfl
  | _, _, .cons _ h => congrArg Nat.succ (RpA.length h)
theorem RpA.get : ∀ {vs : List V} {ds : List D} {i : Nat} {d : D}, RpA K H S vs ds → ds[i]? = some d → ∃ v, vs[i]? = some v ∧ Rp K H S v d
  | _, _, _, _, .nil, e => by simp at e
  | _, _, 0, _, .cons r _, e => by simp at e; subst e; exact ⟨_, rfl, r⟩
  | _, _, i + 1, d, .cons _ t, e => by
    obtain ⟨u, h1, h2⟩ := RpA.get (i := i) (d := d) t (by simpa using e)
    exact ⟨u, by simpa using h1, h2⟩
theorem RpA.app : ∀ {xs ys : List V} {us ws : List D}, RpA K H S xs us → RpA K H S ys ws → RpA K H S (xs ++ ys) (us ++ ws)
  | _, _, _, _, .nil, s => s
  | _, _, _, _, .cons r t, s => .cons r (RpA.app t s)
theorem RpA.take : ∀ {xs : List V} {us : List D} (n : Nat), RpA K H S xs us → RpA K H S (xs.take n) (us.take n)
  | _, _, 0, _ => .nil
  | _, _, _ + 1, .nil => .nil
  | _, _, n + 1, .cons r t => .cons r (RpA.take n t)
theorem RpA.drop : ∀ {xs : List V} {us : List D} (n : Nat), RpA K H S xs us → RpA K H S (xs.drop n) (us.drop n)
  | _, _, 0, r => r
  | _, _, _ + 1, .nil => .nil
  | _, _, n + 1, .cons _ t => RpA.drop n t
theorem RpA.rev {xs : List V} {us : List D} (h : RpA K H S xs us) : RpA K H S xs.reverse us.reverse := by
  induction xs generalizing us with
  | nil => cases h; exact .nil
  | cons x xs ih =>
    cases h with
    | cons r t =>
      rw [List.reverse_cons, List.reverse_cons]
      exact (ih t).app (.cons r .nil)
theorem RpA.erase : ∀ {xs : List V} {us : List D} (n : Nat), RpA K H S xs us → RpA K H S (xs.eraseIdx n) (us.eraseIdx n)
  | _, _, _, .nil => .nil
  | _, _, 0, .cons _ t => t
  | _, _, n + 1, .cons r t => .cons r (RpA.erase n t)
theorem RpA.set {x : V} {d : D} (r : Rp K H S x d) : ∀ {xs : List V} {us : List D} (i : Nat), RpA K H S xs us → RpA K H S (xs.set i x) (us.set i d)
  | _, _, _, .nil => .nil
  | _, _, 0, .cons _ t => .cons r t
  | _, _, i + 1, .cons q t => .cons q (RpA.set r i t)
theorem RpA.of_map {α : Type} {f : α → V} {g : α → D} (h : ∀ a, Rp K H S (f a) (g a)) : ∀ l : List α, RpA K H S (l.map f) (l.map g)
  | [] => .nil
  | a :: l => .cons (h a) (RpA.of_map h l)
theorem RpA.nil_iff {xs : List V} {us : List D} (h : RpA K H S xs us) : xs = [] ↔ us = [] := by
  cases h <;> simp
mutual
theorem Rp.dp : ∀ {v : V} {d : D}, Rp K H S v d → d.hasDict = false → Dp K H v d
  | _, _, .non, _ => .non
  | _, _, .bl b, _ => .bl b
  | _, _, .int i, _ => .int i
  | _, _, .str x, _ => .str x
  | _, _, .lst h1 h2, e => .lst h1.sq (RpA.dp h2 (by simpa [PyData.hasDict] using e))
  | _, _, .tup h1 h2, e => .tup h1 (RpA.dp h2 (by simpa [PyData.hasDict] using e))
  | _, _, .dK _ _ _, e => by simp [PyData.hasDict] at e
theorem RpA.dp : ∀ {vs : List V} {ds : List D}, RpA K H S vs ds → PyData.hasDictAll ds = false → DpAll K H vs ds
  | _, _, .nil, _ => .nil
  | _, _, .cons h1 h2, e => by
    have e' := e
    simp [PyData.hasDictAll] at e'
    exact .cons (Rp.dp h1 e'.1) (RpA.dp h2 e'.2)
end
theorem RpV.dp {c : Cn} {d : D} (h : RpV c H S v d) (e : d.hasDict = false) : Dp c.K H v d := by
  cases h with
  | of h => exact h.dp e
  | lst h1 h2 => exact .lst (.of h1) (h2.dp (by simpa [PyData.hasDict] using e))
  | dK _ _ => simp [PyData.hasDict] at e
  | st _ _ => simp [PyData.hasDict, setD] at e
end

/-! ### + - * // % ** and on bits -/
def dAdd : D → D → Option R
  | .int i, .int j => some (.dat (.int (i + j)))
  | .str x, .str y => if x.length + y.length ≤ sizeLine then some (.dat (.str (x ++ y))) else none
  | .list xs, .list ys => if xs.length + ys.length ≤ sizeLine then some (.own (.lst (xs ++ ys))) else none
  | .tuple xs, .tuple ys => if xs.length + ys.length ≤ sizeLine then some (.dat (.tuple (xs ++ ys))) else none
  | _, _ => none
def rCatG (K : PySem.W.Frag) : R2 := fun x y H Q => ∃ l b xs zs, x = .ref l ∧ y = .ref b ∧ SqL K H l xs ∧ SqL K H b zs ∧ xs.length + zs.length ≤ sizeLine ∧ ∀ p, H p = none → Q (.ref p) (upd H p (.lst (xs ++ zs)))
theorem op_catG {X : Cx} : OpR X (binaryOp .Add) (rCatG X.K) := by
  intro pins s σ H x y v u Q I rx ry h
  obtain ⟨l, b, xs, zs, rfl, rfl, hH, hB, hz, q⟩ := h
  cases rx
  cases ry
  obtain ⟨its, r, hl, _⟩ := I.list hH
  obtain ⟨its2, r2, hl2, _⟩ := I.list hB
  have n1 := r.length
  have n2 := r2.length
  obtain ⟨⟨cls, dd, data, sl⟩, ho, hc, n, hd⟩ := id hl.isList
  obtain ⟨⟨cls2, dd2, data2, sl2⟩, ho2, hc2, m, hd2⟩ := id hl2.isList
  simp only at hc hd hc2 hd2
  subst hc hd hc2 hd2
  have e : its.toArray ++ its2.toArray = (its ++ its2).toArray := by simp
  refine concat_meets ⟨_, ho, rfl⟩ ⟨_, ho2, rfl⟩ noFill_list_add seq_list_add PySem.F.slot_list_add PySem.F.entry_list_add (PySem.F.args_list_add_2 _ _) (list_addW l b its.toArray its2.toArray n m dd dd2 sl sl2 (by rw [List.size_toArray, List.size_toArray]; omega)) ⟨ho, ho2, ?_⟩
  rw [e]
  exact ⟨.ref _, _, I.lnew (t' := s.toks) (r.append r2) (by rw [List.length_append]; omega), rfl, q _ I.fresh⟩
theorem gro_new {H : Hp} {p : Addr} {o : HO} (n : H p = none) : Gro H (upd H p o) := Gro.of (same_upd n)
theorem Rp.gro {K : PySem.W.Frag} {H H' : Hp} {S : Addr → Prop} {v : V} {d : D} (g : Gro H H') (h : Rp K H S v d) : Rp K H' S v d := h.keep (Gro.kp g) fun _ z => z
theorem RpA.gro {K : PySem.W.Frag} {H H' : Hp} {S : Addr → Prop} {v : List V} {d : List D} (g : Gro H H') (h : RpA K H S v d) : RpA K H' S v d := h.keep (Gro.kp g) fun _ z => z
section
variable {X : Cx} {c : Cn}
/-- a new list; a new tuple -/
theorem ro_lst {H : Hp} {S : Addr → Prop} {p : Addr} {vs : List V} {xs : List D} (n : H p = none) (r : RpA c.K H S vs xs) : Gro H (upd H p (.lst vs)) ∧ RO c H (upd H p (.lst vs)) S (.own (.lst xs)) (.ref p) :=
  ⟨gro_new n, p, rfl, n, vs, upd_same, r.gro (gro_new n)⟩
theorem ro_tup {H : Hp} {S : Addr → Prop} {p : Addr} {vs : List V} {xs : List D} (n : H p = none) (r : RpA c.K H S vs xs) : Gro H (upd H p (.tup vs)) ∧ RO c H (upd H p (.tup vs)) S (.dat (.tuple xs)) (.ref p) :=
  ⟨gro_new n, Rp.tup (.inl (.inl upd_same)) (r.gro (gro_new n))⟩
def rAddS : R2 := fun x y H Q => ∃ i j, x = .str i ∧ y = .str j ∧ i.length + j.length ≤ sizeLine ∧ Q (.str (i ++ j)) H
theorem o_add (k : Fit X c) : Op2 X c (OpR X (binaryOp .Add)) (orR (rI0 fun i j => .int (i + j)) (orR rAddS (orR (rCatG c.K) (rCatA c.K)))) dAdd := by
  refine ⟨by rw [← k.K]; exact (op_add.or (op_add_str.or ((op_catG (X := X)).or op_catA))), ?_⟩
  intro H S x y d e res Q hx hy hg G
  unfold dAdd at hg
  split at hg
  · cases hg
    exact .inl ⟨_, _, hx.int_, hy.int_, G _ _ (Gro.refl H) (.int _)⟩
  · split at hg
    · rename_i h
      cases hg
      exact .inr (.inl ⟨_, _, hx.str_, hy.str_, h, G _ _ (Gro.refl H) (.str _)⟩)
    · cases hg
  · split at hg
    · rename_i h
      cases hg
      obtain ⟨a, vs, rfl, s1, r1⟩ := hx.lst_
      obtain ⟨b, ws, rfl, s2, r2⟩ := hy.lst_
      refine .inr (.inr (.inl ⟨a, b, vs, ws, rfl, rfl, s1, s2, by rw [r1.length, r2.length]; exact h, fun p n => ?_⟩))
      obtain ⟨g, o⟩ := ro_lst n (r1.app r2)
      exact G _ _ g o
    · cases hg
  · split at hg
    · rename_i h
      cases hg
      obtain ⟨a, vs, rfl, s1, r1⟩ := hx.tup_
      obtain ⟨b, ws, rfl, s2, r2⟩ := hy.tup_
      refine .inr (.inr (.inr ⟨a, b, vs, ws, rfl, rfl, s1, s2, by rw [r1.length, r2.length]; exact h, fun e => ?_, fun e1 e2 => ?_, fun _ _ p n => ?_⟩))
      · have e := r1.nil_iff.mp e
        subst e
        exact G _ _ (Gro.refl H) (Rp.tup s2 r2)
      · have e := r2.nil_iff.mp e2
        subst e
        rw [List.append_nil] at G
        exact G _ _ (Gro.refl H) (Rp.tup s1 r1)
      · obtain ⟨g, o⟩ := ro_tup n (r1.app r2)
        exact G _ _ g o
    · cases hg
  · cases hg
/-- of two ints -/
def dInt (C : Int → Int → Bool) (g : Int → Int → D) : D → D → Option R
  | .int i, .int j => if C i j then some (.dat (g i j)) else none
  | _, _ => none
theorem o_int {f : Value → Value → Sem Value} {P : Int → Int → Prop} {C : Int → Int → Bool} {g : Int → Int → V} {gd : Int → Int → D} (h : OpR X f (rI P g)) (hC : ∀ i j, C i j = true → P i j) (hg : ∀ i j K H S, Rp K H S (g i j) (gd i j)) : Op2 X c (OpR X f) (rI P g) (dInt C gd) := by
  refine ⟨h, ?_⟩
  intro H S x y d e res Q hx hy he G
  unfold dInt at he
  split at he
  · split at he
    · rename_i hc
      cases he
      exact ⟨_, _, hx.int_, hy.int_, hC _ _ hc, G _ _ (Gro.refl H) (hg _ _ _ _ _)⟩
    · cases he
  · cases he
theorem rI_of {g : Int → Int → V} {f : Value → Value → Sem Value} (h : OpR X f (rI0 g)) : OpR X f (rI (fun _ _ => True) g) := by
  intro pins s σ H x y v u Q I rx ry q
  obtain ⟨i, j, e1, e2, _, q⟩ := q
  exact h pins s σ H x y v u Q I rx ry ⟨i, j, e1, e2, q⟩
def cMul (i j : Int) : Bool := decide ((Builtin.Int.intBits i : Int) + (Builtin.Int.intBits j : Int) ≤ 134217728) || ((decide (-(2 ^ 64) < i) && decide (i < 2 ^ 64)) || (decide (-(2 ^ 64) < j) && decide (j < 2 ^ 64)))
def cPos (_ j : Int) : Bool := decide (0 < j)
def cDiv (_ j : Int) : Bool := decide (0 < j) && decide (j.natAbs.log2 < 9000)
def cPow (i j : Int) : Bool := decide (0 ≤ j) && decide ((Builtin.Int.intBits i : Int) * j ≤ 2 ^ 27)
def cShl (i j : Int) : Bool := decide (0 ≤ j) && decide ((Builtin.Int.intBits i : Int) + j ≤ 2 ^ 27)
def cShr (_ j : Int) : Bool := decide (0 ≤ j)
def cAny (_ _ : Int) : Bool := true
abbrev dSub := dInt cAny fun i j => .int (i - j)
abbrev dMulI := dInt cMul fun i j => .int (i * j)
abbrev dMod := dInt cPos fun i j => .int (i % j)
abbrev dDiv := dInt cDiv fun i j => .int (i / j)
abbrev dPow := dInt cPow fun i j => .int (i ^ j.toNat)
abbrev dShl := dInt cShl fun i j => .int (i * 2 ^ j.toNat)
abbrev dShr := dInt cShr fun i j => .int (i / 2 ^ j.toNat)
abbrev dXor := dInt cAny fun i j => .int (Builtin.bitXor i j)
abbrev dAnd := dInt cAny fun i j => .int (Builtin.bitAnd i j)
abbrev dOr := dInt cAny fun i j => .int (Builtin.bitOr i j)
theorem o_sub : Op2 X c (OpR X (binaryOp .Sub)) (rI (fun _ _ => True) fun i j => .int (i - j)) dSub := o_int (rI_of op_sub) (fun _ _ _ => trivial) fun _ _ _ _ _ => .int _
theorem op_mulB : OpR X (binaryOp .Mult) (rI (fun i j => CMulX i j ∨ CMul i j) fun i j => .int (i * j)) := by
  intro pins s σ H x y v u Q I rx ry h
  obtain ⟨i, j, rfl, rfl, c, q⟩ := h
  rcases c with c | c
  · exact op_mulX pins s σ H _ _ v u Q I rx ry ⟨i, j, rfl, rfl, c, q⟩
  · exact op_mul pins s σ H _ _ v u Q I rx ry ⟨i, j, rfl, rfl, c, q⟩
theorem o_mulI : Op2 X c (OpR X (binaryOp .Mult)) (rI (fun i j => CMulX i j ∨ CMul i j) fun i j => .int (i * j)) dMulI := o_int op_mulB (fun _ _ h => by
  unfold cMul at h
  rcases Bool.or_eq_true_iff.mp h with h | h
  · exact .inl (by unfold CMulX; exact of_decide_eq_true h)
  · rcases Bool.or_eq_true_iff.mp h with h | h
    · have h := Bool.and_eq_true_iff.mp h
      exact .inr (.inl ⟨of_decide_eq_true h.1, of_decide_eq_true h.2⟩)
    · have h := Bool.and_eq_true_iff.mp h
      exact .inr (.inr ⟨of_decide_eq_true h.1, of_decide_eq_true h.2⟩)) fun _ _ _ _ _ => .int _
theorem o_mod : Op2 X c (OpR X (binaryOp .Mod)) (rI (fun _ j => 0 < j) fun i j => .int (i % j)) dMod := o_int op_mod (fun _ _ h => of_decide_eq_true h) fun _ _ _ _ _ => .int _
theorem o_div : Op2 X c (OpR X (binaryOp .FloorDiv)) (rI CDivW fun i j => .int (i / j)) dDiv := o_int op_fdivW (fun _ _ h => by
  have h := Bool.and_eq_true_iff.mp h
  exact ⟨of_decide_eq_true h.1, of_decide_eq_true h.2⟩) fun _ _ _ _ _ => .int _
theorem o_pow : Op2 X c (OpR X (binaryOp .Pow)) (rI CPowW fun i j => .int (i ^ j.toNat)) dPow := o_int op_powW (fun _ _ h => by
  have h := Bool.and_eq_true_iff.mp h
  exact ⟨of_decide_eq_true h.1, of_decide_eq_true h.2⟩) fun _ _ _ _ _ => .int _
theorem o_shl : Op2 X c (OpR X (binaryOp .LShift)) (rI CShl fun i j => .int (i * 2 ^ j.toNat)) dShl := o_int op_shlW (fun _ _ h => by
  have h := Bool.and_eq_true_iff.mp h
  exact ⟨of_decide_eq_true h.1, of_decide_eq_true h.2⟩) fun _ _ _ _ _ => .int _
theorem o_shr : Op2 X c (OpR X (binaryOp .RShift)) (rI (fun _ j => 0 ≤ j) fun i j => .int (i / 2 ^ j.toNat)) dShr := o_int op_shr (fun _ _ h => of_decide_eq_true h) fun _ _ _ _ _ => .int _
theorem o_xor : Op2 X c (OpR X (binaryOp .BitXor)) (rI (fun _ _ => True) fun i j => .int (Builtin.bitXor i j)) dXor := o_int (rI_of op_xor) (fun _ _ _ => trivial) fun _ _ _ _ _ => .int _
theorem o_and : Op2 X c (OpR X (binaryOp .BitAnd)) (rI (fun _ _ => True) fun i j => .int (Builtin.bitAnd i j)) dAnd := o_int (rI_of op_and) (fun _ _ _ => trivial) fun _ _ _ _ _ => .int _
theorem o_or : Op2 X c (OpR X (binaryOp .BitOr)) (rI (fun _ _ => True) fun i j => .int (Builtin.bitOr i j)) dOr := o_int (rI_of op_or) (fun _ _ _ => trivial) fun _ _ _ _ _ => .int _
def dNeg : D → Option R
  | .int i => some (.dat (.int (-i)))
  | _ => none
theorem o_neg : Op1 X c (UnR X (unaryOp .USub)) (rU fun i => .int (-i)) dNeg := by
  refine ⟨un_neg, ?_⟩
  intro H S x d res Q hx hg G
  unfold dNeg at hg
  split at hg
  · cases hg
    exact ⟨_, hx.int_, G _ _ (Gro.refl H) (.int _)⟩
  · cases hg
/-! ### comparisons -/
/-- data, equal -/
def strs2 : D → D → Bool
  | .str _, .str _ => true
  | _, _ => false
def dEq (neg : Bool) (d e : D) : Option R := if (SeqAt.shaped d && SeqAt.shaped e || strs2 d e) = true then some (.dat (.bool (if neg then !PyData.eqv d e else PyData.eqv d e))) else none
theorem noDict {d : D} (h : SeqAt.shaped d = true) : d.hasDict = false := PyData.hasDict_of_canLay d (SeqAt.canLay_of_shaped h)
theorem strs2_ok {d e : D} (h : strs2 d e = true) : ∃ s t, d = .str s ∧ e = .str t := by
  unfold strs2 at h
  split at h
  · exact ⟨_, _, rfl, rfl⟩
  · cases h
theorem eqv_str (s t : Str) : PyData.eqv (.str s) (.str t) = (s == t) := by simp only [PyData.eqv]
theorem o_eq (k : Fit X c) (hu : X.A.units + 64 < cLine) : Op2 X c (OpR X (compareOp .Eq)) (orR rEq (rEqD c.K)) (dEq false) := by
  refine ⟨by rw [← k.K]; exact op_eq.or (op_eqD hu), ?_⟩
  intro H S x y d e res Q hx hy hg G
  unfold dEq at hg
  split at hg
  · rename_i h
    cases hg
    rcases Bool.or_eq_true_iff.mp h with h | h
    · obtain ⟨h1, h2⟩ := Bool.and_eq_true_iff.mp h
      exact .inr ⟨d, e, hx.dp (noDict h1), hy.dp (noDict h2), h1, h2, G _ _ (Gro.refl H) (.bl _)⟩
    · obtain ⟨s, t, rfl, rfl⟩ := strs2_ok h
      obtain rfl := hx.str_
      obtain rfl := hy.str_
      refine .inl ⟨rfl, ?_⟩
      rw [dec_str, ← eqv_str]
      exact G _ _ (Gro.refl H) (.bl _)
  · cases hg
theorem o_ne (k : Fit X c) (hu : X.A.units + 64 < cLine) : Op2 X c (OpR X (compareOp .NotEq)) (orR rNe (rNeD c.K)) (dEq true) := by
  refine ⟨by rw [← k.K]; exact op_ne.or (op_neD hu), ?_⟩
  intro H S x y d e res Q hx hy hg G
  unfold dEq at hg
  split at hg
  · rename_i h
    cases hg
    rcases Bool.or_eq_true_iff.mp h with h | h
    · obtain ⟨h1, h2⟩ := Bool.and_eq_true_iff.mp h
      exact .inr ⟨d, e, hx.dp (noDict h1), hy.dp (noDict h2), h1, h2, G _ _ (Gro.refl H) (.bl _)⟩
    · obtain ⟨s, t, rfl, rfl⟩ := strs2_ok h
      obtain rfl := hx.str_
      obtain rfl := hy.str_
      refine .inl ⟨rfl, ?_⟩
      rw [dec_str, ← eqv_str]
      exact G _ _ (Gro.refl H) (.bl _)
  · cases hg
abbrev dLt := dInt cAny fun i j => .bool (decide (i < j))
abbrev dLe := dInt cAny fun i j => .bool (decide (i ≤ j))
abbrev dGt := dInt cAny fun i j => .bool (decide (j < i))
abbrev dGe := dInt cAny fun i j => .bool (decide (j ≤ i))
theorem o_lt : Op2 X c (OpR X (compareOp .Lt)) (rI (fun _ _ => True) fun i j => .bl (decide (i < j))) dLt := o_int (rI_of op_lt) (fun _ _ _ => trivial) fun _ _ _ _ _ => .bl _
theorem o_le : Op2 X c (OpR X (compareOp .LtE)) (rI (fun _ _ => True) fun i j => .bl (decide (i ≤ j))) dLe := o_int (rI_of op_le) (fun _ _ _ => trivial) fun _ _ _ _ _ => .bl _
theorem o_gt : Op2 X c (OpR X (compareOp .Gt)) (rI (fun _ _ => True) fun i j => .bl (decide (j < i))) dGt := o_int (rI_of op_gt) (fun _ _ _ => trivial) fun _ _ _ _ _ => .bl _
theorem o_ge : Op2 X c (OpR X (compareOp .GtE)) (rI (fun _ _ => True) fun i j => .bl (decide (j ≤ i))) dGe := o_int (rI_of op_ge) (fun _ _ _ => trivial) fun _ _ _ _ _ => .bl _
/-- x is None -/
def isNon : D → Bool
  | .none => true
  | _ => false
def dIs (neg : Bool) (d e : D) : Option R := match e with
  | .none => some (.dat (.bool (if neg then !isNon d else isNon d)))
  | _ => none
theorem RpV.isNon {c : Cn} {H : Hp} {S : Addr → Prop} {v : V} {d : D} (h : RpV c H S v d) : decide (v = .non) = Vm.isNon d := by
  cases h with
  | of h => cases h <;> first | rfl | exact decide_eq_false (fun z => nomatch z)
  | lst _ _ => exact decide_eq_false (fun z => nomatch z)
  | dK _ _ => exact decide_eq_false (fun z => nomatch z)
  | st _ _ => exact decide_eq_false (fun z => nomatch z)
def rIsN : R2 := fun x y H Q => y = .non ∧ Q (.bl (decide (x = .non))) H
def rNotN : R2 := fun x y H Q => y = .non ∧ Q (.bl (!decide (x = .non))) H
theorem o_is : Op2 X c (OpR X (compareOp .Is)) rIsN (dIs false) := by
  refine ⟨op_isN, ?_⟩
  intro H S x y d e res Q hx hy hg G
  unfold dIs at hg
  split at hg
  · cases hg
    refine ⟨hy.non_, G _ _ (Gro.refl H) ?_⟩
    rw [hx.isNon]
    exact .bl _
  · cases hg
theorem o_isnot : Op2 X c (OpR X (compareOp .IsNot)) rNotN (dIs true) := by
  refine ⟨op_notN, ?_⟩
  intro H S x y d e res Q hx hy hg G
  unfold dIs at hg
  split at hg
  · cases hg
    refine ⟨hy.non_, G _ _ (Gro.refl H) ?_⟩
    rw [hx.isNon]
    exact .bl _
  · cases hg
end
end Vm
/-! ### what is kept in other things; arguments; displays -/
namespace Vm
open PySem PySem.Spec PyProof.Rows L2 Ky
/-- a slot whose object is handed on for good -/
def frzAt (ρ : Env) (i : Nat) : Option (D × Env) := match ρ[i]? with
  | some (some (.dat d)) => some (d, ρ)
  | some (some (.own o)) => o.toD.map fun d => (d, ρ.set i (some (.dat d)))
  | some (some (.pin o)) => o.toD.map fun d => (d, ρ.set i (some (.dat d)))
  | _ => none
def keepR (r : R) (ρ : Env) : Option (D × Env) := match r with
  | .dat d => some (d, ρ)
  | .own o => o.toD.map fun d => (d, ρ)
  | .slot i => frzAt ρ i
section
variable {c : Cn} {W : WX} {σ : Sl} {H H1 H2 H0 : Hp} {S S1 S2 : Addr → Prop} {ρ ρ1 ρ2 ρ' : Env} {r : R} {v : V} {d : D}
theorem set_get {α : Type} {l : List (Option α)} {i j : Nat} {x : Option α} {y : α} (h : (l.set i x)[j]? = some (some y)) : (i = j ∧ x = some y ∧ i < l.length) ∨ (i ≠ j ∧ l[j]? = some (some y)) := by
  by_cases e : i = j
  · subst e
    by_cases hi : i < l.length
    · rw [List.getElem?_set_self hi] at h
      exact .inl ⟨rfl, Option.some.inj h, hi⟩
    · rw [List.getElem?_eq_none (by simpa using hi)] at h; cases h
  · rw [List.getElem?_set_ne e] at h
    exact .inr ⟨e, h⟩
theorem RpA.more (h : ∀ a, S a → S1 a) {vs : List V} {ds : List D} (r : RpA c.K H S vs ds) : RpA c.K H S1 vs ds := r.keep (fun b o e _ => e) h
theorem Rp.more (h : ∀ a, S a → S1 a) {v : V} {d : D} (r : Rp c.K H S v d) : Rp c.K H S1 v d := r.keep (fun b o e _ => e) h
theorem ObRp.more (h : ∀ a, S a → S1 a) {a : Addr} {o : Ob} (r : ObRp c H S a o) : ObRp c H S1 a o := r.keep (fun b o e _ => e) h fun _ e _ => e
/-- one more place holds what never changes -/
theorem Rep.cold {a : Addr} {u : HO} (p : Rep c σ H S ρ) (n : ¬ LivA σ ρ a) (e : H a = some u) (m : mutK u) : Rep c σ H (fun b => S b ∨ b = a) ρ where
  len := p.len
  dat := fun i d e => by obtain ⟨v, e1, h⟩ := p.dat i d e; exact ⟨v, e1, h.more fun _ z => .inl z⟩
  liv := fun i x o e1 e2 => by
    obtain ⟨b, e3, h, k⟩ := p.liv i x o e1 e2
    refine ⟨b, e3, h.more fun _ z => .inl z, fun z => ?_⟩
    rcases z with z | z
    · exact k z
    · subst z; exact n ⟨i, x, o, e1, e2, e3⟩
  dis := p.dis
  live := fun b z => by
    rcases z with z | z
    · exact p.live b z
    · subst z; exact ⟨u, e, m⟩
  tabs := p.tabs
theorem Rep.frz {i : Nat} {x : C} {o : Ob} {d : D} (p : Rep c σ H S ρ) (e1 : ρ[i]? = some (some x)) (e2 : x.ob = some o) (e3 : o.toD = some d) :
    ∃ S' v, σ[i]? = some (some v) ∧ Rep c σ H S' (ρ.set i (some (.dat d))) ∧ Stq [] σ ρ S H σ (ρ.set i (some (.dat d))) S' H ∧ Rp c.K H S' v d := by
  obtain ⟨a, e4, h, n⟩ := p.liv i x o e1 e2
  obtain ⟨u, eu, m⟩ := h.mut
  have hr : Rp c.K H (fun b => S b ∨ b = a) (.ref a) d := (h.more fun _ z => .inl z).frz e3 (.inr rfl)
  have old : ∀ {j y}, (ρ.set i (some (.dat d)))[j]? = some (some y) → y.ob ≠ none → i ≠ j ∧ ρ[j]? = some (some y) := fun {j y} z nb => by
    rcases set_get z with ⟨rfl, z, _⟩ | z
    · cases z; exact absurd rfl nb
    · exact z
  refine ⟨fun b => S b ∨ b = a, .ref a, e4, ⟨by rw [List.length_set]; exact p.len, fun j d' z => ?_, fun j y o' z1 z2 => ?_, fun j l y y' o' o'' b z1 z2 z3 z4 z5 z6 => ?_, fun b z => ?_, p.tabs⟩, ⟨fun b o e => ⟨o, e, fun _ => .inl rfl⟩, fun _ z => .inl z, fun b z => ?_, fun b ⟨j, o', z1, z2⟩ => ?_, fun b ⟨j, y, o', z1, z2, z3⟩ => ?_, fun j o' z => ?_, fun _ _ => rfl⟩, hr⟩
  · rcases set_get z with ⟨rfl, z, _⟩ | ⟨_, z⟩
    · cases z; exact ⟨_, e4, hr⟩
    · obtain ⟨v, f1, f2⟩ := p.dat j d' z
      exact ⟨v, f1, f2.more fun _ z => .inl z⟩
  · obtain ⟨nj, z1⟩ := old z1 (by rw [z2]; simp)
    obtain ⟨b, f1, f2, f3⟩ := p.liv j y o' z1 z2
    refine ⟨b, f1, f2.more fun _ z => .inl z, fun z => ?_⟩
    rcases z with z | z
    · exact f3 z
    · subst z; exact nj (p.dis i j _ _ _ _ _ e1 e2 z1 z2 e4 f1)
  · obtain ⟨_, z1⟩ := old z1 (by rw [z2]; simp)
    obtain ⟨_, z3⟩ := old z3 (by rw [z4]; simp)
    exact p.dis j l y y' o' o'' b z1 z2 z3 z4 z5 z6
  · rcases z with z | z
    · exact p.live b z
    · subst z; exact ⟨u, eu, m⟩
  · rcases z with z | z
    · exact .inl z
    · subst z; exact .inr (.inr ⟨i, x, o, e1, e2, e4⟩)
  · obtain ⟨_, z1⟩ := old z1 (by simp [C.ob])
    exact .inl ⟨j, o', z1, z2⟩
  · obtain ⟨_, z1⟩ := old z1 (by rw [z2]; simp)
    exact .inl ⟨j, y, o', z1, z2, z3⟩
  · obtain ⟨_, z⟩ := old z (by simp [C.ob])
    exact ⟨o', z, rfl⟩
/-- a result that may be handed on -/
def RW (c : Cn) (σ : Sl) (ρ' : Env) (H0 : Hp) (r : R) (v : V) (H' : Hp) (S' : Addr → Prop) : Prop := match r with
  | .dat d => Rp c.K H' S' v d
  | .own o => ∃ a, v = .ref a ∧ ObRp c H' S' a o ∧ ¬ LivA σ ρ' a ∧ H0 a = none
  | .slot i => σ[i]? = some (some v)
theorem RR.w (h : RR c σ ρ H0 r v H S) : RW c σ ρ H0 r v H S := by
  cases r with
  | dat d => exact h
  | own o => obtain ⟨a, h1, h2, h3, h4, h5⟩ := h; exact ⟨a, h1, h2, h4, h5⟩
  | slot i => exact h
theorem RW.more (hs : ∀ a, S a → S1 a) (hl : ∀ a, LivA σ ρ1 a → LivA σ ρ a) (h : RW c σ ρ H0 r v H S) : RW c σ ρ1 H0 r v H S1 := by
  cases r with
  | dat d => exact Rp.more hs h
  | own o => obtain ⟨a, h1, h2, h4, h5⟩ := h; exact ⟨a, h1, h2.more hs, fun z => h4 (hl a z), h5⟩
  | slot i => exact h
/-- the same, by what stands ahead -/
theorem Stq.cold {fx : List Nat} {σ0 : Sl} {ρ0 : Env} {S0 : Addr → Prop} {a : Addr} (q : Stq fx σ0 ρ0 S0 H0 σ ρ S H) (n : H0 a = none) : Stq fx σ0 ρ0 S0 H0 σ ρ (fun b => S b ∨ b = a) H where
  st := q.st
  s1 := fun b z => .inl (q.s1 b z)
  s2 := fun b z => by
    rcases z with z | z
    · exact q.s2 b z
    · subst z; exact .inr (.inl n)
  ow := q.ow
  lv := q.lv
  pf := q.pf
  fx := q.fx
/-- a result is handed on for good -/
theorem keep_ok {ρ0 : Env} {S0 : Addr → Prop} (q : Stq [] σ ρ0 S0 H0 σ ρ S H) (p : Rep c σ H S ρ) (h : RW c σ ρ H0 r v H S) (e : keepR r ρ = some (d, ρ')) :
    ∃ S', Rep c σ H S' ρ' ∧ Stq [] σ ρ0 S0 H0 σ ρ' S' H ∧ Rp c.K H S' v d ∧ (∀ a, S a → S' a) ∧ ∀ a, LivA σ ρ' a → LivA σ ρ a := by
  cases r with
  | dat d' => cases e; exact ⟨S, p, q, h, fun _ z => z, fun _ z => z⟩
  | own o =>
    obtain ⟨a, rfl, h1, h3, h4⟩ := h
    have e : (o.toD.map fun d => (d, ρ)) = some (d, ρ') := e
    cases e5 : o.toD with
    | none => rw [e5] at e; cases e
    | some d' =>
      rw [e5] at e
      cases e
      obtain ⟨u, eu, m⟩ := h1.mut
      exact ⟨fun b => S b ∨ b = a, p.cold h3 eu m, q.cold h4, (h1.more fun _ z => .inl z).frz e5 (.inr rfl), fun _ z => .inl z, fun _ z => z⟩
  | slot i =>
    have h : σ[i]? = some (some v) := h
    have e : frzAt ρ i = some (d, ρ') := e
    have go : ∀ {x : C} {o : Ob}, ρ[i]? = some (some x) → x.ob = some o → (o.toD.map fun d => (d, ρ.set i (some (.dat d)))) = some (d, ρ') →
        ∃ S', Rep c σ H S' ρ' ∧ Stq [] σ ρ0 S0 H0 σ ρ' S' H ∧ Rp c.K H S' v d ∧ (∀ a, S a → S' a) ∧ ∀ a, LivA σ ρ' a → LivA σ ρ a := fun {x o} e1 e2 e => by
      cases e5 : o.toD with
      | none => rw [e5] at e; cases e
      | some d' =>
        rw [e5] at e
        cases e
        obtain ⟨S', v', f1, f2, f3, f4⟩ := p.frz e1 e2 e5
        rw [h] at f1
        cases f1
        refine ⟨S', f2, q.trans f3, f4, f3.s1, fun a z => ?_⟩
        rcases f3.lv a z with y | y
        · exact y
        · obtain ⟨u, eu, _⟩ := f2.livAt z
          rw [y] at eu; cases eu
    unfold frzAt at e
    split at e
    · rename_i d' e1
      cases e
      obtain ⟨v', e2, w⟩ := p.dat i _ e1
      rw [h] at e2; cases e2
      exact ⟨S, p, q, w, fun _ z => z, fun _ z => z⟩
    · rename_i o e1; exact go e1 rfl e
    · rename_i o e1; exact go e1 rfl e
    · cases e
def keepAll : List R → Env → Option (List D × Env)
  | [], ρ => some ([], ρ)
  | r :: rs, ρ => (keepR r ρ).bind fun p => (keepAll rs p.2).map fun q => (p.1 :: q.1, q.2)
def RWs (c : Cn) (σ : Sl) (ρ' : Env) (H0 : Hp) : List R → List V → Hp → (Addr → Prop) → Prop
  | [], [], _, _ => True
  | r :: rs, v :: vs, H', S' => RW c σ ρ' H0 r v H' S' ∧ RWs c σ ρ' H0 rs vs H' S'
  | _, _, _, _ => False
theorem RRs.w : ∀ {rs : List R} {vs : List V}, RRs c σ ρ H0 rs vs H S → RWs c σ ρ H0 rs vs H S
  | [], [], _ => trivial
  | _ :: _, _ :: _, h => ⟨h.1.w, RRs.w h.2⟩
  | [], _ :: _, h => h.elim
  | _ :: _, [], h => h.elim
theorem RWs.more (hs : ∀ a, S a → S1 a) (hl : ∀ a, LivA σ ρ1 a → LivA σ ρ a) : ∀ {rs : List R} {vs : List V}, RWs c σ ρ H0 rs vs H S → RWs c σ ρ1 H0 rs vs H S1
  | [], [], _ => trivial
  | _ :: _, _ :: _, h => ⟨h.1.more hs hl, RWs.more hs hl h.2⟩
  | [], _ :: _, h => h.elim
  | _ :: _, [], h => h.elim
theorem keepAll_ok {ρ0 : Env} {S0 : Addr → Prop} : ∀ {rs : List R} {vs : List V} {ds : List D} {S : Addr → Prop} {ρ ρ' : Env}, Stq [] σ ρ0 S0 H0 σ ρ S H → Rep c σ H S ρ → RWs c σ ρ H0 rs vs H S → keepAll rs ρ = some (ds, ρ') →
    ∃ S', Rep c σ H S' ρ' ∧ Stq [] σ ρ0 S0 H0 σ ρ' S' H ∧ RpA c.K H S' vs ds ∧ (∀ a, S a → S' a) ∧ ∀ a, LivA σ ρ' a → LivA σ ρ a
  | [], [], _, S, _, _, q, p, _, e => by cases e; exact ⟨S, p, q, .nil, fun _ z => z, fun _ z => z⟩
  | r :: rs, v :: vs, ds, S, ρ, ρ', q, p, h, e => by
    unfold keepAll at e
    cases e1 : keepR r ρ with
    | none => rw [e1] at e; cases e
    | some x =>
      obtain ⟨d, ρ1⟩ := x
      rw [e1] at e
      have e : (keepAll rs ρ1).map (fun q => (d :: q.1, q.2)) = some (ds, ρ') := e
      cases e2 : keepAll rs ρ1 with
      | none => rw [e2] at e; cases e
      | some y =>
        obtain ⟨ds', ρ2⟩ := y
        rw [e2] at e
        cases e
        obtain ⟨S1, p1, q1, r1, m1, l1⟩ := keep_ok q p h.1 e1
        obtain ⟨S2, p2, q2, r2, m2, l2⟩ := keepAll_ok q1 p1 (h.2.more m1 l1) e2
        exact ⟨S2, p2, q2, .cons (r1.more m2) r2, fun a z => m2 a (m1 a z), fun a z => l1 a (l2 a z)⟩
  | [], _ :: _, _, _, _, _, _, _, h, _ => h.elim
  | _ :: _, [], _, _, _, _, _, _, h, _ => h.elim
end
/-! ### argument lists; (a, b), [a, b] -/
def xNil : M (List R) := M.pure []
def xCons (fa : M R) (fr : M (List R)) : M (List R) := fa.bind fun a => fr.bind fun rs => M.pure (a :: rs)
def xTup (fr : M (List R)) : M R := fr.bind fun rs => fun ρ => (keepAll rs ρ).bind fun p => if p.1.length ≤ sizeLine then some (.ok (.dat (.tuple p.1)), p.2) else none
def xLst (fr : M (List R)) : M R := fr.bind fun rs => fun ρ => (keepAll rs ρ).bind fun p => if p.1.length ≤ sizeLine then some (.ok (.own (.lst p.1)), p.2) else none
section
variable {c : Cn} {W : WX} {X : Cx} {e : Expr} {es : List Expr} {fa : M R} {fr : M (List R)} {pos : Pos}
theorem VA.nil : VA X c W [] tNil xNil := ⟨pa_nil, fun σ H S ρ res ρ' Q p e G => by cases e; exact G [] H S p .refl trivial⟩
variable {ta : TE} {tr : TA}
theorem VA.cons (ha : VE X c W e ta fa) (hr : VA X c W es tr fr) (hs : starEach (e :: es) X.env = (false, eval e X.env) :: starEach es X.env := by rfl) : VA X c W (e :: es) (tCons ta tr) (xCons fa fr) := by
  refine ⟨pa_cons ha.pe hr.pe hs, Vt.bind2 (rel1 := RR c) (rel2 := RRs c) (rel3 := RRs c) (k := fun x xs _ H Q => Q (x :: xs) H) (fun h k => RRs.back k h) (fun p q h => RR.step p q h) ha.vt hr.vt ?_⟩
  intro σ Hs Ss ρs H S ρ a x b y res ρ' Q q p ra rb e G
  cases e
  exact G (x :: y) H S p q ⟨ra, rb⟩
theorem VE.tup {x1} (h : VA X c W es tr fr) : VE X c W (.Tuple es x1 pos) (tTup tr) (xTup fr) := by
  refine ⟨pe_tup h.pe, Vt.bind (rel1 := RRs c) (rel2 := RR c) (k := fun xs _ H1 Q => xs.length ≤ sizeLine ∧ ∀ p, H1 p = none → Q (.ref p) (upd H1 p (.tup xs))) h.vt ?_⟩
  intro σ Hs Ss ρs H S ρ a x res ρ' Q q p ra e G
  cases e1 : keepAll a ρ with
  | none => rw [e1] at e; cases e
  | some y =>
    obtain ⟨ds, ρ1⟩ := y
    rw [e1] at e
    have e : (if ds.length ≤ sizeLine then some (Except.ok (R.dat (.tuple ds)), ρ1) else none) = some (res, ρ') := e
    split at e
    · rename_i hl
      cases e
      obtain ⟨S1, p1, q1, r1, _, _⟩ := keepAll_ok q p ra.w e1
      refine ⟨by rw [r1.length]; exact hl, fun b n => ?_⟩
      obtain ⟨g, o⟩ := ro_tup n r1
      exact RO.good q1 p1 G g o
    · cases e
theorem VE.lst (h : VA X c W es tr fr) : VE X c W (.List es pos) (tLst tr) (xLst fr) := by
  refine ⟨pe_lst h.pe, Vt.bind (rel1 := RRs c) (rel2 := RR c) (k := fun xs _ H1 Q => xs.length ≤ sizeLine ∧ ∀ p, H1 p = none → Q (.ref p) (upd H1 p (.lst xs))) h.vt ?_⟩
  intro σ Hs Ss ρs H S ρ a x res ρ' Q q p ra e G
  cases e1 : keepAll a ρ with
  | none => rw [e1] at e; cases e
  | some y =>
    obtain ⟨ds, ρ1⟩ := y
    rw [e1] at e
    have e : (if ds.length ≤ sizeLine then some (Except.ok (R.own (.lst ds)), ρ1) else none) = some (res, ρ') := e
    split at e
    · rename_i hl
      cases e
      obtain ⟨S1, p1, q1, r1, _, _⟩ := keepAll_ok q p ra.w e1
      refine ⟨by rw [r1.length]; exact hl, fun b n => ?_⟩
      obtain ⟨g, o⟩ := ro_lst n r1
      exact RO.good q1 p1 G g o
    · cases e
end
end Vm
/-! ### subscripts, slices, built-in functions, tests -/
namespace Vm
open PySem PySem.Spec PyProof.Rows L2 Ky
/-! ### x[i] -/
def dKey : D → Option Key
  | .int i => some (.inl i)
  | .str x => some (.inr x)
  | _ => none
theorem keyD_inj : ∀ {a b : Key}, keyD a = keyD b → a = b
  | .inl _, .inl _, h => by injection h with h; rw [h]
  | .inr _, .inr _, h => by injection h with h; rw [h]
  | .inl _, .inr _, h => nomatch h
  | .inr _, .inl _, h => nomatch h
theorem dKey_some {d : D} {k : Key} (h : dKey d = some k) : d = keyD k := by
  unfold dKey at h
  split at h <;> first | (cases h; rfl) | cases h
def keyEq (d : D) (k : Key) : Bool := match d, k with
  | .int i, .inl j => decide (i = j)
  | .str x, .inr y => decide (x = y)
  | _, _ => false
theorem keyEq_ok (a b : Key) : keyEq (keyD a) b = decide (a = b) := by
  cases a <;> cases b <;> simp [keyEq, keyD]
def valD (kvs : List (D × D)) (k : Key) : Option D := (kvs.find? fun p => keyEq p.1 k).map (·.2)
def putD (kvs : List (D × D)) (k : Key) (v : D) : List (D × D) := if (valD kvs k).isSome then kvs.map fun p => if keyEq p.1 k then (p.1, v) else p else kvs ++ [(keyD k, v)]
section
variable {K : PySem.W.Frag} {H : Hp} {S : Addr → Prop}
theorem RpK.val : ∀ {ks : List (Key × V)} {kvs : List (D × D)} {k : Key}, RpK K H S ks kvs → ((∀ (d : D), valD kvs k = some d → ∃ v, valV ks k = some v ∧ Rp K H S v d) ∧ (valD kvs k = none → valV ks k = none))
  | _, _, k, .nil => ⟨fun d h => (by cases h), fun _ => rfl⟩
  | _, _, k, .cons (k := j) (v := v) (ks := ks) (d := d) (ds := ds) h1 h2 => by
    obtain ⟨i1, i2⟩ := RpK.val (k := k) h2
    have e : valD ((keyD j, d) :: ds) k = if j = k then some d else valD ds k := by
      unfold valD
      rw [List.find?_cons, show keyEq (keyD j) k = decide (j = k) from keyEq_ok j k]
      by_cases q : j = k
      · rw [decide_eq_true q, if_pos q]; rfl
      · rw [decide_eq_false q, if_neg q]
    by_cases q : j = k
    · rw [if_pos q] at e
      rw [e]
      refine ⟨fun d' h => ?_, fun h => by cases h⟩
      cases h
      exact ⟨v, valV_pos (p := (j, v)) q, h1⟩
    · rw [if_neg q] at e
      rw [e, show valV ((j, v) :: ks) k = valV ks k from valV_neg (p := (j, v)) q]
      exact ⟨i1, i2⟩
theorem RpK.isSome {ks : List (Key × V)} {kvs : List (D × D)} (h : RpK K H S ks kvs) (k : Key) : (valV ks k).isSome = (valD kvs k).isSome := by
  cases e : valD kvs k with
  | none => rw [h.val.2 e]; rfl
  | some d => obtain ⟨v, e2, _⟩ := h.val.1 d e; rw [e2]; rfl
theorem RpK.map {k : Key} {v : V} {d : D} (r : Rp K H S v d) : ∀ {ks : List (Key × V)} {kvs : List (D × D)}, RpK K H S ks kvs →
    RpK K H S (ks.map fun kv => if kv.1 = k then (kv.1, v) else kv) (kvs.map fun p => if keyEq p.1 k then (p.1, d) else p)
  | _, _, .nil => .nil
  | _, _, .cons (k := j) (v := w) (ks := ks) (d := e) (ds := ds) h1 h2 => by
    have ih := RpK.map (k := k) r h2
    rw [List.map_cons, List.map_cons]
    have q := keyEq_ok j k
    by_cases z : j = k
    · rw [decide_eq_true z] at q
      simp only [z, if_true]
      rw [z] at q
      simp only [q, if_true]
      exact .cons r ih
    · rw [decide_eq_false z] at q
      simp only [z, if_false, q]
      exact .cons h1 ih
theorem RpK.app : ∀ {xs ys : List (Key × V)} {us ws : List (D × D)}, RpK K H S xs us → RpK K H S ys ws → RpK K H S (xs ++ ys) (us ++ ws)
  | _, _, _, _, .nil, s => s
  | _, _, _, _, .cons r t, s => .cons r (RpK.app t s)
theorem RpK.length : ∀ {ks : List (Key × V)} {kvs : List (D × D)}, RpK K H S ks kvs → ks.length = kvs.length
  | _, _, .nil => rfl
  | _, _, .cons _ h => congrArg Nat.succ (RpK.length h)
theorem RpK.put {ks : List (Key × V)} {kvs : List (D × D)} {k : Key} {v : V} {d : D} (h : RpK K H S ks kvs) (r : Rp K H S v d) : RpK K H S (putK ks k v) (putD kvs k d) := by
  unfold putK putD
  have e : (ks.any fun kv => decide (kv.1 = k)) = (valD kvs k).isSome := by rw [valV_any, h.isSome]
  rw [e]
  cases (valD kvs k).isSome with
  | true => simp only [if_true]; exact h.map r
  | false => simp only [Bool.false_eq_true, if_false]; exact h.app (.cons r .nil)
end
def dIx : D → D → Option R
  | .list xs, .int i => (atI xs i).map .dat
  | .tuple xs, .int i => (atI xs i).map .dat
  | .str z, .int i => if z.length ≤ sizeLine then (atI z.cps.toList i).map fun c => .dat (.str ⟨#[c]⟩) else none
  | .dict kvs, e => (dKey e).bind fun k => (valD kvs k).map .dat
  | _, _ => none
def rIxD : R2 := fun x y H Q => ∃ a v, x = .ref a ∧ DGet H a y (some v) ∧ Q v H
theorem ix_dict {X : Cx} (hu : X.A.units + 1 < cLine) : IxR X rIxD := by
  intro value slice pins s σ H x y v u Q I rx ry h hs
  obtain ⟨a, z, rfl, g, q⟩ := h
  cases rx
  exact tail_any (dict_typeIs I g) PySem.F.slot_dict_getitem.lookup (d_getItem hu I g ry fun w' s' I' r' => ⟨z, H, I', r', q⟩) hs
theorem RpA.atI {K : PySem.W.Frag} {H : Hp} {S : Addr → Prop} {xs : List V} {ds : List D} {i : Int} {d : D} (h : RpA K H S xs ds) (e : L2.atI ds i = some d) : ∃ v, L2.atI xs i = some v ∧ Rp K H S v d := by
  unfold L2.atI at e ⊢
  rw [h.length]
  cases e1 : ixN ds.length i with
  | none => rw [e1] at e; cases e
  | some j =>
    rw [e1] at e
    exact h.get e
theorem RpV.dct_ {c : Cn} {H : Hp} {S : Addr → Prop} {v : V} {kvs : List (D × D)} (h : RpV c H S v (.dict kvs)) : (∃ a ks, v = .ref a ∧ H a = some (.dK ks) ∧ RpK c.K H S ks kvs) ∨ ∃ xs, PyData.dict kvs = setD xs := by
  generalize e : PyData.dict kvs = d at h
  cases h with
  | of h =>
    subst e
    cases h with
    | dK h1 h2 h3 => exact .inl ⟨_, _, rfl, h2, h3⟩
  | lst _ _ => cases e
  | dK h1 h2 => cases e; exact .inl ⟨_, _, rfl, h1, h2⟩
  | st _ _ => exact .inr ⟨_, rfl⟩
theorem valD_set {xs : List Int} {kvs : List (D × D)} {k : Key} (h : PyData.dict kvs = setD xs) : valD kvs k = none := by
  unfold setD at h
  injection h with h
  subst h
  cases k <;> rfl
section
variable {X : Cx} {c : Cn}
theorem o_ix (k : Fit X c) (hu : X.A.units + 64 < cLine) : Op2 X c (IxR X) (orR (rIxL c.K) (orR (rIxT c.K) (orR rIxS rIxD))) dIx := by
  refine ⟨by rw [← k.K]; exact (ix_list.or (ix_tup.or (ix_str.or (ix_dict (by omega))))), ?_⟩
  intro H S x y d e res Q hx hy hg G
  unfold dIx at hg
  split at hg
  · obtain ⟨d', e1, rfl⟩ := Option.map_eq_some_iff.mp hg
    obtain ⟨a, vs, rfl, s1, r1⟩ := hx.lst_
    obtain ⟨v, e2, r2⟩ := r1.atI e1
    exact .inl ⟨a, vs, _, v, rfl, hy.int_, s1, e2, G _ _ (Gro.refl H) r2⟩
  · obtain ⟨d', e1, rfl⟩ := Option.map_eq_some_iff.mp hg
    obtain ⟨a, vs, rfl, s1, r1⟩ := hx.tup_
    obtain ⟨v, e2, r2⟩ := r1.atI e1
    exact .inr (.inl ⟨a, vs, _, v, rfl, hy.int_, s1, e2, G _ _ (Gro.refl H) r2⟩)
  · split at hg
    · rename_i hl
      obtain ⟨d', e1, rfl⟩ := Option.map_eq_some_iff.mp hg
      exact .inr (.inr (.inl ⟨_, _, d', hx.str_, hy.int_, hl, e1, G _ _ (Gro.refl H) (.str _)⟩))
    · cases hg
  · obtain ⟨key, e1, hg⟩ := Option.bind_eq_some_iff.mp hg
    obtain ⟨d', e2, rfl⟩ := Option.map_eq_some_iff.mp hg
    rcases hx.dct_ with ⟨a, ks, rfl, h1, h2⟩ | ⟨xs, h1⟩
    · obtain ⟨v, e3, r3⟩ := h2.val.1 _ e2
      have ey : y = kV key := by
        rw [dKey_some e1] at hy
        cases key with
        | inl i => exact hy.int_
        | inr z => exact hy.str_
      refine .inr (.inr (.inr ⟨a, v, rfl, ?_, G _ _ (Gro.refl H) r3⟩))
      rw [ey, ← e3]
      exact .k h1
    · rw [valD_set h1] at e2; cases e2
  · cases hg
theorem VE.ix {W : WX} {a b : Expr} {ta tb : TE} {r : R2} {fa fb : M R} {pos : Pos} {g : D → D → Option R} (ho : Op2 X c (IxR X) r g) (ha : VE X c W a ta fa) (hb : VE X c W b tb fb) (hs : PlainIx b) : VE X c W (.Subscript a b pos) (tOp r ta tb) (xOp2 g fa fb) :=
  ⟨pe_ix ho.h ha.pe hb.pe hs, Vt.op2 ho.s ha.vt hb.vt⟩
/-! ### x in xs -/
def flatD : D → Bool
  | .none => true
  | .bool _ => true
  | .int _ => true
  | .str _ => true
  | _ => false
/-! ### x[i:j] -/
abbrev relP : Sl → Env → Hp → Option Int → Option Int → Hp → (Addr → Prop) → Prop := fun _ _ _ a b _ _ => b = a
structure VP (X : Cx) (c : Cn) (W : WX) (e : Option Expr) (t : TO) (f : M (Option Int)) : Prop where
  pe : PO X e t
  vt : Vt c W relP t f
def xNoPart : M (Option Int) := M.pure none
def xPart (fa : M R) : M (Option Int) := fa.bind fun a => fun ρ => match look ρ a with
  | some (.int i) => some (.ok (some i), ρ)
  | _ => none
theorem VP.none {W : WX} : VP X c W none tNoPart xNoPart := ⟨po_none, fun σ H S ρ res ρ' Q p e G => by cases e; exact G (Option.none : Option Int) H S p .refl rfl⟩
theorem VP.some {W : WX} {a : Expr} {ta : TE} {fa : M R} (ha : VE X c W a ta fa) : VP X c W (some a) (tPart ta) (xPart fa) := by
  obtain ⟨pa, va⟩ := ha
  refine ⟨po_some pa, Vt.bind (rel1 := RR c) (rel2 := relP) (k := fun x _ H Q => ∃ i, x = .int i ∧ Q (Option.some i) H) va ?_⟩
  intro σ Hs Ss ρs H S ρ a x res ρ' Q q p ra e G
  split at e
  · rename_i i e1
    cases e
    exact ⟨i, (look_ok p ra e1).int_, G (Option.some i) H S p q rfl⟩
  · cases e
def cut {α : Type} (xs : List α) (lo hi : Option Int) : List α := (xs.drop (HT.sIx xs.length 0 lo)).take (HT.sIx xs.length xs.length hi - HT.sIx xs.length 0 lo)
def dSl (d : D) (lo hi : Option Int) : Option R := match d with
  | .list xs => some (.own (.lst (cut xs lo hi)))
  | .tuple xs => some (.dat (.tuple (cut xs lo hi)))
  | .str z => if z.length ≤ sizeLine then some (.dat (.str (cutS z lo hi))) else none
  | _ => none
theorem RpA.cut {K : PySem.W.Frag} {H : Hp} {S : Addr → Prop} {xs : List V} {ds : List D} {lo hi : Option Int} (h : RpA K H S xs ds) : RpA K H S (cutV xs lo hi) (Vm.cut ds lo hi) := by
  unfold cutV Vm.cut
  rw [h.length]
  exact (h.drop _).take _
def xSl (fa : M R) (fl fh : M (Option Int)) : M R := fa.bind fun a => fl.bind fun lo => fh.bind fun hi => fun ρ => (look ρ a).bind fun d => (dSl d lo hi).map fun r => (.ok r, ρ)
theorem cut_whole {α : Type} {xs : List α} {lo hi : Option Int} (h : HT.sIx xs.length 0 lo = 0 ∧ HT.sIx xs.length xs.length hi = xs.length) : cut xs lo hi = xs := by
  unfold cut
  rw [h.1, h.2]
  simp
def rSlAll (K : PySem.W.Frag) : V → Option Int → Option Int → Hp → VK → Prop := fun x lo hi H Q => rSlL K x lo hi H Q ∨ rSlA K x lo hi H Q ∨ rSlS x lo hi H Q
theorem VE.sl {W : WX} {a : Expr} {ta : TE} {tl th : TO} {lo hi : Option Expr} {fa : M R} {fl fh : M (Option Int)} {pos p2 : Pos} (k : Fit X c) (ha : VE X c W a ta fa) (hl : VP X c W lo tl fl) (hh : VP X c W hi th fh) : VE X c W (.Subscript a (.Slice lo hi none p2) pos) (tSl (rSlAll c.K) ta tl th) (xSl fa fl fh) := by
  obtain ⟨pa, va⟩ := ha
  obtain ⟨pl, vl⟩ := hl
  obtain ⟨ph, vh⟩ := hh
  refine ⟨pe_slice (by rw [← k.K]; exact (sl_list.or (sl_tupA.or sl_str))) pa pl ph, ?_⟩
  refine Vt.bind2 (rel1 := RR c) (rel2 := relP) (rel3 := RR c) (f3 := fun a lo => fh.bind fun hi => fun ρ => (look ρ a).bind fun d => (dSl d lo hi).map fun r => (.ok r, ρ))
    (k := fun x l σ H Q => th σ H fun u H3 => rSlL c.K x l u H3 Q ∨ rSlA c.K x l u H3 Q ∨ rSlS x l u H3 Q) (fun h _ => h) (fun p q h => RR.step p q h) va vl ?_
  intro σ Hs Ss ρs H S ρ a x lo lo' res ρ' Q q p ra rb e G
  cases rb
  unfold M.bind at e
  split at e
  · rename_i hi ρ2 e2
    refine vh σ H S ρ (.ok hi) ρ2 _ p e2 fun hi' H2 S2 p2 q2 r2 => ?_
    cases r2
    have ra := RR.step p q2 ra
    obtain ⟨d, e3, e4⟩ := Option.bind_eq_some_iff.mp e
    obtain ⟨r, e5, e6⟩ := Option.map_eq_some_iff.mp e4
    cases e6
    have hx := look_ok p2 ra e3
    have q' := q.trans q2
    unfold dSl at e5
    split at e5
    · cases e5
      obtain ⟨a', vs, rfl, s1, r1⟩ := hx.lst_
      refine .inl ⟨a', vs, rfl, s1, fun b n => ?_⟩
      obtain ⟨g, o⟩ := ro_lst n (r1.cut (lo := lo) (hi := hi))
      exact RO.good q' p2 G g o
    · cases e5
      obtain ⟨a', vs, rfl, s1, r1⟩ := hx.tup_
      refine .inr (.inl ⟨a', vs, rfl, s1, fun w => ?_, fun _ b n => ?_⟩)
      · rw [r1.length] at w
        rw [cut_whole w] at G
        exact RO.good (r := .dat _) q' p2 G (Gro.refl _) (Rp.tup s1 r1)
      · obtain ⟨g, o⟩ := ro_tup n (r1.cut (lo := lo) (hi := hi))
        exact RO.good q' p2 G g o
    · split at e5
      · rename_i hl
        cases e5
        exact .inr (.inr ⟨_, hx.str_, hl, RO.good (r := .dat _) q' p2 G (Gro.refl _) (.str _)⟩)
      · cases e5
    · cases e5
  · rename_i x' ρ2 e2
    cases e
    exact vh σ H S ρ (.error _) _ _ p e2 fun C d H' S' v' m1 m2 m3 p3 q3 => G C d H' S' v' m1 m2 m3 p3 (q.trans q3)
  · cases e
/-! ### built-in functions -/
def looks (ρ : Env) : List R → Option (List D)
  | [] => some []
  | r :: rs => (look ρ r).bind fun d => (looks ρ rs).map (d :: ·)
def RpVs (c : Cn) (H : Hp) (S : Addr → Prop) : List V → List D → Prop
  | [], [] => True
  | v :: vs, d :: ds => RpV c H S v d ∧ RpVs c H S vs ds
  | _, _ => False
theorem looks_ok {σ : Sl} {H H0 : Hp} {S : Addr → Prop} {ρ : Env} (p : Rep c σ H S ρ) : ∀ {rs : List R} {vs : List V} {ds : List D}, RRs c σ ρ H0 rs vs H S → looks ρ rs = some ds → RpVs c H S vs ds
  | [], [], _, _, e => by cases e; trivial
  | r :: rs, v :: vs, ds, h, e => by
    unfold looks at e
    obtain ⟨d, e1, e2⟩ := Option.bind_eq_some_iff.mp e
    obtain ⟨ds', e3, rfl⟩ := Option.map_eq_some_iff.mp e2
    exact ⟨look_ok p h.1 e1, looks_ok p h.2 e3⟩
  | [], _ :: _, _, h, _ => h.elim
  | _ :: _, [], _, h, _ => h.elim
abbrev RN := List V → Hp → VK → Prop
structure OpN (X : Cx) (c : Cn) (f : RN → Prop) (r : RN) (g : List D → Option R) : Prop where
  h : f r
  s : ∀ H S xs ds res Q, RpVs c H S xs ds → g ds = some res → (∀ v H', Gro H H' → RO c H H' S res v → Q v H') → r xs H Q
def orN (r r' : RN) : RN := fun xs H Q => r xs H Q ∨ r' xs H Q
def opN (g : List D → Option R) (rs : List R) : M R := fun ρ => (looks ρ rs).bind fun ds => (g ds).map fun r => (.ok r, ρ)
def xOpN (g : List D → Option R) (fr : M (List R)) : M R := fr.bind (opN g)
theorem Vt.opN {W : WX} {g : List D → Option R} {r : RN} (hr : ∀ H S xs ds res Q, RpVs c H S xs ds → g ds = some res → (∀ v H', Gro H H' → RO c H H' S res v → Q v H') → r xs H Q) {t : TA} {fr : M (List R)} (ha : VAt c W t fr) :
    VEt c W (tCB r t) (xOpN g fr) := by
  refine Vt.bind (rel1 := RRs c) (rel2 := RR c) (k := fun xs _ H Q => r xs H Q) ha ?_
  intro σ Hs Ss ρs H S ρ a x res ρ' Q q p ra e G
  obtain ⟨ds, e1, e2⟩ := Option.bind_eq_some_iff.mp e
  obtain ⟨r', e3, e4⟩ := Option.map_eq_some_iff.mp e2
  cases e4
  exact hr H S x ds r' Q (looks_ok p ra e1) e3 fun v H' g' h => RO.good q p G g' h
theorem VE.callB {W : WX} {id : String} {x : Str} {p pos : Pos} {e : Expr} {es : List Expr} {fr : M (List R)} {t : TA} {r : RN} {g : List D → Option R} (ho : OpN X c (CallR X (.builtin id)) r g) (hg : Gl X x) (hm : X.mg x = none) (hv : bootBuiltins x = some (.builtin id)) (ha : VA X c W (e :: es) t fr)
    (hn : x ≠ "__name__" := by decide) (hdb : (x == ("__debug__" : Str)) = false := by decide) (he : starEach (e :: es) X.env = (false, eval e X.env) :: starEach es X.env := by rfl) (hpl : (backTo pos (starEach es X.env)).any (·.1) = false := by rfl) :
    VE X c W (.Call (.Name x p) (e :: es) [] pos) (tCB r t) (xOpN g fr) :=
  ⟨pe_callB ho.h hg hm hv ha.pe hn hdb he hpl, Vt.opN ho.s ha.vt⟩
theorem VE.callTy {W : WX} {T : String} {x : Str} {p pos : Pos} {e : Expr} {es : List Expr} {fr : M (List R)} {t : TA} {r : RN} {g : List D → Option R} (ho : OpN X c (CallR X (.type T)) r g) (hg : Gl X x) (hm : X.mg x = none) (hv : bootBuiltins x = some (.type T)) (ha : VA X c W (e :: es) t fr)
    (hn : x ≠ "__name__" := by decide) (hdb : (x == ("__debug__" : Str)) = false := by decide) (he : starEach (e :: es) X.env = (false, eval e X.env) :: starEach es X.env := by rfl) (hpl : (backTo pos (starEach es X.env)).any (·.1) = false := by rfl) :
    VE X c W (.Call (.Name x p) (e :: es) [] pos) (tCB r t) (xOpN g fr) :=
  ⟨pe_callTy ho.h hg hm hv ha.pe hn hdb he hpl, Vt.opN ho.s ha.vt⟩
theorem RpVs.one {H : Hp} {S : Addr → Prop} {xs : List V} {d : D} (h : RpVs c H S xs [d]) : ∃ x, xs = [x] ∧ RpV c H S x d := by
  match xs, h with
  | [x], h => exact ⟨x, rfl, h.1⟩
  | [], h => exact h.elim
  | _ :: _ :: _, h => exact h.2.elim
theorem RpVs.two {H : Hp} {S : Addr → Prop} {xs : List V} {d e : D} (h : RpVs c H S xs [d, e]) : ∃ x y, xs = [x, y] ∧ RpV c H S x d ∧ RpV c H S y e := by
  match xs, h with
  | [x, y], h => exact ⟨x, y, rfl, h.1, h.2.1⟩
  | [], h => exact h.elim
  | [_], h => exact h.2.elim
  | _ :: _ :: _ :: _, h => exact h.2.2.elim
end
end Vm
/-! ### built-in functions one by one; tests -/
namespace Vm
open PySem PySem.Spec PyProof.Rows L2 Ky
section
variable {X : Cx} {c : Cn}
/-! len -/
def isSet : List (D × D) → Option (List D)
  | [(.none, .list xs)] => some xs
  | _ => none
def dLen : List D → Option R
  | [.list xs] => some (.dat (.int xs.length))
  | [.tuple xs] => some (.dat (.int xs.length))
  | [.str z] => if z.length ≤ sizeLine then some (.dat (.int z.length)) else none
  | [.dict kvs] => match isSet kvs with
    | some xs => some (.dat (.int xs.length))
    | none => some (.dat (.int kvs.length))
  | _ => none
def rLenK : RN := fun xs H Q => ∃ a kvs, xs = [.ref a] ∧ H a = some (.dK kvs) ∧ Q (.int (kvs.length : Nat)) H
theorem call_lenK : CallR X (.builtin "len") rLenK := by
  intro pins s σ H xs us Q I r h
  obtain ⟨a, kvs, rfl, e, q⟩ := h
  rw [Vals.ref1 r]
  exact d_len I (.of e) fun t s' I' => ⟨.int (kvs.length : Nat), H, I', ⟨t, rfl⟩, q⟩
theorem nodup_len {l m : List Int} (h1 : l.Nodup) (h2 : m.Nodup) (h : ∀ k, k ∈ l ↔ k ∈ m) : l.length = m.length := ((List.perm_ext_iff_of_nodup h1 h2).mpr h).length_eq
def rLenS (w : World) : RN := fun vs H Q => ∃ (a : Addr) (xs : List Int) (n : Nat), vs = [.ref a] ∧ xs.Pairwise (· < ·) ∧ H a = some (SetO w a (fun j => decide (j ∈ xs)) n) ∧ Q (.int (xs.length : Nat)) H
theorem asc_nodup {xs : List Int} (h : xs.Pairwise (· < ·)) : xs.Nodup := h.imp fun h e => by omega
theorem call_lenS : CallR X (.builtin "len") (rLenS X.w) := by
  intro pins s σ H vs us Q I r h
  obtain ⟨a, xs, n, rfl, hp, e, q⟩ := h
  rw [Vals.ref1 r]
  obtain ⟨o, es, ep, t, ho, hex, hd, g, nd, hm, hb, hf, hn, hr, hl⟩ := setO_get I e
  have hlen : xs.length = n := by
    rw [← hn, ← Array.length_toList, ← List.length_map (f := keyOf)]
    refine nodup_len (asc_nodup hp) nd fun k => ?_
    rw [← hm k]
    simp
  have hb' : es.size ≤ 2 ^ 62 := by
    have : es.size < scanBound := hb
    have : scanBound ≤ 2 ^ 62 := by decide
    omega
  refine call_len_set ho hex hd hf (by rw [hn] <;> omega) ⟨.int xs.length, H, I.tok _, ⟨_, by rw [hn, hlen]⟩, q⟩
theorem isSet_setD (xs : List Int) : isSet [(.none, .list (xs.map .int))] = some (xs.map .int) := rfl
theorem isSet_key {H : Hp} {S : Addr → Prop} {K : PySem.W.Frag} {ks : List (Key × V)} {kvs : List (D × D)} (h : RpK K H S ks kvs) : isSet kvs = none := by
  cases h with
  | nil => rfl
  | cons h1 h2 =>
    rename_i k _ _ _ _
    cases k <;> rfl
def rLenV (K : PySem.W.Frag) : RN := fun xs H Q => ∃ x n, xs = [x] ∧ LenV K x H n ∧ Q (.int n) H
theorem o_len (k : Fit X c) : OpN X c (CallR X (.builtin "len")) (orN (rLenV c.K) (orN rLenK (rLenS c.w))) dLen := by
  refine ⟨by rw [← k.K, ← k.w]; exact (call_len.or (call_lenK.or call_lenS)), ?_⟩
  intro H S xs ds res Q hx hg G
  unfold dLen at hg
  split at hg
  · cases hg
    obtain ⟨x, rfl, h⟩ := hx.one
    obtain ⟨a, vs, rfl, s1, r1⟩ := h.lst_
    exact .inl ⟨_, _, rfl, .inl ⟨vs, s1, rfl⟩, by rw [r1.length]; exact G _ _ (Gro.refl H) (.int _)⟩
  · cases hg
    obtain ⟨x, rfl, h⟩ := hx.one
    obtain ⟨a, vs, rfl, s1, r1⟩ := h.tup_
    exact .inl ⟨_, _, rfl, .inr ⟨vs, s1, rfl⟩, by rw [r1.length]; exact G _ _ (Gro.refl H) (.int _)⟩
  · split at hg
    · rename_i hl
      cases hg
      obtain ⟨x, rfl, h⟩ := hx.one
      rw [h.str_]
      exact .inl ⟨_, _, rfl, ⟨hl, rfl⟩, G _ _ (Gro.refl H) (.int _)⟩
    · cases hg
  · obtain ⟨x, rfl, h⟩ := hx.one
    have h0 := h
    rcases h.dct_ with ⟨a, ks, rfl, h1, h2⟩ | ⟨zs, h1⟩
    · rw [isSet_key h2] at hg
      cases hg
      exact .inr (.inl ⟨a, ks, rfl, h1, by rw [h2.length]; exact G _ _ (Gro.refl H) (.int _)⟩)
    · rw [h1] at h0
      obtain ⟨a, n, rfl, hp, e⟩ := h0.set_
      unfold setD at h1
      injection h1 with h1
      subst h1
      rw [isSet_setD] at hg
      cases hg
      rw [List.length_map] at G
      exact .inr (.inr ⟨a, zs, n, rfl, hp, e, G _ _ (Gro.refl H) (.int _)⟩)
  · cases hg
/-! list, tuple -/
def dList : List D → Option R
  | [.list xs] => some (.own (.lst xs))
  | [.tuple xs] => some (.own (.lst xs))
  | _ => none
def rListOf (K : PySem.W.Frag) : RN := fun xs H Q => ∃ p ys, xs = [.ref p] ∧ (SqL K H p ys ∨ SqT K H p ys) ∧ ∀ l, H l = none → Q (.ref l) (upd H l (.lst ys))
theorem o_list (k : Fit X c) : OpN X c (CallR X (.type "list")) (rListOf c.K) dList := by
  refine ⟨by rw [← k.K]; exact call_list_of, ?_⟩
  intro H S xs ds res Q hx hg G
  unfold dList at hg
  split at hg
  · cases hg
    obtain ⟨x, rfl, h⟩ := hx.one
    obtain ⟨a, vs, rfl, s1, r1⟩ := h.lst_
    refine ⟨a, vs, rfl, .inl s1, fun l n => ?_⟩
    obtain ⟨g, o⟩ := ro_lst n r1
    exact G _ _ g o
  · cases hg
    obtain ⟨x, rfl, h⟩ := hx.one
    obtain ⟨a, vs, rfl, s1, r1⟩ := h.tup_
    refine ⟨a, vs, rfl, .inr s1, fun l n => ?_⟩
    obtain ⟨g, o⟩ := ro_lst n r1
    exact G _ _ g o
  · cases hg
def dTuple : List D → Option R
  | [.list xs] => some (.dat (.tuple xs))
  | [.tuple xs] => some (.dat (.tuple xs))
  | _ => none
def rTupOf (K : PySem.W.Frag) : RN := fun xs H Q => ∃ p ys, xs = [.ref p] ∧ ((SqL K H p ys ∧ ∀ l, H l = none → Q (.ref l) (upd H l (.tup ys))) ∨ (SqT K H p ys ∧ Q (.ref p) H))
theorem o_tuple (k : Fit X c) : OpN X c (CallR X (.type "tuple")) (rTupOf c.K) dTuple := by
  refine ⟨by rw [← k.K]; exact call_tuple_of, ?_⟩
  intro H S xs ds res Q hx hg G
  unfold dTuple at hg
  split at hg
  · cases hg
    obtain ⟨x, rfl, h⟩ := hx.one
    obtain ⟨a, vs, rfl, s1, r1⟩ := h.lst_
    refine ⟨a, vs, rfl, .inl ⟨s1, fun l n => ?_⟩⟩
    obtain ⟨g, o⟩ := ro_tup n r1
    exact G _ _ g o
  · cases hg
    obtain ⟨x, rfl, h⟩ := hx.one
    obtain ⟨a, vs, rfl, s1, r1⟩ := h.tup_
    exact ⟨a, vs, rfl, .inr ⟨s1, G _ _ (Gro.refl H) (Rp.tup s1 r1)⟩⟩
  · cases hg
/-! ints as data -/
def toInts : List D → Option (List Int)
  | [] => some []
  | .int i :: ds => (toInts ds).map (i :: ·)
  | _ => none
theorem toInts_ok : ∀ {ds : List D} {ns : List Int}, toInts ds = some ns → ds = ns.map .int
  | [], _, h => by cases h; rfl
  | d :: ds, ns, h => by
    unfold toInts at h
    split at h
    · rename_i e; cases e
    · rename_i i ds' e
      cases e
      obtain ⟨ms, e1, rfl⟩ := Option.map_eq_some_iff.mp h
      rw [toInts_ok e1]; rfl
    · cases h
theorem toInts_map (ns : List Int) : toInts (ns.map .int) = some ns := by
  induction ns with
  | nil => rfl
  | cons n ns ih => simp [toInts, ih]
theorem rpA_ints {H : Hp} {S : Addr → Prop} {K : PySem.W.Frag} : ∀ {ns : List Int} {vs : List V}, RpA K H S vs (ns.map .int) → vs = ns.map V.int
  | [], _, h => by cases h; rfl
  | n :: ns, _, h => by
    cases h with
    | cons h1 h2 => cases h1; rw [rpA_ints h2]; rfl
theorem ints_rpA {H : Hp} {S : Addr → Prop} {K : PySem.W.Frag} (ns : List Int) : RpA K H S (ns.map V.int) (ns.map .int) := RpA.of_map (fun n => .int n) ns
/-! sets of ints -/
def ins (k : Int) : List Int → List Int
  | [] => [k]
  | x :: xs => if k < x then k :: x :: xs else if k = x then x :: xs else x :: ins k xs
def asc (ns : List Int) : List Int := ns.foldr ins []
theorem mem_ins (k j : Int) : ∀ xs : List Int, j ∈ ins k xs ↔ j = k ∨ j ∈ xs
  | [] => by simp [ins]
  | x :: xs => by
    unfold ins
    split
    · simp
    · split
      · rename_i h; subst h; simp
      · simp only [List.mem_cons, mem_ins k j xs]
        constructor <;> (intro h; rcases h with h | h | h <;> simp [h])
theorem ins_asc (k : Int) : ∀ {xs : List Int}, xs.Pairwise (· < ·) → (ins k xs).Pairwise (· < ·)
  | [], _ => by simp [ins]
  | x :: xs, h => by
    obtain ⟨h1, h2⟩ := List.pairwise_cons.mp h
    unfold ins
    split
    · rename_i hk
      exact List.pairwise_cons.mpr ⟨fun y hy => by
        rcases List.mem_cons.mp hy with rfl | hy
        · exact hk
        · have := h1 y hy; omega, h⟩
    · split
      · exact h
      · exact List.pairwise_cons.mpr ⟨fun y hy => by
          rcases (mem_ins k y xs).mp hy with rfl | hy
          · omega
          · exact h1 y hy, ins_asc k h2⟩
theorem asc_asc : ∀ ns : List Int, (asc ns).Pairwise (· < ·)
  | [] => List.Pairwise.nil
  | n :: ns => ins_asc n (asc_asc ns)
theorem mem_asc (j : Int) : ∀ ns : List Int, j ∈ asc ns ↔ j ∈ ns
  | [] => by simp [asc]
  | n :: ns => by
    show j ∈ ins n (asc ns) ↔ _
    rw [mem_ins, mem_asc j ns, List.mem_cons]
theorem asc_ext : ∀ {l m : List Int}, l.Pairwise (· < ·) → m.Pairwise (· < ·) → (∀ k, k ∈ l ↔ k ∈ m) → l = m
  | [], [], _, _, _ => rfl
  | [], y :: _, _, _, h => by have := (h y).mpr List.mem_cons_self; cases this
  | x :: _, [], _, _, h => by have := (h x).mp List.mem_cons_self; cases this
  | x :: l, y :: m, hl, hm, h => by
    obtain ⟨l1, l2⟩ := List.pairwise_cons.mp hl
    obtain ⟨m1, m2⟩ := List.pairwise_cons.mp hm
    have e : x = y := by
      rcases List.mem_cons.mp ((h x).mp List.mem_cons_self) with e | e
      · exact e
      · rcases List.mem_cons.mp ((h y).mpr List.mem_cons_self) with e' | e'
        · exact e'.symm
        · have := m1 x e; have := l1 y e'; omega
    subst e
    congr 1
    refine asc_ext l2 m2 fun k => ⟨fun q => ?_, fun q => ?_⟩
    · rcases List.mem_cons.mp ((h k).mp (List.mem_cons_of_mem _ q)) with e | e
      · have := l1 k q; omega
      · exact e
    · rcases List.mem_cons.mp ((h k).mpr (List.mem_cons_of_mem _ q)) with e | e
      · have := m1 k q; omega
      · exact e
def dSet : List D → Option R
  | [.list xs] => (toInts xs).bind fun ns => if ns.length ≤ 1000 then some (.own (.set (asc ns))) else none
  | [.tuple xs] => (toInts xs).bind fun ns => if ns.length ≤ 1000 then some (.own (.set (asc ns))) else none
  | _ => none
theorem RO.set {H : Hp} {S : Addr → Prop} {p : Addr} {m : Nat} {ns : List Int} (n : H p = none) : Gro H (upd H p (SetO c.w p (fun j => decide (j ∈ ns)) m)) ∧ RO c H (upd H p (SetO c.w p (fun j => decide (j ∈ ns)) m)) S (.own (.set (asc ns))) (.ref p) := by
  refine ⟨gro_new n, p, rfl, n, asc_asc ns, m, ?_⟩
  rw [upd_same]
  congr 2
  funext j
  exact decide_eq_decide.mpr (mem_asc j ns).symm
theorem o_set (k : Fit X c) (hc : X.calm = true) : OpN X c (CallR X (.type "set")) (rSetNums c.K c.w) dSet := by
  refine ⟨by rw [← k.K, ← k.w]; exact call_setNums hc, ?_⟩
  intro H S xs ds res Q hx hg G
  unfold dSet at hg
  split at hg
  · obtain ⟨ns, e1, hg⟩ := Option.bind_eq_some_iff.mp hg
    split at hg
    · rename_i hl
      cases hg
      obtain ⟨x, rfl, h⟩ := hx.one
      obtain ⟨a, vs, rfl, s1, r1⟩ := h.lst_
      rw [toInts_ok e1] at r1
      rw [rpA_ints r1] at s1
      refine ⟨a, ns, rfl, .inl s1, hl, fun p m _ n => ?_⟩
      obtain ⟨g, o⟩ := RO.set (c := c) (S := S) (m := m) (ns := ns) n
      exact G _ _ g o
    · cases hg
  · obtain ⟨ns, e1, hg⟩ := Option.bind_eq_some_iff.mp hg
    split at hg
    · rename_i hl
      cases hg
      obtain ⟨x, rfl, h⟩ := hx.one
      obtain ⟨a, vs, rfl, s1, r1⟩ := h.tup_
      rw [toInts_ok e1] at r1
      rw [rpA_ints r1] at s1
      refine ⟨a, ns, rfl, .inr s1, hl, fun p m _ n => ?_⟩
      obtain ⟨g, o⟩ := RO.set (c := c) (S := S) (m := m) (ns := ns) n
      exact G _ _ g o
    · cases hg
  · cases hg
/-! sorted -/
def insW (k : Int) : List Int → List Int
  | [] => [k]
  | x :: xs => if k ≤ x then k :: x :: xs else x :: insW k xs
def srt (ns : List Int) : List Int := ns.foldr insW []
theorem insW_perm (k : Int) : ∀ xs : List Int, (insW k xs).Perm (k :: xs)
  | [] => .refl _
  | x :: xs => by
    unfold insW
    split
    · exact .refl _
    · exact ((insW_perm k xs).cons x).trans (.swap k x xs)
theorem srt_perm : ∀ ns : List Int, (srt ns).Perm ns
  | [] => .refl _
  | n :: ns => (insW_perm n (srt ns)).trans ((srt_perm ns).cons n)
theorem insW_srt (k : Int) : ∀ {xs : List Int}, xs.Pairwise (· ≤ ·) → (insW k xs).Pairwise (· ≤ ·)
  | [], _ => by simp [insW]
  | x :: xs, h => by
    obtain ⟨h1, h2⟩ := List.pairwise_cons.mp h
    unfold insW
    split
    · rename_i hk
      exact List.pairwise_cons.mpr ⟨fun y hy => by
        rcases List.mem_cons.mp hy with rfl | hy
        · exact hk
        · have := h1 y hy; omega, h⟩
    · exact List.pairwise_cons.mpr ⟨fun y hy => by
        rcases List.mem_cons.mp ((insW_perm k xs).mem_iff.mp hy) with rfl | hy
        · omega
        · exact h1 y hy, insW_srt k h2⟩
theorem srt_srt : ∀ ns : List Int, (srt ns).Pairwise (· ≤ ·)
  | [] => List.Pairwise.nil
  | n :: ns => insW_srt n (srt_srt ns)
theorem srt_ext : ∀ {l m : List Int}, l.Pairwise (· ≤ ·) → m.Pairwise (· ≤ ·) → l.Perm m → l = m := fun {l m} h1 h2 h => by
  refine List.Perm.eq_of_pairwise (le := (· ≤ ·)) (fun a b _ _ h1 h2 => by omega) h1 h2 h
def rSortedSS (w : World) : RN := fun vs H Q => ∃ (a : Addr) (xs : List Int) (n : Nat), vs = [.ref a] ∧ xs.Pairwise (· < ·) ∧ H a = some (SetO w a (fun j => decide (j ∈ xs)) n) ∧ xs.length < 64 ∧ ∀ p, H p = none → Q (.ref p) (upd H p (.lst (xs.map V.int)))
theorem call_sortedSS (hc : X.calm = true) : CallR X (.builtin "sorted") (rSortedSS X.w) := by
  intro pins s σ H vs us Q I r h
  obtain ⟨a, xs, n, rfl, hp, e, hl, q⟩ := h
  have hlen : xs.length = n := by
    obtain ⟨o, es, ep, t, ho, hex, hd, g, nd, hm, hb, hf, hn, hr, hl⟩ := setO_get I e
    rw [← hn, ← Array.length_toList, ← List.length_map (f := keyOf)]
    refine nodup_len (asc_nodup hp) nd fun k => ?_
    rw [← hm k]
    simp
  refine cr_sortedSet hc pins s σ H _ us Q I r ⟨a, _, n, rfl, e, by omega, fun ns p h1 h2 h3 hn => ?_⟩
  have : ns = xs := asc_ext h1 hp fun k => by rw [h2 k]; simp
  rw [this]
  exact q p hn
def dSorted : List D → Option R
  | [.list xs] => (toInts xs).map fun ns => .own (.lst ((srt ns).map .int))
  | [.dict kvs] => (isSet kvs).bind fun xs => if xs.length < 64 then some (.own (.lst xs)) else none
  | _ => none
theorem o_sorted (k : Fit X c) (hc : X.calm = true) : OpN X c (CallR X (.builtin "sorted")) (orN (rSortedI c.K) (rSortedSS c.w)) dSorted := by
  refine ⟨by rw [← k.K, ← k.w]; exact (cr_sortedI.or (call_sortedSS hc)), ?_⟩
  intro H S xs ds res Q hx hg G
  unfold dSorted at hg
  split at hg
  · obtain ⟨ns, e1, rfl⟩ := Option.map_eq_some_iff.mp hg
    obtain ⟨x, rfl, h⟩ := hx.one
    obtain ⟨a, vs, rfl, s1, r1⟩ := h.lst_
    rw [toInts_ok e1] at r1
    rw [rpA_ints r1] at s1
    refine .inl ⟨a, ns, rfl, s1, fun ns' p h1 h2 n => ?_⟩
    have e : ns' = srt ns := srt_ext h2 (srt_srt ns) (h1.trans (srt_perm ns).symm)
    rw [e]
    obtain ⟨g, o⟩ := ro_lst (c := c) (S := S) n (ints_rpA (srt ns))
    exact G _ _ g o
  · obtain ⟨zs, e1, hg⟩ := Option.bind_eq_some_iff.mp hg
    split at hg
    · rename_i hl
      cases hg
      obtain ⟨x, rfl, h⟩ := hx.one
      have h0 := h
      rcases h.dct_ with ⟨a, ks, rfl, h1, h2⟩ | ⟨ys, h1⟩
      · rw [isSet_key h2] at e1; cases e1
      · rw [h1] at h0
        obtain ⟨a, n, rfl, hp, e⟩ := h0.set_
        unfold setD at h1
        injection h1 with h1
        subst h1
        cases e1
        rw [List.length_map] at hl
        refine .inr ⟨a, ys, n, rfl, hp, e, hl, fun p nn => ?_⟩
        obtain ⟨g, o⟩ := ro_lst (c := c) (S := S) nn (ints_rpA ys)
        exact G _ _ g o
    · cases hg
  · cases hg
end
end Vm
namespace Vm
open PySem PySem.Spec PyProof.Rows L2 Ky
section
variable {X : Cx} {c : Cn}
/-! ### small built-ins -/
def dMin : List D → Option R
  | [.int i, .int j] => some (.dat (.int (min i j)))
  | _ => none
def dMax : List D → Option R
  | [.int i, .int j] => some (.dat (.int (max i j)))
  | [.list xs] => (toInts xs).bind fun ns => match ns with
    | [] => none
    | n :: ns => some (.dat (.int (ns.foldl max n)))
  | [.tuple xs] => (toInts xs).bind fun ns => match ns with
    | [] => none
    | n :: ns => some (.dat (.int (ns.foldl max n)))
  | _ => none
def rMin2 : RN := fun xs H Q => ∃ i j, xs = [.int i, .int j] ∧ Q (.int (if j < i then j else i)) H
def rMax2 : RN := fun xs H Q => ∃ i j, xs = [.int i, .int j] ∧ Q (.int (if j > i then j else i)) H
def rInt1 : RN := fun xs H Q => (∃ i, xs = [.int i] ∧ Q (.int i) H) ∨ ∃ k, xs = [.bl k] ∧ Q (.int (if k then 1 else 0)) H
def rAbs1 : RN := fun xs H Q => ∃ i, xs = [.int i] ∧ Q (.int (if i < 0 then -i else i)) H
theorem o_min (hc : X.calm = true) : OpN X c (CallR X (.builtin "min")) rMin2 dMin := by
  refine ⟨call_min2 hc, ?_⟩
  intro H S xs ds res Q hx hg G
  unfold dMin at hg
  split at hg
  · rename_i i j
    cases hg
    obtain ⟨x, y, rfl, h1, h2⟩ := hx.two
    rw [h1.int_, h2.int_]
    refine ⟨_, _, rfl, G _ _ (Gro.refl H) ?_⟩
    have e : (if j < i then j else i) = min i j := by omega
    rw [e]
    exact Rp.int _
  · cases hg
theorem max_of {n : Int} {ns : List Int} {m : Int} (h1 : m ∈ n :: ns) (h2 : ∀ y ∈ n :: ns, y ≤ m) : m = ns.foldl max n := by
  obtain ⟨a, b, d⟩ := foldl_max ns n
  have h3 : ns.foldl max n ∈ n :: ns := by
    rcases a with a | a
    · rw [a]; exact List.mem_cons_self
    · exact List.mem_cons_of_mem _ a
  have h4 := h2 _ h3
  have h5 : m ≤ ns.foldl max n := by
    rcases List.mem_cons.mp h1 with e | e
    · rw [e]; exact b
    · exact d m e
  omega
theorem o_max {k' : Nat} (k : Fit X c) (hc : X.calm = true) (hr : Room k' X.A) : OpN X c (CallR X (.builtin "max")) (orN rMax2 (rMaxS c.K)) dMax := by
  refine ⟨by rw [← k.K]; exact ((call_max2 hc).or (call_maxS hc hr)), ?_⟩
  intro H S xs ds res Q hx hg G
  unfold dMax at hg
  split at hg
  · rename_i i j
    cases hg
    obtain ⟨x, y, rfl, h1, h2⟩ := hx.two
    rw [h1.int_, h2.int_]
    refine .inl ⟨_, _, rfl, G _ _ (Gro.refl H) ?_⟩
    have e : (if j > i then j else i) = max i j := by omega
    rw [e]
    exact Rp.int _
  · obtain ⟨ns, e1, hg⟩ := Option.bind_eq_some_iff.mp hg
    split at hg
    · cases hg
    · rename_i n ns
      cases hg
      obtain ⟨x, rfl, h⟩ := hx.one
      obtain ⟨a, vs, rfl, s1, r1⟩ := h.lst_
      rw [toInts_ok e1] at r1
      rw [rpA_ints r1] at s1
      refine .inr ⟨a, n :: ns, rfl, .inl s1, Nat.succ_pos _, fun m h1 h2 => ?_⟩
      rw [max_of h1 h2]
      exact G _ _ (Gro.refl H) (Rp.int _)
  · obtain ⟨ns, e1, hg⟩ := Option.bind_eq_some_iff.mp hg
    split at hg
    · cases hg
    · rename_i n ns
      cases hg
      obtain ⟨x, rfl, h⟩ := hx.one
      obtain ⟨a, vs, rfl, s1, r1⟩ := h.tup_
      rw [toInts_ok e1] at r1
      rw [rpA_ints r1] at s1
      refine .inr ⟨a, n :: ns, rfl, .inr s1, Nat.succ_pos _, fun m h1 h2 => ?_⟩
      rw [max_of h1 h2]
      exact G _ _ (Gro.refl H) (Rp.int _)
  · cases hg
def dIntOf : List D → Option R
  | [.int i] => some (.dat (.int i))
  | [.bool b] => some (.dat (.int (if b then 1 else 0)))
  | _ => none
theorem o_intOf : OpN X c (CallR X (.type "int")) rInt1 dIntOf := by
  refine ⟨call_int1, ?_⟩
  intro H S xs ds res Q hx hg G
  unfold dIntOf at hg
  split at hg
  · cases hg
    obtain ⟨x, rfl, h⟩ := hx.one
    rw [h.int_]
    exact .inl ⟨_, rfl, G _ _ (Gro.refl H) (Rp.int _)⟩
  · cases hg
    obtain ⟨x, rfl, h⟩ := hx.one
    rw [h.bl_]
    exact .inr ⟨_, rfl, G _ _ (Gro.refl H) (Rp.int _)⟩
  · cases hg
def dAbs : List D → Option R
  | [.int i] => some (.dat (.int (if i < 0 then -i else i)))
  | _ => none
theorem o_abs : OpN X c (CallR X (.builtin "abs")) rAbs1 dAbs := by
  refine ⟨call_abs, ?_⟩
  intro H S xs ds res Q hx hg G
  unfold dAbs at hg
  split at hg
  · cases hg
    obtain ⟨x, rfl, h⟩ := hx.one
    rw [h.int_]
    exact ⟨_, rfl, G _ _ (Gro.refl H) (Rp.int _)⟩
  · cases hg
def dSum : List D → Option R
  | [.list xs] => (toInts xs).map fun ns => .dat (.int ns.sum)
  | _ => none
theorem o_sum (k : Fit X c) (hc : X.calm = true) : OpN X c (CallR X (.builtin "sum")) (rSum c.K) dSum := by
  refine ⟨by rw [← k.K]; exact cr_sum hc, ?_⟩
  intro H S xs ds res Q hx hg G
  unfold dSum at hg
  split at hg
  · obtain ⟨ns, e1, rfl⟩ := Option.map_eq_some_iff.mp hg
    obtain ⟨x, rfl, h⟩ := hx.one
    obtain ⟨a, vs, rfl, s1, r1⟩ := h.lst_
    rw [toInts_ok e1] at r1
    rw [rpA_ints r1] at s1
    exact ⟨a, ns, rfl, s1, G _ _ (Gro.refl H) (Rp.int _)⟩
  · cases hg
def toBls : List D → Option (List Bool)
  | [] => some []
  | .bool i :: ds => (toBls ds).map (i :: ·)
  | _ => none
theorem toBls_ok : ∀ {ds : List D} {ns : List Bool}, toBls ds = some ns → ds = ns.map .bool
  | [], _, h => by cases h; rfl
  | d :: ds, ns, h => by
    unfold toBls at h
    split at h
    · rename_i e; cases e
    · rename_i i ds' e
      cases e
      obtain ⟨ms, e1, rfl⟩ := Option.map_eq_some_iff.mp h
      rw [toBls_ok e1]; rfl
    · cases h
theorem toBls_map (ns : List Bool) : toBls (ns.map .bool) = some ns := by
  induction ns with
  | nil => rfl
  | cons n ns ih => simp [toBls, ih]
theorem rpA_bls {H : Hp} {S : Addr → Prop} {K : PySem.W.Frag} : ∀ {ns : List Bool} {vs : List V}, RpA K H S vs (ns.map .bool) → vs = ns.map V.bl
  | [], _, h => by cases h; rfl
  | n :: ns, _, h => by
    cases h with
    | cons h1 h2 => cases h1; rw [rpA_bls h2]; rfl
def dAll : List D → Option R
  | [.list xs] => (toBls xs).map fun ns => .dat (.bool (ns.all id))
  | _ => none
def dAny : List D → Option R
  | [.list xs] => (toBls xs).map fun ns => .dat (.bool (ns.any id))
  | _ => none
theorem o_all (k : Fit X c) (hc : X.calm = true) : OpN X c (CallR X (.builtin "all")) (rAll c.K) dAll := by
  refine ⟨by rw [← k.K]; exact cr_all hc, ?_⟩
  intro H S xs ds res Q hx hg G
  unfold dAll at hg
  split at hg
  · obtain ⟨ns, e1, rfl⟩ := Option.map_eq_some_iff.mp hg
    obtain ⟨x, rfl, h⟩ := hx.one
    obtain ⟨a, vs, rfl, s1, r1⟩ := h.lst_
    rw [toBls_ok e1] at r1
    rw [rpA_bls r1] at s1
    exact ⟨a, ns, rfl, s1, G _ _ (Gro.refl H) (Rp.bl _)⟩
  · cases hg
theorem o_any (k : Fit X c) (hc : X.calm = true) : OpN X c (CallR X (.builtin "any")) (rAny c.K) dAny := by
  refine ⟨by rw [← k.K]; exact cr_any hc, ?_⟩
  intro H S xs ds res Q hx hg G
  unfold dAny at hg
  split at hg
  · obtain ⟨ns, e1, rfl⟩ := Option.map_eq_some_iff.mp hg
    obtain ⟨x, rfl, h⟩ := hx.one
    obtain ⟨a, vs, rfl, s1, r1⟩ := h.lst_
    rw [toBls_ok e1] at r1
    rw [rpA_bls r1] at s1
    exact ⟨a, ns, rfl, s1, G _ _ (Gro.refl H) (Rp.bl _)⟩
  · cases hg
/-! ### repr -/
def dRepr : List D → Option R
  | [d] => match d with
    | .list _ => if d.showable && !d.hasDict && decide (d.depth < 100) && decide (d.shown.length ≤ sizeLine) then some (.dat (.str d.shown)) else none
    | .tuple _ => if d.showable && !d.hasDict && decide (d.depth < 100) && decide (d.shown.length ≤ sizeLine) then some (.dat (.str d.shown)) else none
    | _ => none
  | _ => none
theorem o_repr {k' : Nat} (k : Fit X c) (noG : X.A.guards = some []) (hr : Room k' X.A) : OpN X c (CallR X (.builtin "repr")) (rRepr c.K) dRepr := by
  refine ⟨by rw [← k.K]; exact call_reprG noG hr, ?_⟩
  intro H S xs ds res Q hx hg G
  unfold dRepr at hg
  split at hg
  · rename_i d
    obtain ⟨x, rfl, h⟩ := hx.one
    split at hg
    · split at hg
      · rename_i hc
        cases hg
        obtain ⟨hc, h4⟩ := Bool.and_eq_true_iff.mp hc
        obtain ⟨hc, h3⟩ := Bool.and_eq_true_iff.mp hc
        obtain ⟨h1, h2⟩ := Bool.and_eq_true_iff.mp hc
        have h2 := Bool.not_eq_true' _ |>.mp h2
        have dp := h.dp h2
        obtain ⟨a, vs, rfl, _, _⟩ := h.lst_
        exact ⟨a, _, rfl, dp, h1, h2, of_decide_eq_true h3, of_decide_eq_true h4, G _ _ (Gro.refl H) (Rp.str _)⟩
      · cases hg
    · split at hg
      · rename_i hc
        cases hg
        obtain ⟨hc, h4⟩ := Bool.and_eq_true_iff.mp hc
        obtain ⟨hc, h3⟩ := Bool.and_eq_true_iff.mp hc
        obtain ⟨h1, h2⟩ := Bool.and_eq_true_iff.mp hc
        have h2 := Bool.not_eq_true' _ |>.mp h2
        have dp := h.dp h2
        obtain ⟨a, vs, rfl, _, _⟩ := h.tup_
        exact ⟨a, _, rfl, dp, h1, h2, of_decide_eq_true h3, of_decide_eq_true h4, G _ _ (Gro.refl H) (Rp.str _)⟩
      · cases hg
    · cases hg
  · cases hg
/-! ### isinstance -/
def tyD : D → String
  | .none => "NoneType"
  | .bool _ => "bool"
  | .int _ => "int"
  | .str _ => "str"
  | .list _ => "list"
  | .tuple _ => "tuple"
  | .dict _ => "dict"
/-- data of one of the types -/
def isTy (T : String) (d : D) : Bool := match d, T with
  | .bool _, "int" => true
  | d, T => decide (tyD d = T)
/-! ### x in xs -/
def dIn (neg : Bool) (x y : D) : Option R := match y with
  | .list ys => if SeqAt.shaped x && SeqAt.shaped (.list ys) then some (.dat (.bool (if neg then !(ys.any fun z => PyData.eqv z x) else ys.any fun z => PyData.eqv z x))) else none
  | .tuple ys => if flatD x && ys.all flatD then some (.dat (.bool (if neg then !(ys.any fun z => PyData.eqv z x) else ys.any fun z => PyData.eqv z x))) else none
  | .dict kvs => match isSet kvs with
    | some zs => match x with
      | .int i => some (.dat (.bool (if neg then !(zs.any fun z => PyData.eqv z (.int i)) else zs.any fun z => PyData.eqv z (.int i))))
      | _ => none
    | none => (dKey x).map fun k => .dat (.bool (if neg then !(valD kvs k).isSome else (valD kvs k).isSome))
  | .str z => match x with
    | .str y => some (.dat (.bool (if neg then !(!(Builtin.Str.occurrences z y 0 z.length 1).isEmpty) else !(Builtin.Str.occurrences z y 0 z.length 1).isEmpty)))
    | _ => none
  | _ => none
theorem Rp.flat {K : PySem.W.Frag} {H : Hp} {S : Addr → Prop} {v : V} {d : D} (h : Rp K H S v d) (f : flatD d = true) : flatV v = true := by
  cases h <;> first | rfl | cases f
theorem Rp.eqV {K : PySem.W.Frag} {H : Hp} {S : Addr → Prop} {v w : V} {d e : D} (h : Rp K H S v d) (h2 : Rp K H S w e) (f : flatD d = true) (f2 : flatD e = true) : L2.eqV v w = PyData.eqv d e := by
  cases h <;> (try (exfalso; revert f; simp [flatD]; done)) <;> cases h2 <;> (try (exfalso; revert f2; simp [flatD]; done)) <;> first | rfl | simp [L2.eqV, PyData.eqv]
theorem flat_all {K : PySem.W.Frag} {H : Hp} {S : Addr → Prop} : ∀ {vs : List V} {ds : List D}, RpA K H S vs ds → ds.all flatD = true → vs.all flatV = true
  | _, _, .nil, _ => rfl
  | _, _, .cons h1 h2, f => by
    rw [List.all_cons] at f
    obtain ⟨f1, f2⟩ := Bool.and_eq_true_iff.mp f
    rw [List.all_cons, h1.flat f1, flat_all h2 f2]; rfl
theorem in_any {K : PySem.W.Frag} {H : Hp} {S : Addr → Prop} {v : V} {d : D} (h : Rp K H S v d) (f : flatD d = true) : ∀ {vs : List V} {ds : List D}, RpA K H S vs ds → ds.all flatD = true → inV v vs = ds.any fun z => PyData.eqv z d
  | _, _, .nil, _ => rfl
  | _, _, .cons h1 h2, f2 => by
    rw [List.all_cons] at f2
    obtain ⟨f1, f2⟩ := Bool.and_eq_true_iff.mp f2
    have ih := in_any h f h2 f2
    unfold inV at ih ⊢
    rw [List.any_cons, List.any_cons, ih, h1.eqV h f1 f]
def rInK (neg : Bool) : R2 := fun x y H Q => ∃ a o, y = .ref a ∧ DGet H a x o ∧ Q (.bl (if neg then !o.isSome else o.isSome)) H
theorem op_inK (hu : X.A.units + 1 < cLine) : OpR X (compareOp .In) (rInK false) := by
  intro pins s σ H x y v u Q I rx ry h
  obtain ⟨a, o, rfl, g, q⟩ := h
  cases ry
  exact d_in hu I g rx fun s3 I3 => ⟨.bl o.isSome, H, I3, rfl, q⟩
theorem op_notInK (hu : X.A.units + 1 < cLine) : OpR X (compareOp .NotIn) (rInK true) := by
  intro pins s σ H x y v u Q I rx ry h
  obtain ⟨a, o, rfl, g, q⟩ := h
  cases ry
  exact d_notIn hu I g rx fun s3 I3 => ⟨.bl (!o.isSome), H, I3, rfl, q⟩
theorem op_sIn : OpR X (compareOp .In) (rSIn X.w) := by
  intro pins s σ H x y v u Q I rx ry h
  obtain ⟨k, a, S, n, rfl, rfl, ha, q⟩ := h
  obtain ⟨tk, rfl⟩ := rx
  cases ry
  exact wpAny_inSet_of (intKind_is _ _ _ _) rfl (setO_get I ha).setOf ⟨.bl (S k), H, I.tok _, rfl, q⟩
theorem op_sNotIn : OpR X (compareOp .NotIn) (rSNotIn X.w) := by
  intro pins s σ H x y v u Q I rx ry h
  obtain ⟨k, a, S, n, rfl, rfl, ha, q⟩ := h
  obtain ⟨tk, rfl⟩ := rx
  cases ry
  exact wpAny_notInSet_of (intKind_is _ _ _ _) rfl (setO_get I ha).setOf ⟨.bl (!S k), H, I.tok _, rfl, q⟩
theorem any_int (ys : List Int) (i : Int) : ((ys.map PyData.int).any fun z => PyData.eqv z (.int i)) = decide (i ∈ ys) := by
  induction ys with
  | nil => rfl
  | cons y ys ih =>
    rw [List.map_cons, List.any_cons, ih]
    by_cases h : y = i
    · subst h; simp [PyData.eqv]
    · have h' : ¬ i = y := fun z => h z.symm
      simp [PyData.eqv, h, h']
def rInAll (K : PySem.W.Frag) (w : World) (neg : Bool) : R2 := fun x y H Q => (if neg then rNotInD K x y H Q else rInD K x y H Q) ∨ rIn K neg x y H Q ∨ rInK neg x y H Q ∨ (if neg then rSNotIn w x y H Q else rSIn w x y H Q) ∨
  ∃ i j, x = .str i ∧ y = .str j ∧ Q (.bl (if neg then !(!(Builtin.Str.occurrences j i 0 j.length 1).isEmpty) else !(Builtin.Str.occurrences j i 0 j.length 1).isEmpty)) H
theorem op_inAll (hu : X.A.units + 65 < cLine) : OpR X (compareOp .In) (rInAll X.K X.w false) :=
  (op_inD hu).or (op_in_seq.or ((op_inK (by omega)).or (op_sIn.or op_in_str)))
theorem op_notInAll (hu : X.A.units + 65 < cLine) : OpR X (compareOp .NotIn) (rInAll X.K X.w true) :=
  (op_notInD hu).or (op_notIn_seq.or ((op_notInK (by omega)).or (op_sNotIn.or op_notin_str)))
theorem in_all {neg : Bool} {H : Hp} {S : Addr → Prop} {x y : V} {d e : D} {res : R} {Q : V → Hp → Prop} (hx : RpV c H S x d) (hy : RpV c H S y e) (hg : dIn neg d e = some res) (G : ∀ v H', Gro H H' → RO c H H' S res v → Q v H') : rInAll c.K c.w neg x y H Q := by
  unfold dIn at hg
  split at hg
  · split at hg
    · rename_i ys hs
      cases hg
      obtain ⟨s1, s2⟩ := Bool.and_eq_true_iff.mp hs
      left
      cases neg with
      | true => exact ⟨d, ys, hx.dp (noDict s1), hy.dp (noDict s2), s1, s2, G _ _ (Gro.refl H) (Rp.bl _)⟩
      | false => exact ⟨d, ys, hx.dp (noDict s1), hy.dp (noDict s2), s1, s2, G _ _ (Gro.refl H) (Rp.bl _)⟩
    · cases hg
  · split at hg
    · rename_i ys hs
      cases hg
      obtain ⟨s1, s2⟩ := Bool.and_eq_true_iff.mp hs
      obtain ⟨a, vs, rfl, t1, r1⟩ := hy.tup_
      have hx' : Rp c.K H S x d := by
        cases hx with
        | of h => exact h
        | lst _ _ => simp [flatD] at s1
        | dK _ _ => simp [flatD] at s1
        | st _ _ => simp [flatD, setD] at s1
      refine .inr (.inl ⟨a, vs, rfl, .inr t1, hx'.flat s1, flat_all r1 s2, ?_⟩)
      rw [in_any hx' s1 r1 s2]
      exact G _ _ (Gro.refl H) (Rp.bl _)
    · cases hg
  · rename_i kvs
    have h0 := hy
    rcases hy.dct_ with ⟨a, ks, rfl, h1, h2⟩ | ⟨zs, h1⟩
    · rw [isSet_key h2] at hg
      obtain ⟨k, e1, rfl⟩ := Option.map_eq_some_iff.mp hg
      have ex : x = kV k := by
        rw [dKey_some e1] at hx
        cases k with
        | inl i => exact hx.int_
        | inr z => exact hx.str_
      refine .inr (.inr (.inl ⟨a, valV ks k, rfl, ?_, ?_⟩))
      · rw [ex]; exact .k h1
      · rw [h2.isSome k]
        exact G _ _ (Gro.refl H) (Rp.bl _)
    · rw [h1] at h0
      obtain ⟨a, n, rfl, hp, e⟩ := h0.set_
      unfold setD at h1
      injection h1 with h1
      subst h1
      rw [isSet_setD] at hg
      dsimp only at hg
      split at hg
      · rename_i i
        cases hg
        rw [any_int] at G
        rw [hx.int_]
        refine .inr (.inr (.inr (.inl ?_)))
        cases neg with
        | true => exact ⟨i, a, _, n, rfl, rfl, e, G _ _ (Gro.refl H) (Rp.bl _)⟩
        | false => exact ⟨i, a, _, n, rfl, rfl, e, G _ _ (Gro.refl H) (Rp.bl _)⟩
      · cases hg
  · split at hg
    · cases hg
      exact .inr (.inr (.inr (.inr ⟨_, _, hx.str_, hy.str_, G _ _ (Gro.refl H) (Rp.bl _)⟩)))
    · cases hg
  · cases hg
theorem o_in (k : Fit X c) (hu : X.A.units + 65 < cLine) : Op2 X c (OpR X (compareOp .In)) (rInAll c.K c.w false) (dIn false) := by
  refine ⟨by rw [← k.K, ← k.w]; exact op_inAll hu, ?_⟩
  intro H S x y d e res Q hx hy hg G
  exact in_all hx hy hg G
theorem o_notin (k : Fit X c) (hu : X.A.units + 65 < cLine) : Op2 X c (OpR X (compareOp .NotIn)) (rInAll c.K c.w true) (dIn true) := by
  refine ⟨by rw [← k.K, ← k.w]; exact op_notInAll hu, ?_⟩
  intro H S x y d e res Q hx hy hg G
  exact in_all hx hy hg G
end
end Vm
/-! ### kinds, truth, choices; statements -/
namespace Vm
open PySem PySem.Spec PyProof.Rows L2 Ky
section
variable {X : Cx} {c : Cn} {W : WX}
theorem M.bind_some {α β : Type} {m : M α} {k : α → M β} {ρ ρ' : Env} {res : Except Ex β} (e : (m.bind k) ρ = some (res, ρ')) : (∃ a ρ1, m ρ = some (.ok a, ρ1) ∧ k a ρ1 = some (res, ρ')) ∨ ∃ x, m ρ = some (.error x, ρ') ∧ res = .error x := by
  unfold M.bind at e
  split at e
  · rename_i a ρ1 e1; exact .inl ⟨a, ρ1, e1, e⟩
  · rename_i x ρ1 e1; cases e; exact .inr ⟨x, e1, rfl⟩
  · cases e
/-! isinstance -/
def noSet : D → Bool
  | .dict kvs => (isSet kvs).isNone
  | _ => true
def tyOk (T : String) : Bool := ["NoneType", "bool", "int", "str", "list", "tuple", "dict"].all fun t => decide (kitB t T = some (decide (t = T) || (decide (t = "bool") && decide (T = "int"))))
def isT (T : String) (d : D) : Bool := decide (tyD d = T) || (decide (tyD d = "bool") && decide (T = "int"))
theorem tyOk_at {T : String} (h : tyOk T = true) (d : D) : kitB (tyD d) T = some (isT T d) := by
  unfold tyOk at h
  have h := List.all_eq_true.mp h (tyD d) (by cases d <;> simp [tyD])
  exact of_decide_eq_true h
theorem RpV.ty {H : Hp} {S : Addr → Prop} {x : V} {d : D} (h : RpV c H S x d) (n : noSet d = true) : TyX c.K H x (.type (tyD d)) := by
  have lst : ∀ {a : Addr} {xs : List V}, SqL c.K H a xs → TyX c.K H (.ref a) (.type "list") := fun {a xs} h => by
    rcases h with (h | ⟨o, h⟩) | ⟨o, its, n, h1, h2, _⟩
    · exact .base (.lst h)
    · exact .base (.frz h)
    · exact .kList h1 h2
  have tup : ∀ {a : Addr} {xs : List V}, SqT c.K H a xs → TyX c.K H (.ref a) (.type "tuple") := fun {a xs} h => by
    rcases h with (h | ⟨o, h⟩) | ⟨o, its, n, h1, h2, _⟩
    · exact .base (.tup h)
    · exact .fTuple h
    · exact .kTuple h1 h2
  cases h with
  | of h =>
    cases h with
    | non => exact .base .non
    | bl b => exact .base (.bl b)
    | int i => exact .base (.int i)
    | str x => exact .base (.str x)
    | lst h _ => exact lst h.sq
    | tup h _ => exact tup h
    | dK _ h _ => exact .base (.dK h)
  | lst h _ => exact lst (.of h)
  | dK h _ => exact .base (.dK h)
  | st _ _ => exact absurd n (by simp [setD, noSet, isSet])
def isTs (Ts : List String) (d : D) : Bool := Ts.any fun T => isT T d
def xIsi (Ts : List String) (fa : M R) : M R := fa.bind fun a => fun ρ => (look ρ a).bind fun d => if noSet d then some (.ok (.dat (.bool (isTs Ts d))), ρ) else none
theorem VE.isi1 {T : Str} {n : String} {a : Expr} {ta : TE} {fa : M R} {p p2 pos : Pos} (k : Fit X c) (ok : tyOk n = true) (hg : Gl X "isinstance") (hm : X.mg "isinstance" = none) (hgT : Gl X T) (hmT : X.mg T = none) (hT : bootBuiltins T = some (.type n)) (ha : VE X c W a ta fa)
    (hn : T ≠ "__name__" := by decide) (hdb : (T == ("__debug__" : Str)) = false := by decide) (he : starEach [a, .Name T p2] X.env = (false, eval a X.env) :: starEach [.Name T p2] X.env := by rfl)
    (he2 : starEach [.Name T p2] X.env = (false, eval (.Name T p2) X.env) :: starEach [] X.env := by rfl) (hpl : (backTo pos (starEach [.Name T p2] X.env)).any (·.1) = false := by rfl) :
    VE X c W (.Call (.Name "isinstance" p) [a, .Name T p2] [] pos) (tCB (rIsi c.K) (tCons ta (tCons (tC (.ty n)) tNil))) (xIsi [n] fa) := by
  obtain ⟨pa, va⟩ := ha
  refine ⟨pe_callB (by rw [← k.K]; exact call_isi) hg hm (by decide +kernel) (pa_cons pa (pa_cons (pe_bltn (v := .ty n) hgT hmT hT rfl hn hdb) pa_nil he2) he) (he := he) (hpl := hpl), ?_⟩
  refine Vt.bind (rel1 := RR c) (rel2 := RR c) (k := fun x _ H1 Q => rIsi c.K [x, .ty n] H1 Q) va ?_
  intro σ Hs Ss ρs H S ρ a x res ρ' Q q p ra e G
  obtain ⟨d, e1, e2⟩ := Option.bind_eq_some_iff.mp e
  split at e2
  · rename_i hn
    cases e2
    refine ⟨x, .ty n, _, _, isT n d, rfl, .ty _, (look_ok p ra e1).ty hn, kit_ty (tyOk_at ok d), ?_⟩
    have := RO.good (r := .dat (.bool (isTs [n] d))) q p G (Gro.refl H) (Rp.bl _)
    simpa [isTs] using this
  · cases e2
theorem VE.isi2 {T U : Str} {n m : String} {a : Expr} {ta : TE} {fa : M R} {p p2 p3 pos p4 : Pos} {x1} (k : Fit X c) (ok : tyOk n = true) (ok2 : tyOk m = true) (hg : Gl X "isinstance") (hm : X.mg "isinstance" = none) (hgT : Gl X T) (hmT : X.mg T = none) (hT : bootBuiltins T = some (.type n))
    (hgU : Gl X U) (hmU : X.mg U = none) (hU : bootBuiltins U = some (.type m)) (ha : VE X c W a ta fa)
    (hn : T ≠ "__name__" := by decide) (hdb : (T == ("__debug__" : Str)) = false := by decide) (hn2 : U ≠ "__name__" := by decide) (hdb2 : (U == ("__debug__" : Str)) = false := by decide)
    (he : starEach [a, .Tuple [.Name T p2, .Name U p3] x1 p4] X.env = (false, eval a X.env) :: starEach [.Tuple [.Name T p2, .Name U p3] x1 p4] X.env := by rfl)
    (he2 : starEach [.Tuple [.Name T p2, .Name U p3] x1 p4] X.env = (false, eval (.Tuple [.Name T p2, .Name U p3] x1 p4) X.env) :: starEach [] X.env := by rfl)
    (he3 : starEach [.Name T p2, .Name U p3] X.env = (false, eval (.Name T p2) X.env) :: starEach [.Name U p3] X.env := by rfl) (he4 : starEach [.Name U p3] X.env = (false, eval (.Name U p3) X.env) :: starEach [] X.env := by rfl)
    (hpl : (backTo pos (starEach [.Tuple [.Name T p2, .Name U p3] x1 p4] X.env)).any (·.1) = false := by rfl) :
    VE X c W (.Call (.Name "isinstance" p) [a, .Tuple [.Name T p2, .Name U p3] x1 p4] [] pos) (tCB (rIsiT c.K) (tCons ta (tCons (tTup (tCons (tC (.ty n)) (tCons (tC (.ty m)) tNil))) tNil))) (xIsi [n, m] fa) := by
  obtain ⟨pa, va⟩ := ha
  refine ⟨pe_callB (by rw [← k.K]; exact call_isiT) hg hm (by decide +kernel) (pa_cons pa (pa_cons (pe_tup (pa_cons (pe_bltn (v := .ty n) hgT hmT hT rfl hn hdb) (pa_cons (pe_bltn (v := .ty m) hgU hmU hU rfl hn2 hdb2) pa_nil he4) he3)) pa_nil he2) he) (he := he) (hpl := hpl), ?_⟩
  refine Vt.bind (rel1 := RR c) (rel2 := RR c) (k := fun x _ H1 Q => [V.ty n, V.ty m].length ≤ sizeLine ∧ ∀ p, H1 p = none → rIsiT c.K [x, .ref p] (upd H1 p (.tup [.ty n, .ty m])) Q) va ?_
  intro σ Hs Ss ρs H S ρ a x res ρ' Q q p ra e G
  obtain ⟨d, e1, e2⟩ := Option.bind_eq_some_iff.mp e
  split at e2
  · rename_i hn
    cases e2
    refine ⟨by show 2 ≤ sizeLine; decide, fun b nb => ?_⟩
    have g := gro_new (o := .tup [.ty n, .ty m]) nb
    have p' := p.gro g
    have ra' : RR c σ ρ Hs a x (upd H b (.tup [.ty n, .ty m])) S := RR.step p (stq_gro g) ra
    refine ⟨x, b, _, _, [.type n, .type m], isTs [n, m] d, rfl, upd_same, .cons (.ty _) (.cons (.ty _) .nil), (look_ok p' ra' e1).ty hn, ?_, RO.good (r := .dat _) q p G g (Rp.bl _)⟩
    refine kitAny_cons (kit_ty (tyOk_at ok d)) (r := isTs [n, m] d) (fun h1 => kitAny_cons (kit_ty (tyOk_at ok2 d)) (fun h2 => ?_) fun h2 => ?_) fun h1 => ?_
    · simp [isTs, h1, h2, PySem.W.kitAny]
    · simp [isTs, h1, h2]
    · simp [isTs, h1]
  · cases e2
/-! truth -/
def tru : D → Option Bool
  | .none => some false
  | .bool b => some b
  | .int i => some (i != 0)
  | .str y => if y.length ≤ sizeLine then some ((y.length : Int) != 0) else none
  | .list xs => some (!xs.isEmpty)
  | .tuple xs => some (!xs.isEmpty)
  | .dict kvs => if noSet (.dict kvs) then some (!kvs.isEmpty) else none
theorem RpA.isEmpty {K : PySem.W.Frag} {H : Hp} {S : Addr → Prop} {vs : List V} {ds : List D} (h : RpA K H S vs ds) : vs.isEmpty = ds.isEmpty := by cases h <;> rfl
theorem RpV.tru {H : Hp} {S : Addr → Prop} {x : V} {d : D} {b : Bool} (h : RpV c H S x d) (e : Vm.tru d = some b) : TruV c.K x H b := by
  unfold Vm.tru at e
  split at e
  · cases e; rw [h.non_]; rfl
  · cases e; rw [h.bl_]; rfl
  · cases e; rw [h.int_]; rfl
  · split at e
    · rename_i hl; cases e; rw [h.str_]; exact ⟨hl, rfl⟩
    · cases e
  · cases e
    obtain ⟨a, vs, rfl, s1, r1⟩ := h.lst_
    exact .inl ⟨vs, s1, by rw [r1.isEmpty]⟩
  · cases e
    obtain ⟨a, vs, rfl, s1, r1⟩ := h.tup_
    exact .inr (.inl ⟨vs, s1, by rw [r1.isEmpty]⟩)
  · split at e
    · rename_i kvs hn
      cases e
      rcases h.dct_ with ⟨a, ks, rfl, h1, h2⟩ | ⟨zs, h1⟩
      · refine .inr (.inr ⟨ks, h1, ?_⟩)
        have := h2.length
        cases ks <;> cases kvs <;> simp at this ⊢
      · rw [h1] at hn
        exact absurd hn (by simp [setD, noSet, isSet])
    · cases e
def xTru (fa : M R) : M Bool := fa.bind fun a => fun ρ => (look ρ a).bind fun d => (tru d).map fun b => (.ok b, ρ)
def tTrv (K : PySem.W.Frag) (ta : TE) : TT := fun σ H Q => ta σ H fun x H' => ∃ k, TruV K x H' k ∧ Q k H'
theorem VT.tru {a : Expr} {ta : TE} {fa : M R} (k : Fit X c) (ha : VE X c W a ta fa) (he : ∀ whole, isTrue a X.env whole = (do let v ← whole; standAt a.pos; holding [v] (truthy v))) : VT X c W a (tTrv c.K ta) (xTru fa) := by
  obtain ⟨pa, va⟩ := ha
  refine ⟨by rw [← k.K]; exact pt_truth pa he, ?_⟩
  refine Vt.bind (rel1 := RR c) (rel2 := relB) (k := fun x _ H Q => ∃ k, TruV c.K x H k ∧ Q k H) va ?_
  intro σ Hs Ss ρs H S ρ a x res ρ' Q q p ra e G
  obtain ⟨d, e1, e2⟩ := Option.bind_eq_some_iff.mp e
  obtain ⟨b, e3, e4⟩ := Option.map_eq_some_iff.mp e2
  cases e4
  exact ⟨b, (look_ok p ra e1).tru e3, G b H S p q rfl⟩
def bAnd (fa fb : M Bool) : M Bool := fa.bind fun b => if b then fb else M.pure false
def bOr (fa fb : M Bool) : M Bool := fa.bind fun b => if b then M.pure true else fb
def bNot (fa : M Bool) : M Bool := fa.bind fun b => M.pure (!b)
/-- a choice by what came first -/
theorem Vt.choose {β : Type} {α : Type} {rel : Sl → Env → Hp → α → β → Hp → (Addr → Prop) → Prop} (back : ∀ {σ ρ Ha Hb a b H S}, rel σ ρ Ha a b H S → (∀ x, Ha x = none → Hb x = none) → rel σ ρ Hb a b H S) {tt : TT} {ft : M Bool} {ty tn : Sl → Hp → (β → Hp → Prop) → Prop} {fy fn : M α} (ht : VTt c W tt ft) (hy : Vt c W rel ty fy) (hn : Vt c W rel tn fn) :
    Vt c W rel (fun σ H Q => tt σ H fun b H1 => if b = true then ty σ H1 Q else tn σ H1 Q) (ft.bind fun b => if b then fy else fn) := by
  refine Vt.bind (rel1 := relB) (rel2 := rel) (k := fun b σ H Q => if b = true then ty σ H Q else tn σ H Q) ht ?_
  intro σ Hs Ss ρs H S ρ a b res ρ' Q q p ra e G
  cases ra
  have G' : GoodE c W σ H S ρ (rel σ ρ' H) res ρ' Q := by
    cases res with
    | ok r => exact fun v H' S' p2 q2 r2 => G v H' S' p2 (q.trans q2) (back r2 fun _ => q.gone)
    | error x => exact fun C d H' S' v m1 m2 m3 p2 q2 => G C d H' S' v m1 m2 m3 p2 (q.trans q2)
  cases a with
  | true => simp only [if_true] at e ⊢; exact hy σ H S ρ res ρ' Q p e G'
  | false => simp only [Bool.false_eq_true, if_false] at e ⊢; exact hn σ H S ρ res ρ' Q p e G'
theorem Vt.cB (b : Bool) : VTt c W (fun _ H Q => Q b H) (M.pure b) := fun σ H S ρ res ρ' Q p e G => by cases e; exact G b H S p .refl rfl
section
variable {a b : Expr} {tA tB' : TT} {fa fb : M Bool} {pos : Pos} {rest : List Expr}
theorem VW.and1 (ha : VT X c W a tA fa) : VW X c W (.BoolOp .And [a] pos) tA fa := ⟨pw_and1 ha.pe, ha.vt⟩
theorem VW.or1 (ha : VT X c W a tA fa) : VW X c W (.BoolOp .Or [a] pos) tA fa := ⟨pw_or1 ha.pe, ha.vt⟩
theorem VW.and (ha : VT X c W a tA fa) (hb : VW X c W (.BoolOp .And (b :: rest) pos) tB' fb) : VW X c W (.BoolOp .And (a :: b :: rest) pos) (tAnd tA tB') (bAnd fa fb) :=
  ⟨pw_and ha.pe hb.pe, Vt.choose (rel := relB) (fun h _ => h) ha.vt hb.vt (Vt.cB false)⟩
theorem VW.or (ha : VT X c W a tA fa) (hb : VW X c W (.BoolOp .Or (b :: rest) pos) tB' fb) : VW X c W (.BoolOp .Or (a :: b :: rest) pos) (tOr tA tB') (bOr fa fb) :=
  ⟨pw_or ha.pe hb.pe, Vt.choose (rel := relB) (fun h _ => h) ha.vt (Vt.cB true) hb.vt⟩
theorem VW.t (h : VW X c W a tA fa) : VT X c W a tA fa := ⟨h.pe.pt, h.vt⟩
theorem VT.not (ha : VT X c W a tA fa) : VT X c W (.UnaryOp .Not a pos) (tNot tA) (bNot fa) := by
  obtain ⟨pa, va⟩ := ha
  refine ⟨pt_not pa, Vt.bind (rel1 := relB) (rel2 := relB) (k := fun b _ H Q => Q (!b) H) va ?_⟩
  intro σ Hs Ss ρs H S ρ a b res ρ' Q q p ra e G
  cases ra
  cases e
  exact G (!a) H S p q rfl
def xIf (ft : M Bool) (fa fb : M R) : M R := ft.bind fun b => if b then fa else fb
theorem VE.ifE {t : Expr} {tt : TT} {ta tb : TE} {ft : M Bool} {fa fb : M R} (ht : VT X c W t tt ft) (ha : VE X c W a ta fa) (hb : VE X c W b tb fb) : VE X c W (.IfExp t a b pos) (tIf tt ta tb) (xIf ft fa fb) :=
  ⟨pe_ifExp ht.pe ha.pe hb.pe, Vt.choose (rel := RR c) (fun h k => RR.back h k) ht.vt ha.vt hb.vt⟩
/-- values joined by and, or, by their truth -/
def xAnd (fa fb : M R) : M R := fa.bind fun a => fun ρ => (look ρ a).bind fun d => (tru d).bind fun k => if k then fb ρ else some (.ok a, ρ)
def xOr (fa fb : M R) : M R := fa.bind fun a => fun ρ => (look ρ a).bind fun d => (tru d).bind fun k => if k then some (.ok a, ρ) else fb ρ
def xNot (fa : M R) : M R := fa.bind fun a => fun ρ => (look ρ a).bind fun d => (tru d).map fun k => (.ok (.dat (.bool (!k))), ρ)
theorem VE.one {op : BoolOp} {ta : TE} {fa : M R} (ha : VE X c W a ta fa) : VE X c W (.BoolOp op [a] pos) ta fa := ⟨pe_one ha.pe, ha.vt⟩
theorem good_more {α β : Type} {rel : Sl → Env → Hp → α → β → Hp → (Addr → Prop) → Prop} (back : ∀ {σ ρ Ha Hb a b H S}, rel σ ρ Ha a b H S → (∀ x, Ha x = none → Hb x = none) → rel σ ρ Hb a b H S) {σ : Sl} {Hs H : Hp} {Ss S : Addr → Prop} {ρs ρ ρ' : Env} {res : Except Ex α} {Q : β → Hp → Prop}
    (q : Stq [] σ ρs Ss Hs σ ρ S H) (G : GoodE c W σ Hs Ss ρs (rel σ ρ' Hs) res ρ' Q) : GoodE c W σ H S ρ (rel σ ρ' H) res ρ' Q := by
  cases res with
  | ok r => exact fun v H' S' p2 q2 r2 => G v H' S' p2 (q.trans q2) (back r2 fun _ => q.gone)
  | error x => exact fun C d H' S' v m1 m2 m3 p2 q2 => G C d H' S' v m1 m2 m3 p2 (q.trans q2)
theorem VE.and {ta tb : TE} {fa fb : M R} (k : Fit X c) (ha : VE X c W a ta fa) (hb : VE X c W (.BoolOp .And (b :: rest) pos) tb fb) : VE X c W (.BoolOp .And (a :: b :: rest) pos) (tAndT c.K ta tb) (xAnd fa fb) := by
  obtain ⟨pa, va⟩ := ha
  obtain ⟨pb, vb⟩ := hb
  refine ⟨by rw [← k.K]; exact pe_andT pa pb, ?_⟩
  refine Vt.bind (rel1 := RR c) (rel2 := RR c) (k := fun x σ H1 Q => ∃ k, TruV c.K x H1 k ∧ if k = true then tb σ H1 Q else Q x H1) va ?_
  intro σ Hs Ss ρs H S ρ a x res ρ' Q q p ra e G
  obtain ⟨d, e1, e2⟩ := Option.bind_eq_some_iff.mp e
  obtain ⟨b, e3, e4⟩ := Option.bind_eq_some_iff.mp e2
  refine ⟨b, (look_ok p ra e1).tru e3, ?_⟩
  cases b with
  | true => simp only [if_true] at e4 ⊢; exact vb σ H S ρ res ρ' Q p e4 (good_more (rel := RR c) (fun h k => RR.back h k) q G)
  | false => simp only [Bool.false_eq_true, if_false] at e4 ⊢; cases e4; exact G x H S p q ra
theorem VE.or {ta tb : TE} {fa fb : M R} (k : Fit X c) (ha : VE X c W a ta fa) (hb : VE X c W (.BoolOp .Or (b :: rest) pos) tb fb) : VE X c W (.BoolOp .Or (a :: b :: rest) pos) (tOrT c.K ta tb) (xOr fa fb) := by
  obtain ⟨pa, va⟩ := ha
  obtain ⟨pb, vb⟩ := hb
  refine ⟨by rw [← k.K]; exact pe_orT pa pb, ?_⟩
  refine Vt.bind (rel1 := RR c) (rel2 := RR c) (k := fun x σ H1 Q => ∃ k, TruV c.K x H1 k ∧ if k = true then Q x H1 else tb σ H1 Q) va ?_
  intro σ Hs Ss ρs H S ρ a x res ρ' Q q p ra e G
  obtain ⟨d, e1, e2⟩ := Option.bind_eq_some_iff.mp e
  obtain ⟨b, e3, e4⟩ := Option.bind_eq_some_iff.mp e2
  refine ⟨b, (look_ok p ra e1).tru e3, ?_⟩
  cases b with
  | true => simp only [if_true] at e4 ⊢; cases e4; exact G x H S p q ra
  | false => simp only [Bool.false_eq_true, if_false] at e4 ⊢; exact vb σ H S ρ res ρ' Q p e4 (good_more (rel := RR c) (fun h k => RR.back h k) q G)
theorem VE.not {ta : TE} {fa : M R} (k : Fit X c) (ha : VE X c W a ta fa) : VE X c W (.UnaryOp .Not a pos) (tNotT c.K ta) (xNot fa) := by
  obtain ⟨pa, va⟩ := ha
  refine ⟨by rw [← k.K]; exact pe_notT pa, ?_⟩
  refine Vt.bind (rel1 := RR c) (rel2 := RR c) (k := fun x σ H1 Q => ∃ k, TruV c.K x H1 k ∧ Q (.bl (!k)) H1) va ?_
  intro σ Hs Ss ρs H S ρ a x res ρ' Q q p ra e G
  obtain ⟨d, e1, e2⟩ := Option.bind_eq_some_iff.mp e
  obtain ⟨b, e3, e4⟩ := Option.map_eq_some_iff.mp e2
  cases e4
  exact ⟨b, (look_ok p ra e1).tru e3, RO.good (r := .dat _) q p G (Gro.refl H) (Rp.bl _)⟩
end
end
end Vm
/-! ### statements -/
namespace Vm
open PySem PySem.Spec PyProof.Rows L2 Ky
/-- how a statement ends -/
inductive Fl where
  | nx
  | bk
  | ct
  | rt (r : R)
  | ex (e : Ex)
abbrev XS := Env → Option (Fl × Env)
def GoodS (c : Cn) (W : WX) (fx : List Nat) (σ : Sl) (H : Hp) (S : Addr → Prop) (ρ : Env) (fl : Fl) (ρ' : Env) (D : Ends) : Prop := match fl with
  | .nx => ∀ σ' H' S', Rep c σ' H' S' ρ' → Stq fx σ ρ S H σ' ρ' S' H' → D.nx σ' H'
  | .bk => ∀ σ' H' S', Rep c σ' H' S' ρ' → Stq fx σ ρ S H σ' ρ' S' H' → D.bk σ' H'
  | .ct => ∀ σ' H' S', Rep c σ' H' S' ρ' → Stq fx σ ρ S H σ' ρ' S' H' → D.ct σ' H'
  | .rt r => ∀ v σ' H' S', Rep c σ' H' S' ρ' → Stq fx σ ρ S H σ' ρ' S' H' → RR c σ' ρ' H r v H' S' → D.rt v H'
  | .ex e => ∀ C d σ' H' S' v, c.mg e.cls = some (.ref C) → H' d = some (.xd [("value", v)]) → Rp c.K H' S' v e.val → Rep c σ' H' S' ρ' → Stq fx σ ρ S H σ' ρ' S' H' → W (.ref C) (some d) σ' H'
def VSt (c : Cn) (W : WX) (fx : List Nat) (t : TS) (g : XS) : Prop := ∀ σ H S ρ fl ρ' D, Rep c σ H S ρ → g ρ = some (fl, ρ') → GoodS c W fx σ H S ρ fl ρ' D → t D σ H
structure VS (X : Cx) (c : Cn) (W : WX) (fx : List Nat) (st : Stmt) (t : TS) (g : XS) : Prop where
  pe : PS X st t
  vt : VSt c W fx t g
structure VSs (X : Cx) (c : Cn) (W : WX) (fx : List Nat) (st : List Stmt) (t : TS) (g : XS) : Prop where
  pe : PSs X st t
  vt : VSt c W fx t g
section
variable {X : Cx} {c : Cn} {W : WX} {fx : List Nat} {σ σ1 σ' : Sl} {H H1 H' : Hp} {S S1 S' : Addr → Prop} {ρ ρ1 ρ' : Env}
theorem Stq.any (q : Stq [] σ ρ S H σ ρ' S' H') : Stq fx σ ρ S H σ ρ' S' H' := ⟨q.st, q.s1, q.s2, q.ow, q.lv, q.pf, fun _ _ => rfl⟩
/-- the same wishes, later -/
theorem GoodS.later {fl : Fl} {D : Ends} (q : Stq fx σ ρ S H σ1 ρ1 S1 H1) (G : GoodS c W fx σ H S ρ fl ρ' D) : GoodS c W fx σ1 H1 S1 ρ1 fl ρ' D := by
  cases fl with
  | nx => exact fun σ' H' S' p r => G σ' H' S' p (q.trans r)
  | bk => exact fun σ' H' S' p r => G σ' H' S' p (q.trans r)
  | ct => exact fun σ' H' S' p r => G σ' H' S' p (q.trans r)
  | rt r => exact fun v σ' H' S' p r k => G v σ' H' S' p (q.trans r) (RR.back k fun _ => q.gone)
  | ex e => exact fun C d σ' H' S' v m1 m2 m3 p r => G C d σ' H' S' v m1 m2 m3 p (q.trans r)
/-- an expression's error ends the statement -/
theorem goodE_ex {α β : Type} {rel : α → β → Hp → (Addr → Prop) → Prop} {x : Ex} {D : Ends} {Q : β → Hp → Prop} (G : GoodS c W fx σ H S ρ (.ex x) ρ' D) : GoodE c W σ H S ρ rel (.error x) ρ' Q :=
  fun C d H' S' v m1 m2 m3 p q => G C d σ H' S' v m1 m2 m3 p q.any
def sSeq (g h : XS) : XS := fun ρ => match g ρ with
  | some (.nx, ρ1) => h ρ1
  | o => o
def sNext : XS := fun ρ => some (.nx, ρ)
theorem VSt.seq {t u : TS} {g h : XS} (h1 : VSt c W fx t g) (h2 : VSt c W fx u h) : VSt c W fx (tSeq t u) (sSeq g h) := by
  intro σ H S ρ fl ρ' D p e G
  unfold sSeq at e
  split at e
  · rename_i ρ1 e1
    exact h1 σ H S ρ .nx ρ1 _ p e1 fun σ1 H1 S1 p1 q1 => h2 σ1 H1 S1 ρ1 fl ρ' D p1 e (G.later q1)
  · rename_i o hn
    refine h1 σ H S ρ fl ρ' _ p e ?_
    cases fl with
    | nx => exact absurd e (hn ρ')
    | bk => exact G
    | ct => exact G
    | rt r => exact G
    | ex x => exact G
theorem VSs.nil : VSs X c W fx [] tNext sNext := ⟨pss_nil, fun σ H S ρ fl ρ' D p e G => by cases e; exact G σ H S p .refl⟩
theorem VSs.one {st : Stmt} {t : TS} {g : XS} (h : VS X c W fx st t g) : VSs X c W fx [st] t g := ⟨pss_one h.pe, h.vt⟩
theorem VSs.cons {st : Stmt} {rest : List Stmt} {t u : TS} {g h : XS} (h1 : VS X c W fx st t g) (h2 : VSs X c W fx rest u h) : VSs X c W fx (st :: rest) (tSeq t u) (sSeq g h) :=
  ⟨pss_cons h1.pe h2.pe, h1.vt.seq h2.vt⟩
def sBreak : XS := fun ρ => some (.bk, ρ)
def sCont : XS := fun ρ => some (.ct, ρ)
theorem VS.brk {pos : Pos} : VS X c W fx (.Break pos) tBreak sBreak := ⟨ps_break, fun σ H S ρ fl ρ' D p e G => by cases e; exact G σ H S p .refl⟩
theorem VS.cnt {pos : Pos} : VS X c W fx (.Continue pos) tCont sCont := ⟨ps_continue, fun σ H S ρ fl ρ' D p e G => by cases e; exact G σ H S p .refl⟩
theorem VS.pss {pos : Pos} : VS X c W fx (.Pass pos) tNext sNext := ⟨ps_pass, fun σ H S ρ fl ρ' D p e G => by cases e; exact G σ H S p .refl⟩
def sExpr (fa : M R) : XS := fun ρ => match fa ρ with
  | some (.ok _, ρ1) => some (.nx, ρ1)
  | some (.error x, ρ1) => some (.ex x, ρ1)
  | none => none
theorem VS.expr {e : Expr} {ta : TE} {fa : M R} {pos : Pos} (he : VE X c W e ta fa) (hs : swapsWith e none pos.line X.env = pure false := by rfl) : VS X c W fx (.Expr e pos) (tDrop ta) (sExpr fa) := by
  obtain ⟨pa, va⟩ := he
  refine ⟨ps_expr pa hs, ?_⟩
  intro σ H S ρ fl ρ' D p e G
  unfold sExpr at e
  split at e
  · rename_i r ρ1 e1
    cases e
    exact va σ H S ρ (.ok r) _ _ p e1 fun v H' S' p' q' _ => G σ H' S' p' q'.any
  · rename_i x ρ1 e1
    cases e
    exact va σ H S ρ (.error x) _ _ p e1 (goodE_ex (D := D) G)
  · cases e
def sRet (fa : M R) : XS := fun ρ => match fa ρ with
  | some (.ok r, ρ1) => some (.rt r, ρ1)
  | some (.error x, ρ1) => some (.ex x, ρ1)
  | none => none
theorem VS.ret {e : Expr} {ta : TE} {fa : M R} {pos : Pos} (he : VE X c W e ta fa) : VS X c W fx (.Return (some e) pos) (tRet ta) (sRet fa) := by
  obtain ⟨pa, va⟩ := he
  refine ⟨ps_ret pa, ?_⟩
  intro σ H S ρ fl ρ' D p e G
  unfold sRet at e
  split at e
  · rename_i r ρ1 e1
    cases e
    exact va σ H S ρ (.ok r) _ _ p e1 fun v H' S' p' q' r' => G v σ H' S' p' q'.any r'
  · rename_i x ρ1 e1
    cases e
    exact va σ H S ρ (.error x) _ _ p e1 (goodE_ex (D := D) G)
  · cases e
def sRetN : XS := fun ρ => some (.rt (.dat .none), ρ)
theorem VS.retN {pos : Pos} : VS X c W fx (.Return none pos) tRetN sRetN := ⟨ps_retN, fun σ H S ρ fl ρ' D p e G => by cases e; exact G .non σ H S p .refl Rp.non⟩
def sIf (ft : M Bool) (g h : XS) : XS := fun ρ => match ft ρ with
  | some (.ok b, ρ1) => if b then g ρ1 else h ρ1
  | some (.error x, ρ1) => some (.ex x, ρ1)
  | none => none
theorem VS.ifS {t : Expr} {tt : TT} {ta tb : TS} {ft : M Bool} {a b : List Stmt} {g h : XS} {pos : Pos} (ht : VT X c W t tt ft) (ha : VSs X c W fx a ta g) (hb : VSs X c W fx b tb h) : VS X c W fx (.If t a b pos) (tIfS tt ta tb) (sIf ft g h) := by
  obtain ⟨pt, vt⟩ := ht
  obtain ⟨pa, va⟩ := ha
  obtain ⟨pb, vb⟩ := hb
  refine ⟨ps_if pt pa pb, ?_⟩
  intro σ H S ρ fl ρ' D p e G
  unfold sIf at e
  split at e
  · rename_i b ρ1 e1
    refine vt σ H S ρ (.ok b) ρ1 _ p e1 fun k H' S' p' q' r' => ?_
    cases r'
    cases b with
    | true => simp only [if_true] at e ⊢; exact va σ H' S' ρ1 fl ρ' D p' e (G.later q'.any)
    | false => simp only [Bool.false_eq_true, if_false] at e ⊢; exact vb σ H' S' ρ1 fl ρ' D p' e (G.later q'.any)
  · rename_i x ρ1 e1
    cases e
    exact vt σ H S ρ (.error x) _ _ p e1 (goodE_ex (D := D) G)
  · cases e
/-! ### stores -/
/-- a value given to a slot -/
theorem Rep.put {i : Nat} {v : V} {d : D} (p : Rep c σ H S ρ) (r : Rp c.K H S v d) : Rep c (σ.set i (some v)) H S (ρ.set i (some (.dat d))) where
  len := by rw [List.length_set, List.length_set]; exact p.len
  dat := fun j d' e => by
    rcases set_get e with ⟨rfl, e, hi⟩ | ⟨n, e⟩
    · cases e
      exact ⟨v, List.getElem?_set_self (by rw [p.len]; exact hi), r⟩
    · rw [List.getElem?_set_ne n]; exact p.dat j d' e
  liv := fun j x o e f => by
    rcases set_get e with ⟨rfl, e, hi⟩ | ⟨n, e⟩
    · cases e; cases f
    · rw [List.getElem?_set_ne n]; exact p.liv j x o e f
  dis := fun j l x y o o' a e1 e2 e3 e4 e5 e6 => by
    rcases set_get e1 with ⟨rfl, e1, hi⟩ | ⟨n1, e1⟩
    · cases e1; cases e2
    · rcases set_get e3 with ⟨rfl, e3, hi⟩ | ⟨n2, e3⟩
      · cases e3; cases e4
      · rw [List.getElem?_set_ne n1] at e5
        rw [List.getElem?_set_ne n2] at e6
        exact p.dis j l x y o o' a e1 e2 e3 e4 e5 e6
  live := p.live
  tabs := p.tabs
theorem Stq.put {i : Nat} {v : V} {d : D} (hi : i ∉ fx) : Stq fx σ ρ S H (σ.set i (some v)) (ρ.set i (some (.dat d))) S H where
  st := fun b o e => ⟨o, e, fun _ => .inl rfl⟩
  s1 := fun _ h => h
  s2 := fun _ h => .inl h
  ow := fun a ⟨j, o, e1, e2⟩ => by
    rcases set_get e1 with ⟨rfl, e1, hi⟩ | ⟨n, e1⟩
    · cases e1
    · rw [List.getElem?_set_ne n] at e2; exact .inl ⟨j, o, e1, e2⟩
  lv := fun a ⟨j, x, o, e1, e2, e3⟩ => by
    rcases set_get e1 with ⟨rfl, e1, hi⟩ | ⟨n, e1⟩
    · cases e1; cases e2
    · rw [List.getElem?_set_ne n] at e3; exact .inl ⟨j, x, o, e1, e2, e3⟩
  pf := fun j o e => by
    rcases set_get e with ⟨rfl, e, hi⟩ | ⟨n, e⟩
    · cases e
    · rw [List.getElem?_set_ne n]; exact ⟨o, e, rfl⟩
  fx := fun j hj => List.getElem?_set_ne (show i ≠ j from fun z => hi (by rw [z]; exact hj))
/-- a new object given to a slot -/
theorem Rep.putO {i : Nat} {a : Addr} {o : Ob} (p : Rep c σ H S ρ) (r : ObRp c H S a o) (n : ¬ S a) (l : ¬ LivA σ ρ a) : Rep c (σ.set i (some (.ref a))) H S (ρ.set i (some (.own o))) where
  len := by rw [List.length_set, List.length_set]; exact p.len
  dat := fun j d' e => by
    rcases set_get e with ⟨rfl, e, hi⟩ | ⟨n, e⟩
    · cases e
    · rw [List.getElem?_set_ne n]; exact p.dat j d' e
  liv := fun j x o' e f => by
    rcases set_get e with ⟨rfl, e, hi⟩ | ⟨n, e⟩
    · cases e
      cases f
      exact ⟨a, List.getElem?_set_self (by rw [p.len]; exact hi), r, n⟩
    · rw [List.getElem?_set_ne n]; exact p.liv j x o' e f
  dis := fun j m x y o1 o2 b e1 e2 e3 e4 e5 e6 => by
    rcases set_get e1 with ⟨rfl, e1, hi⟩ | ⟨n1, e1⟩
    · rcases set_get e3 with ⟨rfl, e3, hi2⟩ | ⟨n2, e3⟩
      · rfl
      · rw [List.getElem?_set_self (by rw [p.len]; exact hi)] at e5
        cases e5
        rw [List.getElem?_set_ne n2] at e6
        exact absurd ⟨m, y, o2, e3, e4, e6⟩ l
    · rcases set_get e3 with ⟨rfl, e3, hi⟩ | ⟨n2, e3⟩
      · rw [List.getElem?_set_self (by rw [p.len]; exact hi)] at e6
        cases e6
        rw [List.getElem?_set_ne n1] at e5
        exact absurd ⟨j, x, o1, e1, e2, e5⟩ l
      · rw [List.getElem?_set_ne n1] at e5
        rw [List.getElem?_set_ne n2] at e6
        exact p.dis j m x y o1 o2 b e1 e2 e3 e4 e5 e6
  live := p.live
  tabs := p.tabs
theorem Stq.putO {i : Nat} {a : Addr} {o : Ob} {σ0 : Sl} {ρ0 : Env} {S0 : Addr → Prop} {H0 : Hp} (hi : i ∉ fx) (q : Stq fx σ0 ρ0 S0 H0 σ ρ S H) (n : H0 a = none) : Stq fx σ0 ρ0 S0 H0 (σ.set i (some (.ref a))) (ρ.set i (some (.own o))) S H where
  st := q.st
  s1 := q.s1
  s2 := q.s2
  ow := fun b ⟨j, o', e1, e2⟩ => by
    rcases set_get e1 with ⟨rfl, e1, hi⟩ | ⟨n', e1⟩
    · by_cases hl : i < σ.length
      · rw [List.getElem?_set_self hl] at e2; cases e2; exact .inr n
      · rw [List.getElem?_eq_none (by simpa using hl)] at e2; cases e2
    · rw [List.getElem?_set_ne n'] at e2; exact q.ow b ⟨j, o', e1, e2⟩
  lv := fun b ⟨j, x, o', e1, e2, e3⟩ => by
    rcases set_get e1 with ⟨rfl, e1, hi⟩ | ⟨n', e1⟩
    · by_cases hl : i < σ.length
      · rw [List.getElem?_set_self hl] at e3; cases e3; exact .inr n
      · rw [List.getElem?_eq_none (by simpa using hl)] at e3; cases e3
    · rw [List.getElem?_set_ne n'] at e3; exact q.lv b ⟨j, x, o', e1, e2, e3⟩
  pf := fun j o' e => by
    rcases set_get e with ⟨rfl, e, hi⟩ | ⟨n', e⟩
    · cases e
    · obtain ⟨o1, h1, h2⟩ := q.pf j o' e
      exact ⟨o1, h1, by rw [List.getElem?_set_ne n']; exact h2⟩
  fx := fun j hj => by rw [List.getElem?_set_ne (show i ≠ j from fun z => hi (by rw [z]; exact hj))]; exact q.fx j hj
/-- the result goes into a slot -/
def setR (i : Nat) (r : R) (ρ : Env) : Option Env := match r with
  | .dat d => some (ρ.set i (some (.dat d)))
  | .own o => some (ρ.set i (some (.own o)))
  | .slot j => (frzAt ρ j).map fun p => p.2.set i (some (.dat p.1))
theorem setR_ok {i : Nat} {r : R} {v : V} {S0 : Addr → Prop} {H0 : Hp} {ρ0 : Env} (hi : i ∉ fx) (q : Stq [] σ ρ0 S0 H0 σ ρ S H) (p : Rep c σ H S ρ) (h : RR c σ ρ H0 r v H S) (e : setR i r ρ = some ρ') :
    ∃ S', Rep c (σ.set i (some v)) H S' ρ' ∧ Stq fx σ ρ0 S0 H0 (σ.set i (some v)) ρ' S' H := by
  cases r with
  | dat d => cases e; exact ⟨S, p.put h, q.any.trans (Stq.put hi)⟩
  | own o =>
    cases e
    obtain ⟨a, rfl, h1, h2, h3, h4⟩ := h
    exact ⟨S, p.putO h1 h2 h3, Stq.putO hi q.any h4⟩
  | slot j =>
    obtain ⟨⟨d, ρ1⟩, e1, rfl⟩ := Option.map_eq_some_iff.mp e
    obtain ⟨S1, p1, q1, r1, _, _⟩ := keep_ok (r := .slot j) q p h e1
    exact ⟨S1, p1.put r1, q1.any.trans (Stq.put hi)⟩
def sSet (i : Nat) (fa : M R) : XS := fun ρ => match fa ρ with
  | some (.ok r, ρ1) => (setR i r ρ1).map fun ρ2 => (.nx, ρ2)
  | some (.error x, ρ1) => some (.ex x, ρ1)
  | none => none
theorem VSt.set {i : Nat} {t : TE} {fa : M R} (hi : i ∉ fx) (va : VEt c W t fa) : VSt c W fx (tAsg t (gName i)) (sSet i fa) := by
  intro σ H S ρ fl ρ' D p e G
  unfold sSet at e
  split at e
  · rename_i r ρ1 e1
    obtain ⟨ρ2, e2, e3⟩ := Option.map_eq_some_iff.mp e
    cases e3
    refine va σ H S ρ (.ok r) _ _ p e1 fun v H' S' p' q' r' => ?_
    obtain ⟨S2, p2, q2⟩ := setR_ok hi q' p' r' e2
    exact G _ _ _ p2 q2
  · rename_i x ρ1 e1
    cases e
    exact va σ H S ρ (.error x) _ _ p e1 (goodE_ex (D := D) G)
  · cases e
theorem VS.set {i : Nat} {x : Str} {e : Expr} {ta : TE} {fa : M R} {pos pos' : Pos} (hfx : i ∉ fx) (hN : X.N.Nodup) (hi : X.N[i]? = some x) (hx : Loc X.env.scope x) (he : VE X c W e ta fa) (hs : swapsWith e (some (.Name x pos')) pos.line X.env = pure false := by rfl)
    (hf : X.fn x = true ∨ X.env.scope.names.lookup x = some .local := by first | exact .inl rfl | exact .inr rfl | assumption) : VS X c W fx (.Assign [.Name x pos'] e pos) (tAsg ta (gName i)) (sSet i fa) :=
  ⟨ps_set hN hi hx he.pe hs hf, VSt.set hfx he.vt⟩
/-- slots forgotten -/
def kill (ρ : Env) : List Nat → Env
  | [] => ρ
  | i :: is => (kill ρ is).set i none
def sKill (is : List Nat) (g : XS) : XS := fun ρ => (g ρ).map fun p => (p.1, match p.1 with
  | .rt _ => p.2
  | _ => kill p.2 is)
end
end Vm
/-! ### walks, loops -/
namespace Vm
open PySem PySem.Spec PyProof.Rows L2 Ky
/-! targets -/
abbrev XG := D → Env → Option Env
/-- only these slots are changed -/
def Only (us : List Nat) (σ σ' : Sl) : Prop := σ'.length = σ.length ∧ ∀ i, i ∉ us → σ'[i]? = σ[i]?
theorem Only.refl {us : List Nat} {σ : Sl} : Only us σ σ := ⟨rfl, fun _ _ => rfl⟩
theorem Only.trans {us : List Nat} {σ σ1 σ2 : Sl} (a : Only us σ σ1) (b : Only us σ1 σ2) : Only us σ σ2 := ⟨b.1.trans a.1, fun i h => (b.2 i h).trans (a.2 i h)⟩
theorem Only.mono {us vs : List Nat} {σ σ1 : Sl} (h : ∀ i ∈ us, i ∈ vs) (a : Only us σ σ1) : Only vs σ σ1 := ⟨a.1, fun i n => a.2 i fun z => n (h i z)⟩
def VGt (c : Cn) (fx us : List Nat) (g : TG) (h : XG) : Prop := ∀ σ H S ρ v d ρ' Q, Rep c σ H S ρ → Rp c.K H S v d → h d ρ = some ρ' → (∀ σ', Rep c σ' H S ρ' → Stq fx σ ρ S H σ' ρ' S H → Only us σ σ' → Q σ' H) → g v σ H Q
def VGts (c : Cn) (fx us : List Nat) (g : TGs) (h : List D → Env → Option Env) : Prop := ∀ σ H S ρ vs ds ρ' Q, Rep c σ H S ρ → RpA c.K H S vs ds → h ds ρ = some ρ' → (∀ σ', Rep c σ' H S ρ' → Stq fx σ ρ S H σ' ρ' S H → Only us σ σ' → Q σ' H) → g vs σ H Q
structure VG (X : Cx) (c : Cn) (fx us : List Nat) (e : Expr) (g : TG) (h : XG) : Prop where
  pe : PG X e g
  vt : VGt c fx us g h
structure VGs (X : Cx) (c : Cn) (fx us : List Nat) (es : List Expr) (g : TGs) (h : List D → Env → Option Env) : Prop where
  pe : PGs X es g
  vt : VGts c fx us g h
def tName (i : Nat) : XG := fun d ρ => some (ρ.set i (some (.dat d)))
def tsNil : List D → Env → Option Env := fun ds ρ => if ds.isEmpty then some ρ else none
def tsCons (h : XG) (hs : List D → Env → Option Env) : List D → Env → Option Env
  | [], _ => none
  | d :: ds, ρ => (h d ρ).bind (hs ds)
def tTupN (n : Nat) (hs : List D → Env → Option Env) : XG
  | .tuple ds, ρ => if ds.length = n then hs ds ρ else none
  | _, _ => none
section
variable {X : Cx} {c : Cn} {W : WX} {fx : List Nat}
theorem VGt.name {i : Nat} {us : List Nat} (hi : i ∉ fx) (hu : i ∈ us) : VGt c fx us (gName i) (tName i) := by
  intro σ H S ρ v d ρ' Q p r e G
  cases e
  exact G _ (p.put r) (Stq.put hi) ⟨List.length_set .., fun j hj => List.getElem?_set_ne (show i ≠ j from fun z => hj (by rw [← z]; exact hu))⟩
theorem VG.name {i : Nat} {us : List Nat} {x : Str} {pos : Pos} (hfx : i ∉ fx) (hu : i ∈ us) (hN : X.N.Nodup) (hi : X.N[i]? = some x) (hx : Loc X.env.scope x) (hf : X.fn x = true ∨ X.env.scope.names.lookup x = some .local := by first | exact .inl rfl | exact .inr rfl | assumption) : VG X c fx us (.Name x pos) (gName i) (tName i) :=
  ⟨pg_name hN hi hx hf, VGt.name hfx hu⟩
theorem VGs.nil {us : List Nat} : VGs X c fx us [] gNil tsNil := ⟨pgs_nil, by
  intro σ H S ρ vs ds ρ' Q p r e G
  unfold tsNil at e
  split at e
  · rename_i h
    cases e
    cases r with
    | nil => exact ⟨rfl, G σ p .refl .refl⟩
    | cons _ _ => cases h
  · cases e⟩
theorem VGs.cons {us : List Nat} {e : Expr} {es : List Expr} {g : TG} {gs : TGs} {h : XG} {hs : List D → Env → Option Env} (h1 : VG X c fx us e g h) (h2 : VGs X c fx us es gs hs) (hq : (assignEach (e :: es) X.env).map (·.2) = assign e X.env :: (assignEach es X.env).map (·.2) := by rfl) : VGs X c fx us (e :: es) (gCons g gs) (tsCons h hs) := by
  refine ⟨pgs_cons h1.pe h2.pe hq, ?_⟩
  intro σ H S ρ vs ds ρ' Q p r e G
  cases r with
  | nil => cases e
  | cons r1 r2 =>
    obtain ⟨ρ1, e1, e2⟩ := Option.bind_eq_some_iff.mp e
    refine ⟨_, _, rfl, h1.vt σ H S ρ _ _ ρ1 _ p r1 e1 fun σ1 p1 q1 o1 => ?_⟩
    exact h2.vt σ1 H S ρ1 _ _ ρ' Q p1 r2 e2 fun σ2 p2 q2 o2 => G σ2 p2 (q1.trans q2) (o1.trans o2)
theorem VG.tup {us : List Nat} {es : List Expr} {gs : TGs} {hs : List D → Env → Option Env} {pos : Pos} {x1} (n : Nat) (k : Fit X c) (hc : X.calm = true) (h : VGs X c fx us es gs hs) (hn : (assignEach es X.env).length = n := by rfl) (hst : (assignEach es X.env).findIdx? (·.1) = none := by rfl) : VG X c fx us (.Tuple es x1 pos) (gTup c.K n gs) (tTupN n hs) := by
  refine ⟨by rw [← k.K]; exact pg_tup hc h.pe (n := n) hn hst, ?_⟩
  intro σ H S ρ v d ρ' Q p r e G
  unfold tTupN at e
  split at e
  · rename_i ds ρ0
    split at e
    · rename_i hl
      cases r with
      | tup h1 h2 => exact ⟨_, _, rfl, h1, by rw [h2.length]; exact hl, h.vt σ H S _ _ _ ρ' Q p h2 e G⟩
    · cases e
  · cases e
/-! what is walked -/
structure IR where
  ds : List D
  ps : Option Nat
/-- a slot's list is held while it is walked -/
def pinE (ps : Option Nat) (ρ : Env) : Env := match ps with
  | none => ρ
  | some i => match ρ[i]? with
    | some (some (.own o)) => ρ.set i (some (.pin o))
    | _ => ρ
def unpinE (ps : Option Nat) (ρ0 ρ : Env) : Env := match ps with
  | none => ρ
  | some i => match ρ0[i]? with
    | some (some (.own _)) => match ρ[i]? with
      | some (some (.pin o)) => ρ.set i (some (.own o))
      | _ => ρ
    | _ => ρ
def WalkJ (c : Cn) (σ : Sl) (J : It) (ds : List D) (ρ : Env) (H : Hp) (S : Addr → Prop) : Prop := ∀ k H2 S2 σ2 ρ2, Rep c σ2 H2 S2 ρ2 → Stq [] σ ρ S H σ2 ρ2 S2 H2 →
  (k < ds.length → J.go k H2 ∧ ∀ x H3, J.yld k H2 x H3 → Gro H2 H3 ∧ ∃ d, ds[k]? = some d ∧ Rp c.K H3 S2 x d) ∧ (k = ds.length → J.stop k H2)
def GoodI (c : Cn) (W : WX) (σ : Sl) (H : Hp) (S : Addr → Prop) (ρ : Env) (res : Except Ex IR) (ρ' : Env) (R : It → Hp → Prop) : Prop := match res with
  | .ok r => ∀ J H' S', Rep c σ H' S' ρ' → Stq [] σ ρ S H σ ρ' S' H' → WalkJ c σ J r.ds (pinE r.ps ρ') H' S' → R J H'
  | .error e => ∀ C d H' S' v, c.mg e.cls = some (.ref C) → H' d = some (.xd [("value", v)]) → Rp c.K H' S' v e.val → Rep c σ H' S' ρ' → Stq [] σ ρ S H σ ρ' S' H' → W (.ref C) (some d) σ H'
def VIt (c : Cn) (W : WX) (wi : TI) (f : M IR) : Prop := ∀ σ H S ρ res ρ' R, Rep c σ H S ρ → f ρ = some (res, ρ') → GoodI c W σ H S ρ res ρ' R → wi σ H R
structure VI (X : Cx) (c : Cn) (W : WX) (tg e : Expr) (wi : TI) (f : M IR) : Prop where
  pe : PI X tg e wi
  vt : VIt c W wi f
def pinOf : R → Option Nat
  | .slot i => some i
  | _ => none
def iSq (fa : M R) : M IR := fa.bind fun a => fun ρ => match look ρ a with
  | some (.list xs) => some (.ok ⟨xs, pinOf a⟩, ρ)
  | some (.tuple xs) => some (.ok ⟨xs, none⟩, ρ)
  | _ => none
theorem Stq.f0 {σ σ' : Sl} {ρ ρ' : Env} {S S' : Addr → Prop} {H H' : Hp} (q : Stq fx σ ρ S H σ' ρ' S' H') : Stq [] σ ρ S H σ' ρ' S' H' := ⟨q.st, q.s1, q.s2, q.ow, q.lv, q.pf, fun _ h => nomatch h⟩
/-- a list that no slot may change now stays -/
theorem stay_list {σ σ' : Sl} {ρ ρ' : Env} {S S' : Addr → Prop} {H H' : Hp} {a : Addr} {vs : List V} (q : Stq fx σ ρ S H σ' ρ' S' H') (n : ¬ OwnA σ ρ a) (h : H a = some (.lst vs)) : H' a = some (.lst vs) := by
  obtain ⟨o', e', g⟩ := q.st a _ h
  rw [GrO.eq (g n) (.inl trivial)] at e'
  exact e'
theorem pin_own {σ : Sl} {ps : Option Nat} {ρ : Env} {a : Addr} (h : OwnA σ (pinE ps ρ) a) : OwnA σ ρ a ∧ ∀ i, ps = some i → ∀ o, ρ[i]? = some (some (.own o)) → σ[i]? ≠ some (some (.ref a)) ∨ ∃ j o', j ≠ i ∧ ρ[j]? = some (some (.own o')) ∧ σ[j]? = some (some (.ref a)) := by
  obtain ⟨j, o, e1, e2⟩ := h
  unfold pinE at e1
  cases ps with
  | none => exact ⟨⟨j, o, e1, e2⟩, fun i z => nomatch z⟩
  | some i =>
    dsimp only at e1
    split at e1
    · rename_i o' e3
      rcases set_get e1 with ⟨rfl, e1, _⟩ | ⟨n, e1⟩
      · cases e1
      · refine ⟨⟨j, o, e1, e2⟩, fun i' z o2 _ => ?_⟩
        cases z
        exact .inr ⟨j, o, fun z => n z.symm, e1, e2⟩
    · rename_i hn
      refine ⟨⟨j, o, e1, e2⟩, fun i' z o2 e4 => ?_⟩
      cases z
      exact absurd e4 (hn o2)
theorem pin_get {ps : Option Nat} {ρ : Env} {j : Nat} {x : C} (h : (pinE ps ρ)[j]? = some (some x)) : ρ[j]? = some (some x) ∨ ∃ o, x = .pin o ∧ ρ[j]? = some (some (.own o)) ∧ ps = some j := by
  unfold pinE at h
  cases ps with
  | none => exact .inl h
  | some i =>
    dsimp only at h
    split at h
    · rename_i o e
      rcases set_get h with ⟨rfl, h, _⟩ | ⟨_, h⟩
      · cases h; exact .inr ⟨o, rfl, e, rfl⟩
      · exact .inl h
    · exact .inl h
theorem pin_len {ps : Option Nat} {ρ : Env} : (pinE ps ρ).length = ρ.length := by
  unfold pinE
  cases ps with
  | none => rfl
  | some i =>
    dsimp only
    split
    · rw [List.length_set]
    · rfl
/-- the held slots hold the same objects -/
theorem pin_ob {ps : Option Nat} {ρ : Env} {j : Nat} {x : C} {o : Ob} (h : (pinE ps ρ)[j]? = some (some x)) (e : x.ob = some o) : ∃ y, ρ[j]? = some (some y) ∧ y.ob = some o := by
  rcases pin_get h with h | ⟨o', rfl, h, _⟩
  · exact ⟨x, h, e⟩
  · exact ⟨_, h, e⟩
section
variable {σ : Sl} {H : Hp} {S : Addr → Prop} {ρ : Env} {ps : Option Nat}
theorem Rep.pin (p : Rep c σ H S ρ) : Rep c σ H S (pinE ps ρ) where
  len := by rw [pin_len]; exact p.len
  dat := fun i d e => by
    rcases pin_get e with e | ⟨o, e, _⟩
    · exact p.dat i d e
    · cases e
  liv := fun i x o e f => by
    obtain ⟨y, e, f⟩ := pin_ob e f
    exact p.liv i y o e f
  dis := fun i j x y o o' a e1 e2 e3 e4 e5 e6 => by
    obtain ⟨x, e1, e2⟩ := pin_ob e1 e2
    obtain ⟨y, e3, e4⟩ := pin_ob e3 e4
    exact p.dis i j x y o o' a e1 e2 e3 e4 e5 e6
  live := p.live
  tabs := p.tabs
theorem pin_ownA {a : Addr} (h : OwnA σ (pinE ps ρ) a) : OwnA σ ρ a := by
  obtain ⟨j, o, e1, e2⟩ := h
  rcases pin_get e1 with e | ⟨_, e, _⟩
  · exact ⟨j, o, e, e2⟩
  · cases e
theorem pin_livA {a : Addr} (h : LivA σ (pinE ps ρ) a) : LivA σ ρ a := by
  obtain ⟨j, x, o, e1, e2, e3⟩ := h
  obtain ⟨y, e1, e2⟩ := pin_ob e1 e2
  exact ⟨j, y, o, e1, e2, e3⟩
/-- the walked slot's own object is held -/
theorem pin_not {i : Nat} {a : Addr} (p : Rep c σ H S ρ) {x : C} {o : Ob} (e1 : ρ[i]? = some (some x)) (e2 : x.ob = some o) (e3 : σ[i]? = some (some (.ref a))) : ¬ OwnA σ (pinE (some i) ρ) a := fun h => by
  obtain ⟨j, o', f1, f2⟩ := h
  have f1' := f1
  rcases pin_get f1 with f | ⟨_, f, _⟩
  · have : i = j := p.dis i j x _ o o' a e1 e2 f rfl e3 f2
    subst this
    unfold pinE at f1'
    dsimp only at f1'
    rw [f] at f1'
    dsimp only at f1'
    rcases set_get f1' with ⟨_, z, _⟩ | ⟨z, _⟩
    · cases z
    · exact z rfl
  · cases f
/-- a list as it stands, N where it could be changed -/
def SqN (K : PySem.W.Frag) (H : Hp) (a : Addr) (xs : List V) (N : Prop) : Prop :=
  (H a = some (.lst xs) ∧ N) ∨ (∃ o, H a = some (.frz o (.lst xs))) ∨ ∃ (o : Obj) (its : Array Value) (n : Nat), K.lookup a = some o ∧ o.cls = .type "list" ∧ o.dict = none ∧ o.data = .seq its n ∧ its.size ≤ sizeLine ∧ Vals xs its.toList
theorem SqN.sq {K : PySem.W.Frag} {a : Addr} {xs : List V} {N : Prop} (h : SqN K H a xs N) : SqL K H a xs := by
  rcases h with h | h | h
  · exact .of h.1
  · exact .inl (.inr h)
  · exact .inr h
theorem SqN.stay {a : Addr} {xs : List V} {σ2 : Sl} {H2 : Hp} {S2 : Addr → Prop} {ρ2 : Env} (p : Rep c σ H S ρ) (q : Stq [] σ ρ S H σ2 ρ2 S2 H2) (h : SqN c.K H a xs (¬ OwnA σ ρ a)) : SqL c.K H2 a xs := by
  rcases h with h | ⟨o, h⟩ | h
  · exact .of (stay_list q h.2 h.1)
  · exact .inl (.inr ⟨o, q.kp p _ _ h (.inr trivial)⟩)
  · exact .inr h
theorem look_seq {r : R} {v : V} {H0 : Hp} {xs : List D} (p : Rep c σ H S ρ) (h : RR c σ ρ H0 r v H S) (e : look ρ r = some (.list xs)) : ∃ b vs, v = .ref b ∧ RpA c.K H S vs xs ∧ SqN c.K H b vs (¬ OwnA σ (pinE (pinOf r) ρ) b) := by
  have dat : ∀ {w : V}, Rp c.K H S w (.list xs) → ∃ b vs, w = .ref b ∧ RpA c.K H S vs xs ∧ SqN c.K H b vs (¬ OwnA σ (pinE (pinOf r) ρ) b) := fun {w} h => by
    cases h with
    | lst h1 h2 =>
      refine ⟨_, _, rfl, h2, ?_⟩
      rcases h1 with ⟨h1, h3⟩ | h1 | h1
      · exact .inl ⟨h3, fun y => p.nS (pin_ownA y) h1⟩
      · exact .inr (.inl h1)
      · exact .inr (.inr h1)
  cases r with
  | dat d => cases e; exact dat h
  | own o =>
    obtain ⟨a, rfl, h1, h2, h3, _⟩ := h
    cases o with
    | lst ys =>
      cases e
      obtain ⟨vs, e1, r1⟩ := h1
      exact ⟨a, vs, rfl, r1, .inl ⟨e1, fun y => h3 (pin_ownA y).liv⟩⟩
    | dic _ => cases e
    | set _ => cases e
    | exc _ _ => cases e
  | slot i =>
    have h : σ[i]? = some (some v) := h
    have e : obAt ρ i = some (.list xs) := e
    have go : ∀ {x : C} {o : Ob}, ρ[i]? = some (some x) → x.ob = some o → o.view = some (.list xs) → ∃ b vs, v = .ref b ∧ RpA c.K H S vs xs ∧ SqN c.K H b vs (¬ OwnA σ (pinE (some i) ρ) b) := fun {x o} e1 e2 e3 => by
      obtain ⟨a, e4, h1, _⟩ := p.liv i x o e1 e2
      rw [h] at e4; cases e4
      cases o with
      | lst ys =>
        cases e3
        obtain ⟨vs, e5, r1⟩ := h1
        exact ⟨a, vs, rfl, r1, .inl ⟨e5, pin_not p e1 e2 h⟩⟩
      | dic _ => cases e3
      | set _ => cases e3
      | exc _ _ => cases e3
    unfold obAt at e
    split at e
    · rename_i d e1
      cases e
      obtain ⟨v', e2, q⟩ := p.dat i _ e1
      rw [h] at e2; cases e2
      exact dat q
    · rename_i o e1; exact go e1 rfl e
    · rename_i o e1; exact go e1 rfl e
    · cases e
/-- a walk over a list; over a tuple -/
theorem walk_lst {b : Addr} {vs : List V} {xs : List D} (p : Rep c σ H S ρ) (r : RpA c.K H S vs xs) (s : SqN c.K H b vs (¬ OwnA σ ρ b)) : WalkJ c σ (Itl c.K b) xs ρ H S := fun k H2 S2 σ2 ρ2 p2 q2 => by
  have s2 := s.stay p q2
  have r2 := q2.rpA p r
  refine ⟨fun hk => ⟨⟨vs, _, s2, List.getElem?_eq_getElem (by rw [r.length]; exact hk)⟩, fun x H3 y => ?_⟩, fun hk => ⟨vs, s2, by rw [r.length, hk]; exact Nat.le_refl _⟩⟩
  obtain ⟨rfl, y⟩ := y
  have y := y vs s2
  obtain ⟨d, e4⟩ : ∃ d, xs[k]? = some d := ⟨_, List.getElem?_eq_getElem hk⟩
  obtain ⟨w, e5, r5⟩ := r2.get e4
  rw [y] at e5; cases e5
  exact ⟨.refl _, d, e4, r5⟩
theorem walk_tup {b : Addr} {vs : List V} {xs : List D} (p : Rep c σ H S ρ) (r : RpA c.K H S vs xs) (s : SqT c.K H b vs) : WalkJ c σ (Itt c.K b) xs ρ H S := fun k H2 S2 σ2 ρ2 p2 q2 => by
  have s2 : SqT c.K H2 b vs := sqT_keep (fun b o e f => q2.kp p b o e (.inr f)) s
  have r2 := q2.rpA p r
  refine ⟨fun hk => ⟨⟨vs, _, s2, List.getElem?_eq_getElem (by rw [r.length]; exact hk)⟩, fun x H3 y => ?_⟩, fun hk => ⟨vs, s2, by rw [r.length, hk]; exact Nat.le_refl _⟩⟩
  obtain ⟨rfl, y⟩ := y
  have y := y vs s2
  obtain ⟨d, e4⟩ : ∃ d, xs[k]? = some d := ⟨_, List.getElem?_eq_getElem hk⟩
  obtain ⟨w, e5, r5⟩ := r2.get e4
  rw [y] at e5; cases e5
  exact ⟨.refl _, d, e4, r5⟩
theorem walk_rng {lo : Int} {n : Nat} : WalkJ c σ (Itr lo n) ((List.range n).map fun i : Nat => .int (lo + i)) ρ H S := fun k H2 S2 σ2 ρ2 p2 q2 => by
  rw [List.length_map, List.length_range]
  refine ⟨fun hk => ⟨hk, fun x H3 y => ?_⟩, fun hk => by rw [hk]; exact Nat.le_refl n⟩
  obtain ⟨rfl, rfl⟩ := y
  exact ⟨.refl _, .int (lo + k), by simp [List.getElem?_map, List.getElem?_range hk], .int _⟩
end
theorem VIt.seq {t : TE} {fa : M R} (va : VEt c W t fa) : VIt c W (iSeq c.K t) (iSq fa) := by
  intro σ H S ρ res ρ' R p e G
  rcases M.bind_some e with ⟨a, ρ1, e1, e2⟩ | ⟨x, e1, rfl⟩
  · refine va σ H S ρ (.ok a) ρ1 _ p e1 fun v H1 S1 p1 q1 r1 => ?_
    split at e2
    · rename_i xs e3
      cases e2
      obtain ⟨b, vs, rfl, r2, s2⟩ := look_seq p1 r1 e3
      exact ⟨b, rfl, .inl ⟨⟨vs, s2.sq⟩, G _ _ _ p1 q1 (walk_lst p1.pin r2 s2)⟩⟩
    · rename_i xs e3
      cases e2
      obtain ⟨b, vs, rfl, s2, r2⟩ := (look_ok p1 r1 e3).tup_
      exact ⟨b, rfl, .inr ⟨⟨vs, s2⟩, G _ _ _ p1 q1 (walk_tup p1 r2 s2)⟩⟩
    · cases e2
  · exact va σ H S ρ (.error x) ρ' _ p e1 G
theorem VI.seq {tg e : Expr} {t : TE} {fa : M R} (k : Fit X c) (he : VE X c W e t fa) : VI X c W tg e (iSeq c.K t) (iSq fa) :=
  ⟨by rw [← k.K]; exact pi_seq he.pe, VIt.seq he.vt⟩
def rngD (i j : Int) : List D := (List.range (j - i).toNat).map fun k : Nat => .int (i + k)
def cR (i : Int) : Bool := decide (-(2 ^ 62) ≤ i) && decide (i < 2 ^ 62)
def iRg1 (fa : M R) : M IR := fa.bind fun a => fun ρ => match look ρ a with
  | some (.int j) => if cR j then some (.ok ⟨rngD 0 j, none⟩, ρ) else none
  | _ => none
def iRg2 (fa fb : M R) : M IR := fa.bind fun a => fb.bind fun b => fun ρ => match look ρ a, look ρ b with
  | some (.int i), some (.int j) => if cR i && cR j then some (.ok ⟨rngD i j, none⟩, ρ) else none
  | _, _ => none
theorem VI.rg1 {tg e : Expr} {t : TE} {fa : M R} {p pos : Pos} (hg : Gl X "range") (hm : X.mg "range" = none) (he : VE X c W e t fa) (hs : starEach [e] X.env = [(false, eval e X.env)] := by rfl) (hs2 : starEach [e] X.env = (false, eval e X.env) :: starEach [] X.env := by rfl) :
    VI X c W tg (.Call (.Name "range" p) [e] [] pos) (iRng1 (tCons t tNil)) (iRg1 fa) := by
  obtain ⟨pt, vt⟩ := he
  refine ⟨pi_range1 hg hm (pa_cons pt pa_nil hs2) hs, ?_⟩
  intro σ H S ρ res ρ' R p e G
  rcases M.bind_some e with ⟨a, ρ1, e1, e2⟩ | ⟨x, e1, rfl⟩
  · refine vt σ H S ρ (.ok a) ρ1 _ p e1 fun v H1 S1 p1 q1 r1 => ?_
    split at e2
    · rename_i j e3
      split at e2
      · rename_i hc
        cases e2
        obtain ⟨c1, c2⟩ := Bool.and_eq_true_iff.mp hc
        rw [(look_ok p1 r1 e3).int_]
        have w : ∀ ρ'', WalkJ c σ (Itr 0 j.toNat) (rngD 0 j) ρ'' H1 S1 := fun ρ'' => by
          have := walk_rng (c := c) (σ := σ) (ρ := ρ'') (H := H1) (S := S1) (lo := 0) (n := j.toNat)
          unfold rngD
          rw [Int.sub_zero]
          exact this
        exact ⟨j, rfl, of_decide_eq_true c1, of_decide_eq_true c2, G _ _ _ p1 q1 (w _)⟩
      · cases e2
    · cases e2
  · exact vt σ H S ρ (.error x) ρ' _ p e1 G
theorem VI.rg2 {tg e e2 : Expr} {t u : TE} {fa fb : M R} {p pos : Pos} (hg : Gl X "range") (hm : X.mg "range" = none) (he : VE X c W e t fa) (he2 : VE X c W e2 u fb) (hs : starEach [e, e2] X.env = [(false, eval e X.env), (false, eval e2 X.env)] := by rfl) (hs2 : starEach [e2] X.env = [(false, eval e2 X.env)] := by rfl)
    (hs3 : starEach [e, e2] X.env = (false, eval e X.env) :: starEach [e2] X.env := by rfl) (hs4 : starEach [e2] X.env = (false, eval e2 X.env) :: starEach [] X.env := by rfl) :
    VI X c W tg (.Call (.Name "range" p) [e, e2] [] pos) (iRng2 (tCons t (tCons u tNil))) (iRg2 fa fb) := by
  obtain ⟨pt, vt⟩ := he
  obtain ⟨pu, vu⟩ := he2
  refine ⟨pi_range2 hg hm (pa_cons pt (pa_cons pu pa_nil hs4) hs3) hs hs2, ?_⟩
  intro σ H S ρ res ρ' R p e G
  rcases M.bind_some e with ⟨a, ρ1, e1, e2⟩ | ⟨x, e1, rfl⟩
  · refine vt σ H S ρ (.ok a) ρ1 _ p e1 fun v H1 S1 p1 q1 r1 => ?_
    rcases M.bind_some e2 with ⟨b, ρ2, e3, e4⟩ | ⟨x, e3, rfl⟩
    · refine vu σ H1 S1 ρ1 (.ok b) ρ2 _ p1 e3 fun v2 H2 S2 p2 q2 r2 => ?_
      have r1 := RR.step p1 q2 r1
      split at e4
      · rename_i i j e5 e6
        split at e4
        · rename_i hc
          cases e4
          obtain ⟨ci, cj⟩ := Bool.and_eq_true_iff.mp hc
          obtain ⟨c1, c2⟩ := Bool.and_eq_true_iff.mp ci
          obtain ⟨c3, c4⟩ := Bool.and_eq_true_iff.mp cj
          rw [(look_ok p2 r1 e5).int_, (look_ok p2 r2 e6).int_]
          exact ⟨i, j, rfl, ⟨of_decide_eq_true c1, of_decide_eq_true c2, of_decide_eq_true c3, of_decide_eq_true c4⟩, G _ _ _ p2 (q1.trans q2) walk_rng⟩
        · cases e4
      · cases e4
    · exact vu σ H1 S1 ρ1 (.error x) ρ' _ p1 e3 fun C d H' S' v' m1 m2 m3 p3 q3 => G C d H' S' v' m1 m2 m3 p3 (q1.trans q3)
  · exact vt σ H S ρ (.error x) ρ' _ p e1 G
/-! for -/
def forL (tgt : XG) (body : XS) : List D → XS
  | [], ρ => some (.nx, ρ)
  | d :: ds, ρ => (tgt d ρ).bind fun ρ1 => match body ρ1 with
    | some (.nx, ρ2) => forL tgt body ds ρ2
    | some (.ct, ρ2) => forL tgt body ds ρ2
    | some (.bk, ρ2) => some (.nx, ρ2)
    | some (.rt r, ρ2) => some (.rt r, ρ2)
    | some (.ex x, ρ2) => some (.ex x, ρ2)
    | none => none
def sFor (fi : M IR) (tgt : XG) (body : XS) : XS := fun ρ => match fi ρ with
  | some (.ok r, ρ1) => (forL tgt body r.ds (pinE r.ps ρ1)).map fun q => (q.1, unpinE r.ps ρ1 q.2)
  | some (.error x, ρ1) => some (.ex x, ρ1)
  | none => none
theorem unpin_get {ps : Option Nat} {ρ0 ρ : Env} {j : Nat} {x : C} (h : (unpinE ps ρ0 ρ)[j]? = some (some x)) : (ρ[j]? = some (some x) ∧ ¬ (ps = some j ∧ (∃ o, ρ0[j]? = some (some (.own o))) ∧ ∃ o, x = .pin o)) ∨ ∃ o o', x = .own o ∧ ρ[j]? = some (some (.pin o)) ∧ ps = some j ∧ ρ0[j]? = some (some (.own o')) := by
  unfold unpinE at h
  cases ps with
  | none => exact .inl ⟨h, fun z => nomatch z.1⟩
  | some i =>
    dsimp only at h
    split at h
    · rename_i o0 e0
      split at h
      · rename_i o e
        rcases set_get h with ⟨rfl, h, _⟩ | ⟨n, h⟩
        · cases h; exact .inr ⟨o, o0, rfl, e, rfl, e0⟩
        · exact .inl ⟨h, fun z => n (Option.some.inj z.1)⟩
      · rename_i hn
        exact .inl ⟨h, fun ⟨z1, _, o, z3⟩ => by cases z1; subst z3; exact hn o h⟩
    · rename_i hn
      exact .inl ⟨h, fun ⟨z1, ⟨o, z2⟩, _⟩ => by cases z1; exact hn o z2⟩
theorem unpin_len {ps : Option Nat} {ρ0 ρ : Env} : (unpinE ps ρ0 ρ).length = ρ.length := by
  unfold unpinE
  cases ps with
  | none => rfl
  | some i =>
    dsimp only
    split
    · split
      · rw [List.length_set]
      · rfl
    · rfl
theorem unpin_ob {ps : Option Nat} {ρ0 ρ : Env} {j : Nat} {x : C} {o : Ob} (h : (unpinE ps ρ0 ρ)[j]? = some (some x)) (e : x.ob = some o) : ∃ y, ρ[j]? = some (some y) ∧ y.ob = some o := by
  rcases unpin_get h with ⟨h, _⟩ | ⟨o', _, rfl, h, _⟩
  · exact ⟨x, h, e⟩
  · exact ⟨_, h, e⟩
section
variable {σ σ1 : Sl} {H H1 : Hp} {S S1 : Addr → Prop} {ρ ρ0 ρ1 : Env} {ps : Option Nat}
theorem Rep.unpin (p : Rep c σ H S ρ) : Rep c σ H S (unpinE ps ρ0 ρ) where
  len := by rw [unpin_len]; exact p.len
  dat := fun i d e => by
    rcases unpin_get e with ⟨e, _⟩ | ⟨o, _, e, _⟩
    · exact p.dat i d e
    · cases e
  liv := fun i x o e f => by
    obtain ⟨y, e, f⟩ := unpin_ob e f
    exact p.liv i y o e f
  dis := fun i j x y o o' a e1 e2 e3 e4 e5 e6 => by
    obtain ⟨x, e1, e2⟩ := unpin_ob e1 e2
    obtain ⟨y, e3, e4⟩ := unpin_ob e3 e4
    exact p.dis i j x y o o' a e1 e2 e3 e4 e5 e6
  live := p.live
  tabs := p.tabs
/-- behind the loop -/
theorem Stq.unpin (q : Stq fx σ (pinE ps ρ) S H σ1 ρ1 S1 H1) : Stq fx σ ρ S H σ1 (unpinE ps ρ ρ1) S1 H1 where
  st := fun b o e => by
    obtain ⟨o', e', g⟩ := q.st b o e
    exact ⟨o', e', fun n => g fun z => n (pin_ownA z)⟩
  s1 := q.s1
  s2 := fun a z => by
    rcases q.s2 a z with z | z | z
    · exact .inl z
    · exact .inr (.inl z)
    · exact .inr (.inr (pin_livA z))
  ow := fun a ⟨j, o, e1, e2⟩ => by
    rcases unpin_get e1 with ⟨e1, _⟩ | ⟨o1, o2, _, e3, e4, e5⟩
    · exact (q.ow a ⟨j, o, e1, e2⟩).imp pin_ownA id
    · obtain ⟨o3, e6, e7⟩ := q.pf j o1 e3
      rw [e2] at e7
      exact .inl ⟨j, o2, e5, e7.symm⟩
  lv := fun a ⟨j, x, o, e1, e2, e3⟩ => by
    obtain ⟨y, e1, e2⟩ := unpin_ob e1 e2
    exact (q.lv a ⟨j, y, o, e1, e2, e3⟩).imp pin_livA id
  pf := fun i o e => by
    rcases unpin_get e with ⟨e, n⟩ | ⟨o1, o2, e, _⟩
    · obtain ⟨o3, e6, e7⟩ := q.pf i o e
      rcases pin_get e6 with e6 | ⟨o4, _, e8, e9⟩
      · exact ⟨o3, e6, e7⟩
      · exact absurd ⟨e9, ⟨o4, e8⟩, o, rfl⟩ n
    · cases e
  fx := q.fx
end
theorem RR.unpin {σ : Sl} {H0 H : Hp} {S : Addr → Prop} {ρ ρ0 : Env} {ps : Option Nat} {r : R} {v : V} (h : RR c σ ρ H0 r v H S) : RR c σ (unpinE ps ρ0 ρ) H0 r v H S := by
  cases r with
  | dat d => exact h
  | slot i => exact h
  | own o =>
    obtain ⟨a, e, h1, h2, h3, h4⟩ := h
    refine ⟨a, e, h1, h2, fun ⟨j, x, o, e1, e2, e3⟩ => h3 ?_, h4⟩
    obtain ⟨y, e1, e2⟩ := unpin_ob e1 e2
    exact ⟨j, y, o, e1, e2, e3⟩
theorem VSt.for {us : List Nat} {wi : TI} {g : TG} {tb : TS} {fi : M IR} {tgt : XG} {body : XS} (vi : VIt c W wi fi) (vg : VGt c fx us g tgt) (vb : VSt c W fx tb body) : VSt c W fx (tFor wi g tb) (sFor fi tgt body) := by
  intro σ H S ρ fl ρ' D p e G
  unfold sFor at e
  split at e
  · rename_i r ρ1 e1
    obtain ⟨⟨fl1, ρe⟩, e2, e3⟩ := Option.map_eq_some_iff.mp e
    cases e3
    refine vi σ H S ρ (.ok r) ρ1 _ p e1 fun J H1 S1 p1 q1 w => ?_
    have p1' := p1.pin (ps := r.ps)
    -- the invariant: what is left of the run
    refine ⟨fun i m σ2 H2 => m = r.ds.length - i ∧ i ≤ r.ds.length ∧ ∃ S2 ρ2, Rep c σ2 H2 S2 ρ2 ∧ Stq fx σ (pinE r.ps ρ1) S1 H1 σ2 ρ2 S2 H2 ∧ forL tgt body (r.ds.drop i) ρ2 = some (fl1, ρe), ⟨_, rfl, Nat.zero_le _, S1, _, p1', .refl, e2⟩, ?_⟩
    rintro i m σ2 H2 ⟨rfl, hi, S2, ρ2, p2, q2, run⟩
    obtain ⟨w1, w2⟩ := w i H2 S2 σ2 ρ2 p2 q2.f0
    by_cases hlt : i < r.ds.length
    · obtain ⟨go, wy⟩ := w1 hlt
      refine .inr ⟨go, fun σ3 H3 => ∃ S3 ρ3, Rep c σ3 H3 S3 ρ3 ∧ Stq fx σ (pinE r.ps ρ1) S1 H1 σ3 ρ3 S3 H3 ∧ forL tgt body (r.ds.drop (i + 1)) ρ3 = some (fl1, ρe), fun σ3 H3 ⟨S3, ρ3, p3, q3, run3⟩ => ⟨r.ds.length - (i + 1), by omega, rfl, hlt, S3, ρ3, p3, q3, run3⟩, fun x H3 y => ?_⟩
      obtain ⟨g3, d, ed, rd⟩ := wy x H3 y
      have ed' : r.ds.drop i = d :: r.ds.drop (i + 1) := by
        rw [List.drop_eq_getElem_cons hlt]
        rw [List.getElem?_eq_getElem hlt] at ed
        cases ed; rfl
      rw [ed'] at run
      unfold forL at run
      obtain ⟨ρ4, e4, run⟩ := Option.bind_eq_some_iff.mp run
      refine vg σ2 H3 S2 ρ2 x d ρ4 _ (p2.gro g3) rd e4 fun σ4 p4 q4 _ => ?_
      have q4' := (q2.trans (stq_gro g3)).trans q4
      split at run
      · rename_i ρ5 e5
        exact vb σ4 H3 S2 ρ4 .nx ρ5 _ p4 e5 fun σ5 H5 S5 p5 q5 => ⟨S5, ρ5, p5, q4'.trans q5, run⟩
      · rename_i ρ5 e5
        exact vb σ4 H3 S2 ρ4 .ct ρ5 _ p4 e5 fun σ5 H5 S5 p5 q5 => ⟨S5, ρ5, p5, q4'.trans q5, run⟩
      · rename_i ρ5 e5
        cases run
        exact vb σ4 H3 S2 ρ4 .bk _ _ p4 e5 fun σ5 H5 S5 p5 q5 => G σ5 H5 S5 p5.unpin (q1.any.trans (q4'.trans q5).unpin)
      · rename_i rr ρ5 e5
        cases run
        refine vb σ4 H3 S2 ρ4 (.rt _) _ _ p4 e5 fun v σ5 H5 S5 p5 q5 r5 => G v σ5 H5 S5 p5.unpin (q1.any.trans (q4'.trans q5).unpin) ?_
        refine RR.back (RR.unpin r5) fun a z => ?_
        exact (q1.trans (Stq.unpin (q4'.f0))).gone z
      · rename_i x ρ5 e5
        cases run
        exact vb σ4 H3 S2 ρ4 (.ex _) _ _ p4 e5 fun C d' σ5 H5 S5 v m1 m2 m3 p5 q5 => G C d' σ5 H5 S5 v m1 m2 m3 p5.unpin (q1.any.trans (q4'.trans q5).unpin)
      · cases run
    · have ei : i = r.ds.length := by omega
      subst ei
      rw [List.drop_length] at run
      cases run
      exact .inl ⟨w2 rfl, G σ2 H2 S2 p2.unpin (q1.any.trans q2.unpin)⟩
  · rename_i x ρ1 e1
    cases e
    exact vi σ H S ρ (.error x) _ _ p e1 fun C d H' S' v m1 m2 m3 p' q' => G C d σ H' S' v m1 m2 m3 p' q'.any
  · cases e
theorem VS.for {us : List Nat} {tg iter : Expr} {body : List Stmt} {wi : TI} {g : TG} {tb : TS} {fi : M IR} {tgt : XG} {fb : XS} {pos : Pos} (hp : PassesOwn (model X.prog X.w) X.A X.env X.xe) (hc : X.calm = true) (hi : VI X c W tg iter wi fi) (hg : VG X c fx us tg g tgt) (hb : VSs X c W fx body tb fb) (hs : ∀ x, foldedSetIterable iter X.env x = pure x := by intro _; rfl) :
    VS X c W fx (.For tg iter body [] pos) (tFor wi g tb) (sFor fi tgt fb) :=
  ⟨ps_for hp hc hi.pe hg.pe hb.pe hs, VSt.for hi.vt hg.vt hb.vt⟩
/-! x, y = ..; while -/
def asg (tgt : XG) (fa : M R) : XS := fun ρ => match fa ρ with
  | some (.ok r, ρ1) => (keepR r ρ1).bind fun p => (tgt p.1 p.2).map fun ρ2 => (.nx, ρ2)
  | some (.error x, ρ1) => some (.ex x, ρ1)
  | none => none
theorem VS.asg {us : List Nat} {tg e : Expr} {te : TE} {g : TG} {fa : M R} {tgt : XG} {pos : Pos} (he : VE X c W e te fa) (hg : VG X c fx us tg g tgt) (hs : swapsWithSole [tg] e pos.line X.env = pure false := by rfl) (hw : swappedStores [tg] e X.env = pure none := by rfl) (h1 : (assignEach [tg] X.env).map (·.2) = [assign tg X.env] := by rfl) : VS X c W fx (.Assign [tg] e pos) (tAsg te g) (Vm.asg tgt fa) := by
  refine ⟨ps_asg he.pe hg.pe hs hw h1, ?_⟩
  intro σ H S ρ fl ρ' D p e G
  unfold Vm.asg at e
  split at e
  · rename_i r ρ1 e1
    obtain ⟨⟨d, ρ2⟩, e2, e3⟩ := Option.bind_eq_some_iff.mp e
    obtain ⟨ρ3, e4, e5⟩ := Option.map_eq_some_iff.mp e3
    cases e5
    refine he.vt σ H S ρ (.ok r) _ _ p e1 fun v H' S' p' q' r' => ?_
    obtain ⟨S2, p2, q2, r2, _, _⟩ := keep_ok q' p' r'.w e2
    exact hg.vt σ H' S2 ρ2 v d _ _ p2 r2 e4 fun σ3 p3 q3 _ => G σ3 H' S2 p3 (q2.any.trans q3)
  · rename_i x ρ1 e1
    cases e
    exact he.vt σ H S ρ (.error x) _ _ p e1 (goodE_ex (D := D) G)
  · cases e
def whileL (ft : M Bool) (body : XS) : Nat → XS
  | 0, _ => none
  | n + 1, ρ => match ft ρ with
    | some (.ok true, ρ1) => match body ρ1 with
      | some (.nx, ρ2) => whileL ft body n ρ2
      | some (.ct, ρ2) => whileL ft body n ρ2
      | some (.bk, ρ2) => some (.nx, ρ2)
      | some (.rt r, ρ2) => some (.rt r, ρ2)
      | some (.ex x, ρ2) => some (.ex x, ρ2)
      | none => none
    | some (.ok false, ρ1) => some (.nx, ρ1)
    | some (.error x, ρ1) => some (.ex x, ρ1)
    | none => none
open Classical in
noncomputable def sWhile (ft : M Bool) (body : XS) : XS := fun ρ => if h : ∃ n r, whileL ft body n ρ = some r then whileL ft body h.choose ρ else none
theorem whileL_more {ft : M Bool} {body : XS} : ∀ {n m : Nat} {ρ : Env} {r : Fl × Env}, whileL ft body n ρ = some r → n ≤ m → whileL ft body m ρ = some r
  | 0, _, _, _, h, _ => by cases h
  | n + 1, 0, _, _, _, l => by omega
  | n + 1, m + 1, ρ, r, h, l => by
    unfold whileL at h ⊢
    split at h
    · rename_i ρ1 e1
      split at h
      · rename_i ρ2 e2; exact whileL_more h (by omega)
      · rename_i ρ2 e2; exact whileL_more h (by omega)
      · rename_i ρ2 e2; exact h
      · rename_i r ρ2 e2; exact h
      · rename_i x ρ2 e2; exact h
      · cases h
    · exact h
    · exact h
    · cases h
theorem sWhile_eq {ft : M Bool} {body : XS} {n : Nat} {ρ : Env} {r : Fl × Env} (h : whileL ft body n ρ = some r) : sWhile ft body ρ = some r := by
  have ex : ∃ n r, whileL ft body n ρ = some r := ⟨n, r, h⟩
  unfold sWhile
  rw [dif_pos ex]
  obtain ⟨r', e⟩ := ex.choose_spec
  rcases Nat.le_total n ex.choose with l | l
  · exact whileL_more h l
  · rw [e]
    have := whileL_more e l
    rw [h] at this
    exact this.symm
theorem sWhile_some {ft : M Bool} {body : XS} {ρ : Env} {r : Fl × Env} (h : sWhile ft body ρ = some r) : ∃ n, whileL ft body n ρ = some r := by
  unfold sWhile at h
  split at h
  · exact ⟨_, h⟩
  · cases h
theorem VSt.while {tc : TT} {tb : TS} {ft : M Bool} {body : XS} (vc : VTt c W tc ft) (vb : VSt c W fx tb body) : VSt c W fx (tWhile tc tb) (sWhile ft body) := by
  intro σ H S ρ fl ρ' D p e G
  obtain ⟨n, run⟩ := sWhile_some e
  refine ⟨fun m σ2 H2 => ∃ S2 ρ2, Rep c σ2 H2 S2 ρ2 ∧ Stq fx σ ρ S H σ2 ρ2 S2 H2 ∧ whileL ft body m ρ2 = some (fl, ρ'), ⟨n, S, ρ, p, .refl, run⟩, ?_⟩
  rintro m σ2 H2 ⟨S2, ρ2, p2, q2, run2⟩
  cases m with
  | zero => cases run2
  | succ m =>
    unfold whileL at run2
    split at run2
    · rename_i ρ3 e3
      refine vc σ2 H2 S2 ρ2 (.ok true) ρ3 _ p2 e3 fun b H3 S3 p3 q3 r3 => ?_
      cases r3
      simp only [if_true]
      refine ⟨fun σ4 H4 => ∃ S4 ρ4, Rep c σ4 H4 S4 ρ4 ∧ Stq fx σ ρ S H σ4 ρ4 S4 H4 ∧ whileL ft body m ρ4 = some (fl, ρ'), fun σ4 H4 h4 => ⟨m, Nat.lt_succ_self m, h4⟩, ?_⟩
      have q3' := q2.trans q3.any
      split at run2
      · rename_i ρ5 e5
        exact vb σ2 H3 S3 ρ3 .nx ρ5 _ p3 e5 fun σ5 H5 S5 p5 q5 => ⟨S5, ρ5, p5, q3'.trans q5, run2⟩
      · rename_i ρ5 e5
        exact vb σ2 H3 S3 ρ3 .ct ρ5 _ p3 e5 fun σ5 H5 S5 p5 q5 => ⟨S5, ρ5, p5, q3'.trans q5, run2⟩
      · rename_i ρ5 e5
        cases run2
        exact vb σ2 H3 S3 ρ3 .bk _ _ p3 e5 fun σ5 H5 S5 p5 q5 => G σ5 H5 S5 p5 (q3'.trans q5)
      · rename_i rr ρ5 e5
        cases run2
        exact vb σ2 H3 S3 ρ3 (.rt _) _ _ p3 e5 fun v σ5 H5 S5 p5 q5 r5 => G v σ5 H5 S5 p5 (q3'.trans q5) (RR.back r5 fun _ => q3'.gone)
      · rename_i x ρ5 e5
        cases run2
        exact vb σ2 H3 S3 ρ3 (.ex _) _ _ p3 e5 fun C d' σ5 H5 S5 v m1 m2 m3 p5 q5 => G C d' σ5 H5 S5 v m1 m2 m3 p5 (q3'.trans q5)
      · cases run2
    · rename_i ρ3 e3
      cases run2
      refine vc σ2 H2 S2 ρ2 (.ok false) _ _ p2 e3 fun b H3 S3 p3 q3 r3 => ?_
      cases r3
      simp only [Bool.false_eq_true, if_false]
      exact G σ2 H3 S3 p3 (q2.trans q3.any)
    · rename_i x ρ3 e3
      cases run2
      exact vc σ2 H2 S2 ρ2 (.error _) _ _ p2 e3 fun C d H' S' v m1 m2 m3 p' q' => G C d σ2 H' S' v m1 m2 m3 p' (q2.trans q'.any)
    · cases run2
theorem VS.while {t : Expr} {body : List Stmt} {tc : TT} {tb : TS} {ft : M Bool} {fb : XS} {pos : Pos} (hp : PassesOwn (model X.prog X.w) X.A X.env X.xe) (ht : VT X c W t tc ft) (hb : VSs X c W fx body tb fb) : VS X c W fx (.While t body [] pos) (tWhile tc tb) (sWhile ft fb) :=
  ⟨ps_while hp ht.pe hb.pe, VSt.while ht.vt hb.vt⟩
end
end Vm
/-! ### defs: what they promise by their body's function; calls -/
namespace Vm
open PySem PySem.Spec PyProof.Rows L2 Ky
/-- a def as a function: the contents of its parameters; its end, and the content of the parameter that it changes -/
abbrev Fn := List C → Option (Except Ex R × Option Ob)
/-- the argument that a def changes: its place -/
abbrev Rf := Option Nat
def ownC : C → Bool
  | .own _ => true
  | _ => false
def datC : C → Bool
  | .dat _ => true
  | _ => false
/-- contents as a def takes them: data, but the changed one, which is owned -/
def modes (rf : Rf) (cs : List C) : Prop := ∀ (k : Nat) x, cs[k]? = some x → if rf = some k then ownC x = true else datC x = true
/-- behind a def's call -/
structure After (c : Cn) (rf : Rf) (vs : List V) (H : Hp) (S : Addr → Prop) (ob : Option Ob) (H' : Hp) (S' : Addr → Prop) : Prop where
  st : ∀ b o, H b = some o → ∃ o', H' b = some o' ∧ ((∀ k, rf = some k → vs[k]? ≠ some (.ref b)) → GrO o o')
  s1 : ∀ a, S a → S' a
  s2 : ∀ a, S' a → S a ∨ H a = none
  live : ∀ a, S' a → ∃ o, H' a = some o ∧ mutK o
  tabs : ∀ x ∈ c.tf, GxR.TabG H' (tA c.K x)
  rf : ∀ k, rf = some k → ∃ a o, vs[k]? = some (.ref a) ∧ ob = some o ∧ ObRp c H' S' a o ∧ ¬ S' a
def RC (c : Cn) (H : Hp) (r : R) (v : V) (H' : Hp) (S' : Addr → Prop) : Prop := match r with
  | .dat d => Rp c.K H' S' v d
  | .own o => ∃ a, v = .ref a ∧ ObRp c H' S' a o ∧ ¬ S' a ∧ H a = none
  | .slot _ => False
def CGood (c : Cn) (rf : Rf) (vs : List V) (H : Hp) (S : Addr → Prop) (res : Except Ex R) (ob : Option Ob) (Q : VK) (E : XK) : Prop := match res with
  | .ok r => ∀ v H' S', After c rf vs H S ob H' S' → RC c H r v H' S' → Q v H'
  | .error x => ∀ C d H' S' v, c.mg x.cls = some (.ref C) → H' d = some (.xd [("value", v)]) → Rp c.K H' S' v x.val → After c rf vs H S ob H' S' → E (.ref C) (some d) H'
def spV (c : Cn) (n : Nat) (rf : Rf) (f : Fn) : Sp := fun vs H Q E => ∃ S cs res ob, vs.length = n ∧ modes rf cs ∧ Rep c (vs.map some) H S (cs.map some) ∧ f cs = some (res, ob) ∧ CGood c rf vs H S res ob Q E
/-- a body as a def's function: m slots -/
def obRf (rf : Rf) (ρ : Env) : Option (Option Ob) := match rf with
  | none => some none
  | some j => match ρ[j]? with
    | some (some (.own o)) => some (some o)
    | _ => none
def retR (rf : Rf) (r : R) (ρ : Env) : Option R := match r with
  | .dat d => some (.dat d)
  | .own o => some (.own o)
  | .slot i => if rf = some i then none else match ρ[i]? with
    | some (some (.dat d)) => some (.dat d)
    | some (some (.own o)) => some (.own o)
    | some (some (.pin o)) => some (.own o)
    | _ => none
def finF (rf : Rf) : Fl × Env → Option (Except Ex R × Option Ob)
  | (.rt r, ρ) => (retR rf r ρ).bind fun r' => (obRf rf ρ).map fun ob => (.ok r', ob)
  | (.nx, ρ) => (obRf rf ρ).map fun ob => (.ok (.dat .none), ob)
  | (.ex x, ρ) => (obRf rf ρ).map fun ob => (.error x, ob)
  | _ => none
def fnOf (m : Nat) (rf : Rf) (g : XS) : Fn := fun cs => (g (cs.map some ++ List.replicate (m - cs.length) none)).bind (finF rf)
def fxOf : Rf → List Nat
  | none => []
  | some j => [j]
section
variable {c : Cn} {W : WX} {rf : Rf} {σ σ' : Sl} {H H' : Hp} {S S' : Addr → Prop} {ρ ρ' : Env} {vs : List V} {cs : List C}
theorem app_get {α : Type} {l : List α} {n : Nat} {i : Nat} {x : α} (h : (l.map some ++ List.replicate n none)[i]? = some (some x)) : l[i]? = some x := by
  by_cases hi : i < l.length
  · rw [List.getElem?_append_left (by simpa using hi)] at h
    simpa using h
  · rw [List.getElem?_append_right (by simpa using hi)] at h
    by_cases hj : i - (l.map some).length < n
    · rw [List.getElem?_replicate] at h; rw [if_pos hj] at h; cases h
    · rw [List.getElem?_replicate] at h; rw [if_neg hj] at h; cases h
theorem app_of {α : Type} {l : List α} {n : Nat} {i : Nat} {x : α} (h : l[i]? = some x) : (l.map some ++ List.replicate n none)[i]? = some (some x) := by
  have hi : i < l.length := (List.getElem?_eq_some_iff.mp h).1
  rw [List.getElem?_append_left (by simpa using hi)]
  simpa using h
/-- the slots at a def's entry -/
theorem Rep.entry {m : Nat} (p : Rep c (vs.map some) H S (cs.map some)) : Rep c (vs.map some ++ List.replicate (m - vs.length) none) H S (cs.map some ++ List.replicate (m - cs.length) none) := by
  have hl : vs.length = cs.length := by have := p.len; simpa using this
  have up : ∀ {i : Nat} {x : C}, (cs.map some)[i]? = some (some x) ↔ cs[i]? = some x := by intros; simp
  refine ⟨by simp [hl], fun i d e => ?_, fun i x o e f => ?_, fun i j x y o o' a e1 e2 e3 e4 e5 e6 => ?_, p.live, p.tabs⟩
  · obtain ⟨v, e2, r⟩ := p.dat i d (up.mpr (app_get e))
    exact ⟨v, app_of (by simpa using e2), r⟩
  · obtain ⟨a, e2, r⟩ := p.liv i x o (up.mpr (app_get e)) f
    exact ⟨a, app_of (by simpa using e2), r⟩
  · exact p.dis i j x y o o' a (up.mpr (app_get e1)) e2 (up.mpr (app_get e3)) e4 (by simpa using app_get e5) (by simpa using app_get e6)
/-- what a body's end says of the def's call -/
theorem after_of {m : Nat} {ob : Option Ob} (p0 : Rep c (vs.map some) H S (cs.map some)) (md : modes rf cs) (p : Rep c σ' H' S' ρ') (q : Stq (fxOf rf) (vs.map some ++ List.replicate (m - vs.length) none) (cs.map some ++ List.replicate (m - cs.length) none) S H σ' ρ' S' H')
    (e : obRf rf ρ' = some ob) : After c rf vs H S ob H' S' := by
  have own : ∀ {a}, OwnA (vs.map some ++ List.replicate (m - vs.length) none) (cs.map some ++ List.replicate (m - cs.length) none) a → ∃ k, rf = some k ∧ vs[k]? = some (.ref a) := fun {a} ⟨i, o, e1, e2⟩ => by
    have e1 := app_get e1
    have := md i _ e1
    split at this
    · rename_i hk; exact ⟨i, hk, app_get e2⟩
    · cases this
  have liv : ∀ {a}, LivA (vs.map some ++ List.replicate (m - vs.length) none) (cs.map some ++ List.replicate (m - cs.length) none) a → ∃ k, rf = some k ∧ vs[k]? = some (.ref a) := fun {a} ⟨i, x, o, e1, e2, e3⟩ => by
    have e1 := app_get e1
    have := md i _ e1
    split at this
    · rename_i hk; exact ⟨i, hk, app_get e3⟩
    · cases x with
      | dat d => cases e2
      | own o => exact absurd this (by simp [datC])
      | pin o => exact absurd this (by simp [datC])
  have rfA : ∀ k, rf = some k → ∃ a o, vs[k]? = some (.ref a) ∧ ob = some o ∧ ObRp c H' S' a o ∧ ¬ S' a := fun k hk => by
    subst hk
    unfold obRf at e
    dsimp only at e
    split at e
    · rename_i o e1
      cases e
      obtain ⟨a, e2, r, n⟩ := p.liv k _ _ e1 rfl
      have e3 := q.fx k (by simp [fxOf])
      rw [e2] at e3
      exact ⟨a, o, app_get e3.symm, rfl, r, n⟩
    · cases e
  refine ⟨fun b o e1 => ?_, q.s1, fun a z => ?_, p.live, p.tabs, rfA⟩
  · obtain ⟨o', e2, g⟩ := q.st b o e1
    exact ⟨o', e2, fun n => g fun z => by obtain ⟨k, h1, h2⟩ := own z; exact n k h1 h2⟩
  · rcases q.s2 a z with h | h | h
    · exact .inl h
    · exact .inr h
    · obtain ⟨k, h1, h2⟩ := liv h
      obtain ⟨b, o, e1, _, _, n⟩ := rfA k h1
      rw [h2] at e1
      cases e1
      exact absurd z n
theorem ret_of {m : Nat} {r r' : R} {v : V} {ob : Option Ob} (md : modes rf cs) (p : Rep c σ' H' S' ρ') (q : Stq (fxOf rf) (vs.map some ++ List.replicate (m - vs.length) none) (cs.map some ++ List.replicate (m - cs.length) none) S H σ' ρ' S' H')
    (e0 : obRf rf ρ' = some ob) (h : RR c σ' ρ' H r v H' S') (e : retR rf r ρ' = some r') : RC c H r' v H' S' := by
  cases r with
  | dat d => cases e; exact h
  | own o => cases e; obtain ⟨a, h1, h2, h3, h4, h5⟩ := h; exact ⟨a, h1, h2, h3, h5⟩
  | slot i =>
    have h : σ'[i]? = some (some v) := h
    unfold retR at e
    dsimp only at e
    split at e
    · cases e
    · rename_i hi
      have go : ∀ {x : C} {o : Ob}, ρ'[i]? = some (some x) → x.ob = some o → r' = .own o → RC c H r' v H' S' := fun {x o} e1 e2 e3 => by
        subst e3
        obtain ⟨a, e4, r, n⟩ := p.liv i x o e1 e2
        rw [h] at e4; cases e4
        refine ⟨a, rfl, r, n, ?_⟩
        rcases q.lv a ⟨i, x, o, e1, e2, h⟩ with z | z
        · obtain ⟨j, y, o', f1, f2, f3⟩ := z
          have f1 := app_get f1
          have := md j _ f1
          split at this
          · rename_i hk
            unfold obRf at e0
            rw [hk] at e0
            dsimp only at e0
            split at e0
            · rename_i o2 e5
              have e6 := q.fx j (by rw [hk]; simp [fxOf])
              rw [f3] at e6
              have := p.dis i j x _ o o2 a e1 e2 e5 rfl h e6
              exact absurd (by rw [hk, this]) hi
            · cases e0
          · cases y with
            | dat d => cases f2
            | own o => exact absurd this (by simp [datC])
            | pin o => exact absurd this (by simp [datC])
        · exact z
      split at e
      · rename_i d e1
        cases e
        obtain ⟨w, e2, r⟩ := p.dat i d e1
        rw [h] at e2; cases e2
        exact r
      · rename_i o e1; cases e; exact go e1 rfl rfl
      · rename_i o e1; cases e; exact go e1 rfl rfl
      · cases e
/-- a def by its body -/
theorem body_ok {m : Nat} {N : List Str} {t : TS} {g : XS} {Q : VK} {E : XK} (hm : N.length = m) (vt : VSt c W (fxOf rf) t g) (hW : ∀ C d σ H, E C d H → W C d σ H) (h : spV c n rf (fnOf m rf g) vs H Q E) : t { nx := fun _ H' => Q .non H', rt := Q } (L2.start N vs) H := by
  obtain ⟨S, cs, res, ob, hn, md, p, e, G⟩ := h
  unfold fnOf at e
  obtain ⟨⟨fl, ρ'⟩, e1, e2⟩ := Option.bind_eq_some_iff.mp e
  unfold L2.start
  rw [hm]
  refine vt _ H S _ fl ρ' _ (p.entry (m := m)) e1 ?_
  cases fl with
  | nx =>
    obtain ⟨ob', e3, e4⟩ := Option.map_eq_some_iff.mp (show (obRf rf ρ').map (fun ob => (Except.ok (R.dat .none), ob)) = some (res, ob) from e2)
    cases e4
    exact fun σ' H' S' p' q' => G .non H' S' (after_of p md p' q' e3) Rp.non
  | rt r =>
    obtain ⟨r', e3, e4⟩ := Option.bind_eq_some_iff.mp (show (retR rf r ρ').bind (fun r' => (obRf rf ρ').map fun ob => (Except.ok r', ob)) = some (res, ob) from e2)
    obtain ⟨ob', e5, e6⟩ := Option.map_eq_some_iff.mp e4
    cases e6
    exact fun v σ' H' S' p' q' k => G v H' S' (after_of p md p' q' e5) (ret_of md p' q' e5 k e3)
  | ex x =>
    obtain ⟨ob', e3, e4⟩ := Option.map_eq_some_iff.mp (show (obRf rf ρ').map (fun ob => (Except.error x, ob)) = some (res, ob) from e2)
    cases e4
    exact fun C d σ' H' S' v m1 m2 m3 p' q' => hW _ _ _ _ (G C d H' S' v m1 m2 m3 (after_of p md p' q' e3))
  | bk => cases e2
  | ct => cases e2
end
/-! ### a call -/
mutual
def imm : D → Bool
  | .list _ => false
  | .dict _ => false
  | .tuple xs => immAll xs
  | _ => true
def immAll : List D → Bool
  | [] => true
  | x :: xs => imm x && immAll xs
end
mutual
theorem Rp.imm {K : PySem.W.Frag} {H : Hp} {S S' : Addr → Prop} : ∀ {v : V} {d : D}, Rp K H S v d → Vm.imm d = true → Rp K H S' v d
  | _, _, .non, _ => .non
  | _, _, .bl b, _ => .bl b
  | _, _, .int i, _ => .int i
  | _, _, .str x, _ => .str x
  | _, _, .lst _ _, e => by simp [Vm.imm] at e
  | _, _, .tup h1 h2, e => .tup h1 (RpA.imm h2 (by simpa [Vm.imm] using e))
  | _, _, .dK _ _ _, e => by simp [Vm.imm] at e
theorem RpA.imm {K : PySem.W.Frag} {H : Hp} {S S' : Addr → Prop} : ∀ {vs : List V} {ds : List D}, RpA K H S vs ds → immAll ds = true → RpA K H S' vs ds
  | _, _, .nil, _ => .nil
  | _, _, .cons h1 h2, e => by
    have e' := e
    simp [immAll] at e'
    exact .cons (Rp.imm h1 e'.1) (RpA.imm h2 e'.2)
end
def immOb : Ob → Bool
  | .lst xs => immAll xs
  | .dic kvs => immAll (kvs.map (·.2))
  | .set _ => true
  | .exc _ val => imm val
theorem RpK.imm {K : PySem.W.Frag} {H : Hp} {S S' : Addr → Prop} : ∀ {vs : List (Key × V)} {ds : List (D × D)}, RpK K H S vs ds → immAll (ds.map (·.2)) = true → RpK K H S' vs ds
  | _, _, .nil, _ => .nil
  | _, _, .cons h1 h2, e => by
    have e' := e
    simp [immAll] at e'
    exact .cons (Rp.imm h1 e'.1) (RpK.imm h2 e'.2)
theorem ObRp.imm {c : Cn} {H : Hp} {S S' : Addr → Prop} {a : Addr} {o : Ob} (h : ObRp c H S a o) (e : immOb o = true) : ObRp c H S' a o := by
  cases o with
  | lst xs => obtain ⟨vs, e1, r⟩ := h; exact ⟨vs, e1, r.imm e⟩
  | dic kvs => obtain ⟨ks, e1, r⟩ := h; exact ⟨ks, e1, r.imm e⟩
  | set xs => exact h
  | exc cls val => obtain ⟨C, d, v, m, e1, ed, r⟩ := h; exact ⟨C, d, v, m, e1, ed, r.imm e⟩
def immR : R → Bool
  | .dat d => imm d
  | .own o => immOb o
  | .slot _ => false
/-- an argument's data -/
def kd (ρ : Env) : R → Option D
  | .dat d => some d
  | .own o => o.toD
  | .slot i => match ρ[i]? with
    | some (some (.dat d)) => some d
    | some (some (.own o)) => o.toD
    | some (some (.pin o)) => o.toD
    | _ => none
/-- the arguments' contents -/
def argsC (rf : Rf) (ρ : Env) : Nat → List R → Option (List C)
  | _, [] => some []
  | k, r :: rs => (if rf = some k then match r with
      | .slot i => match ρ[i]? with
        | some (some (.own o)) => some (.own o)
        | _ => none
      | _ => none
    else (kd ρ r).map .dat).bind fun x => (argsC rf ρ (k + 1) rs).map (x :: ·)
/-- the slots among the arguments that hold objects -/
def slotsC (ρ : Env) : List R → List Nat
  | [] => []
  | .slot i :: rs => match ρ[i]? with
    | some (some (.own _)) => i :: slotsC ρ rs
    | some (some (.pin _)) => i :: slotsC ρ rs
    | _ => slotsC ρ rs
  | _ :: rs => slotsC ρ rs
def putOb (rf : Rf) (rs : List R) (ob : Option Ob) (ρ : Env) : Env := match rf, ob with
  | some k, some o => match rs[k]? with
    | some (.slot i) => ρ.set i (some (.own o))
    | _ => ρ
  | _, _ => ρ
def immO : Option Ob → Bool
  | some o => immOb o
  | none => true
def immX : Except Ex R → Bool
  | .ok r => immR r
  | .error x => imm x.val
def callK (rf : Rf) (f : Fn) (rs : List R) : M R := fun ρ => (argsC rf ρ 0 rs).bind fun cs => (f cs).bind fun q =>
  let sl := slotsC ρ rs
  if sl.Nodup ∧ (sl.length ≤ (if rf.isSome then 1 else 0) ∨ (immX q.1 && immO q.2) = true) then some (q.1, putOb rf rs q.2 ρ) else none
def xCall (rf : Rf) (f : Fn) (fr : M (List R)) : M R := fr.bind (callK rf f)
section
variable {c : Cn} {W : WX} {rf : Rf} {σ : Sl} {H H0 H' : Hp} {S S' : Addr → Prop} {ρ : Env} {vs : List V} {cs : List C} {rs : List R}
def livC (ρ : Env) (i : Nat) : Prop := ∃ x o, ρ[i]? = some (some x) ∧ x.ob = some o
def hot (ρ : Env) : R → Prop
  | .dat _ => False
  | .own _ => True
  | .slot i => livC ρ i
theorem RRs.get : ∀ {rs : List R} {vs : List V} {k : Nat} {r : R}, RRs c σ ρ H0 rs vs H S → rs[k]? = some r → ∃ v, vs[k]? = some v ∧ RR c σ ρ H0 r v H S
  | [], _, _, _, _, e => by simp at e
  | _ :: _, [], _, _, h, _ => h.elim
  | _ :: _, v :: _, 0, _, h, e => by simp at e; subst e; exact ⟨v, rfl, h.1⟩
  | _ :: _, _ :: _, k + 1, r, h, e => by
    obtain ⟨v, e2, q⟩ := RRs.get (k := k) h.2 (by simpa using e)
    exact ⟨v, by simpa using e2, q⟩
theorem RRs.len : ∀ {rs : List R} {vs : List V}, RRs c σ ρ H0 rs vs H S → rs.length = vs.length
  | [], [], _ => rfl
  | _ :: _, _ :: _, h => congrArg Nat.succ (RRs.len h.2)
  | [], _ :: _, h => h.elim
  | _ :: _, [], h => h.elim
theorem argsC_len : ∀ {rs : List R} {k : Nat} {cs : List C}, argsC rf ρ k rs = some cs → cs.length = rs.length
  | [], _, _, e => by cases e; rfl
  | r :: rs, k, cs, e => by
    unfold argsC at e
    obtain ⟨x, _, e2⟩ := Option.bind_eq_some_iff.mp e
    obtain ⟨xs, e3, rfl⟩ := Option.map_eq_some_iff.mp e2
    rw [List.length_cons, List.length_cons, argsC_len e3]
theorem argsC_get : ∀ {rs : List R} {k0 : Nat} {cs : List C} {k : Nat} {x : C}, argsC rf ρ k0 rs = some cs → cs[k]? = some x →
    ∃ r, rs[k]? = some r ∧ ((rf = some (k0 + k) ∧ ∃ i o, r = .slot i ∧ ρ[i]? = some (some (.own o)) ∧ x = .own o) ∨ (rf ≠ some (k0 + k) ∧ ∃ d, kd ρ r = some d ∧ x = .dat d))
  | [], _, _, _, _, e, h => by cases e; simp at h
  | r :: rs, k0, cs, k, x, e, h => by
    unfold argsC at e
    obtain ⟨y, e1, e2⟩ := Option.bind_eq_some_iff.mp e
    obtain ⟨xs, e3, rfl⟩ := Option.map_eq_some_iff.mp e2
    cases k with
    | zero =>
      simp at h
      subst h
      refine ⟨r, rfl, ?_⟩
      split at e1
      · rename_i hk
        left
        refine ⟨hk, ?_⟩
        split at e1
        · rename_i i
          split at e1
          · rename_i o eo
            cases e1
            exact ⟨i, o, rfl, eo, rfl⟩
          · cases e1
        · cases e1
      · rename_i hk
        right
        obtain ⟨d, e4, rfl⟩ := Option.map_eq_some_iff.mp e1
        exact ⟨hk, d, e4, rfl⟩
    | succ k =>
      obtain ⟨r', e4, e5⟩ := argsC_get (k := k) e3 (by simpa using h)
      refine ⟨r', by simpa using e4, ?_⟩
      rw [show k0 + (k + 1) = k0 + 1 + k by omega]
      exact e5
theorem slot_mem {i : Nat} (l : livC ρ i) : ∀ {rs : List R} {k : Nat}, rs[k]? = some (.slot i) → i ∈ slotsC ρ rs
  | [], _, e => by simp at e
  | r :: rs, 0, e => by
    simp at e
    subst e
    obtain ⟨x, o, e1, e2⟩ := l
    unfold slotsC
    rw [e1]
    cases x with
    | dat d => cases e2
    | own o => exact List.mem_cons_self
    | pin o => exact List.mem_cons_self
  | r :: rs, k + 1, e => by
    have ih := slot_mem l (rs := rs) (k := k) (by simpa using e)
    unfold slotsC
    split
    · rename_i e'; cases e'
    · rename_i e'; cases e'; split <;> first | exact List.mem_cons_of_mem _ ih | exact ih
    · rename_i e'; cases e'; exact ih
theorem slot_two {i : Nat} (l : livC ρ i) : ∀ {rs : List R} {k m : Nat}, (slotsC ρ rs).Nodup → rs[k]? = some (.slot i) → rs[m]? = some (.slot i) → k = m
  | [], _, _, _, e, _ => by simp at e
  | r :: rs, 0, 0, _, _, _ => rfl
  | r :: rs, 0, m + 1, n, e1, e2 => by
    simp at e1
    subst e1
    have ih := slot_mem l (rs := rs) (k := m) (by simpa using e2)
    obtain ⟨x, o, e1, e2⟩ := l
    unfold slotsC at n
    rw [e1] at n
    cases x with
    | dat d => cases e2
    | own o => exact absurd ih (List.nodup_cons.mp n).1
    | pin o => exact absurd ih (List.nodup_cons.mp n).1
  | r :: rs, k + 1, 0, n, e1, e2 => by
    simp at e2
    subst e2
    have ih := slot_mem l (rs := rs) (k := k) (by simpa using e1)
    obtain ⟨x, o, e1, e2⟩ := l
    unfold slotsC at n
    rw [e1] at n
    cases x with
    | dat d => cases e2
    | own o => exact absurd ih (List.nodup_cons.mp n).1
    | pin o => exact absurd ih (List.nodup_cons.mp n).1
  | r :: rs, k + 1, m + 1, n, e1, e2 => by
    have n' : (slotsC ρ rs).Nodup := by
      unfold slotsC at n
      split at n
      · rename_i e'; cases e'
      · rename_i e'; cases e'; split at n <;> first | exact (List.nodup_cons.mp n).2 | exact n
      · rename_i e'; cases e'; exact n
    exact congrArg Nat.succ (slot_two l n' (by simpa using e1) (by simpa using e2))
/-- the places that the call holds fixed: those of objects that are handed in to be read -/
def Sc (rf : Rf) (ρ : Env) (S : Addr → Prop) (rs : List R) (vs : List V) (a : Addr) : Prop := S a ∨ ∃ k r, rs[k]? = some r ∧ rf ≠ some k ∧ vs[k]? = some (.ref a) ∧ hot ρ r
theorem args_ok (p : Rep c σ H S ρ) (rr : RRs c σ ρ H0 rs vs H S) (e : argsC rf ρ 0 rs = some cs) (n : (slotsC ρ rs).Nodup) : Rep c (vs.map some) H (Sc rf ρ S rs vs) (cs.map some) ∧ modes rf cs := by
  have hl := rr.len
  have hc := argsC_len e
  have up : ∀ {i : Nat} {x : C}, (cs.map some)[i]? = some (some x) ↔ cs[i]? = some x := by intros; simp
  have upv : ∀ {i : Nat} {x : V}, (vs.map some)[i]? = some (some x) ↔ vs[i]? = some x := by intros; simp
  have md : modes rf cs := fun k x h => by
    obtain ⟨r, _, h | h⟩ := argsC_get e h
    · rw [Nat.zero_add] at h
      obtain ⟨h1, i, o, _, _, rfl⟩ := h
      rw [if_pos h1]; rfl
    · rw [Nat.zero_add] at h
      obtain ⟨h1, d, _, rfl⟩ := h
      rw [if_neg h1]; rfl
  -- an owned argument
  have ow : ∀ {k : Nat} {x : C} {o : Ob}, cs[k]? = some x → x.ob = some o → ∃ i a, rf = some k ∧ rs[k]? = some (.slot i) ∧ ρ[i]? = some (some (.own o)) ∧ σ[i]? = some (some (.ref a)) ∧ vs[k]? = some (.ref a) ∧ ObRp c H S a o ∧ ¬ S a := fun {k x o} h f => by
    obtain ⟨r, er, h | h⟩ := argsC_get e h
    · rw [Nat.zero_add] at h
      obtain ⟨h1, i, o', rfl, eo, rfl⟩ := h
      cases f
      obtain ⟨v, ev, q⟩ := rr.get er
      have q : σ[i]? = some (some v) := q
      obtain ⟨a, ea, ho, hn⟩ := p.liv i _ _ eo rfl
      rw [q] at ea; cases ea
      exact ⟨i, a, h1, er, eo, q, ev, ho, hn⟩
    · obtain ⟨_, d, _, rfl⟩ := h
      cases f
  have nin : ∀ {k i : Nat} {a : Addr} {o : Ob}, rf = some k → rs[k]? = some (.slot i) → ρ[i]? = some (some (.own o)) → σ[i]? = some (some (.ref a)) → ¬ S a → ¬ Sc rf ρ S rs vs a := fun {k i a o} h1 er eo q hn z => by
    rcases z with z | ⟨m, r, er', hm, ev, hh⟩
    · exact hn z
    · obtain ⟨v, ev', q'⟩ := rr.get er'
      rw [ev] at ev'; cases ev'
      cases r with
      | dat d => exact hh
      | own o' =>
        obtain ⟨b, eb, _, _, h4, _⟩ := q'
        cases eb
        exact h4 ⟨i, _, o, eo, rfl, q⟩
      | slot j =>
        obtain ⟨x, o', ex, eo'⟩ := hh
        have q' : σ[j]? = some (some (.ref a)) := q'
        have : i = j := p.dis i j _ x o o' a eo rfl ex eo' q q'
        subst this
        have := slot_two ⟨_, o, eo, rfl⟩ n er er'
        rw [this] at h1
        exact hm h1
  refine ⟨⟨by simp [hl, hc], fun k d h => ?_, fun k x o h f => ?_, fun k m x y o o' a h1 h2 h3 h4 h5 h6 => ?_, fun a z => ?_, p.tabs⟩, md⟩
  · obtain ⟨r, er, h | h⟩ := argsC_get e (up.mp h)
    · obtain ⟨_, i, o, _, _, z⟩ := h; cases z
    · rw [Nat.zero_add] at h
      obtain ⟨h1, d', ed, z⟩ := h
      cases z
      obtain ⟨v, ev, q⟩ := rr.get er
      refine ⟨v, upv.mpr ev, ?_⟩
      have sub : ∀ a, S a → Sc rf ρ S rs vs a := fun _ z => .inl z
      cases r with
      | dat d2 => cases ed; exact Rp.more sub q
      | own o =>
        obtain ⟨a, rfl, h2, _⟩ := q
        exact (h2.more sub).frz ed (.inr ⟨k, _, er, h1, ev, trivial⟩)
      | slot i =>
        have q : σ[i]? = some (some v) := q
        have go : ∀ {x : C} {o : Ob}, ρ[i]? = some (some x) → x.ob = some o → o.toD = some d → Rp c.K H (Sc rf ρ S rs vs) v d := fun {x o} e1 e2 e3 => by
          obtain ⟨a, e4, h2, _⟩ := p.liv i x o e1 e2
          rw [q] at e4; cases e4
          exact (h2.more sub).frz e3 (.inr ⟨k, _, er, h1, ev, x, o, e1, e2⟩)
        unfold kd at ed
        dsimp only at ed
        split at ed
        · rename_i d2 e1
          cases ed
          obtain ⟨w, e2, h2⟩ := p.dat i _ e1
          rw [q] at e2; cases e2
          exact Rp.more sub h2
        · rename_i o e1; exact go e1 rfl ed
        · rename_i o e1; exact go e1 rfl ed
        · cases ed
  · obtain ⟨i, a, h1, er, eo, q, ev, ho, hn⟩ := ow (up.mp h) f
    exact ⟨a, upv.mpr ev, ho.more fun _ z => .inl z, nin h1 er eo q hn⟩
  · obtain ⟨_, _, f1, _⟩ := ow (up.mp h1) h2
    obtain ⟨_, _, f2, _⟩ := ow (up.mp h3) h4
    rw [f1] at f2
    exact Option.some.inj f2
  · rcases z with z | ⟨m, r, er', hm, ev, hh⟩
    · exact p.live a z
    · obtain ⟨v, ev', q'⟩ := rr.get er'
      rw [ev] at ev'; cases ev'
      cases r with
      | dat d => exact hh.elim
      | own o' => obtain ⟨b, eb, h2, _⟩ := q'; cases eb; exact h2.mut
      | slot j =>
        obtain ⟨x, o', ex, eo'⟩ := hh
        have q' : σ[j]? = some (some (.ref a)) := q'
        obtain ⟨b, eb, h2, _⟩ := p.liv j x o' ex eo'
        rw [q'] at eb; cases eb; exact h2.mut
/-- the caller's state behind a call -/
structure Back (c : Cn) (σ : Sl) (ρs : Env) (Ss : Addr → Prop) (Hs : Hp) (ρ' : Env) (H' : Hp) (S' : Addr → Prop) : Prop where
  p : Rep c σ H' S' ρ'
  q : Stq [] σ ρs Ss Hs σ ρ' S' H'
theorem putOb_get {ob : Option Ob} {i : Nat} {x : C} (h : (putOb rf rs ob ρ)[i]? = some (some x)) : ρ[i]? = some (some x) ∨ ∃ k o, rf = some k ∧ ob = some o ∧ rs[k]? = some (.slot i) ∧ x = .own o := by
  unfold putOb at h
  split at h
  · rename_i k o
    split at h
    · rename_i j e
      rcases set_get h with ⟨rfl, h, _⟩ | ⟨_, h⟩
      · cases h; exact .inr ⟨k, o, rfl, rfl, e, rfl⟩
      · exact .inl h
    · exact .inl h
  · exact .inl h
theorem putOb_len {ob : Option Ob} : (putOb rf rs ob ρ).length = ρ.length := by
  unfold putOb
  split
  · split
    · rw [List.length_set]
    · rfl
  · rfl
theorem back_ok {ρs : Env} {Ss : Addr → Prop} {Hs : Hp} {ob : Option Ob} (q : Stq [] σ ρs Ss Hs σ ρ S H) (p : Rep c σ H S ρ) (rr : RRs c σ ρ Hs rs vs H S) (e : argsC rf ρ 0 rs = some cs) (n : (slotsC ρ rs).Nodup) (A : After c rf vs H (Sc rf ρ S rs vs) ob H' S') :
    ((slotsC ρ rs).length ≤ (if rf.isSome then 1 else 0) → Back c σ ρs Ss Hs (putOb rf rs ob ρ) H' S' ∧ ∀ r v, RC c H r v H' S' → RR c σ (putOb rf rs ob ρ) Hs r v H' S') ∧
    (immO ob = true → Back c σ ρs Ss Hs (putOb rf rs ob ρ) H' S ∧ ∀ r v, immR r = true → RC c H r v H' S' → RR c σ (putOb rf rs ob ρ) Hs r v H' S) := by
  -- the changed argument's slot
  have rfS : ∀ {k o}, rf = some k → ob = some o → ∃ i a oi, rs[k]? = some (.slot i) ∧ ρ[i]? = some (some (.own oi)) ∧ σ[i]? = some (some (.ref a)) ∧ vs[k]? = some (.ref a) ∧ ObRp c H' S' a o ∧ ¬ S' a ∧ ¬ S a := fun {k o} h1 h2 => by
    obtain ⟨a, o', ev, eo, hb, hn⟩ := A.rf k h1
    rw [h2] at eo; cases eo
    have lk : k < rs.length := by rw [rr.len]; exact (List.getElem?_eq_some_iff.mp ev).1
    have lc : k < cs.length := by rw [argsC_len e]; exact lk
    obtain ⟨r, er, h | h⟩ := argsC_get e (List.getElem?_eq_getElem lc)
    · obtain ⟨_, i, oi, rfl, ei, _⟩ := h
      obtain ⟨v, ev', qv⟩ := rr.get er
      rw [ev] at ev'; cases ev'
      have qv : σ[i]? = some (some (.ref a)) := qv
      obtain ⟨b, eb, _, nb⟩ := p.liv i _ _ ei rfl
      rw [qv] at eb; cases eb
      exact ⟨i, a, oi, er, ei, qv, ev, hb, hn, nb⟩
    · rw [Nat.zero_add] at h; exact absurd h1 h.1
  have notRf : ∀ {b}, ¬ OwnA σ ρ b → ∀ k, rf = some k → vs[k]? ≠ some (.ref b) := fun {b} h k h1 h2 => by
    obtain ⟨a, o', ev, eo, _, _⟩ := A.rf k h1
    obtain ⟨i, a', oi, _, ei, es, ev', _⟩ := rfS h1 eo
    rw [h2] at ev'; cases ev'
    exact h ⟨i, oi, ei, es⟩
  have keep : ∀ b o, H b = some o → (Sc rf ρ S rs vs b ∧ mutK o) ∨ fixK o → H' b = some o := fun b o eb hb => by
    obtain ⟨o', e', g⟩ := A.st b o eb
    rw [GrO.eq (g fun k h1 h2 => ?_) (hb.imp (fun z => z.2) id)] at e'
    · exact e'
    · obtain ⟨a, o2, ev, eo, _, na⟩ := A.rf k h1
      rw [h2] at ev; cases ev
      rcases hb with ⟨z, _⟩ | z
      · exact na (A.s1 _ z)
      · obtain ⟨i, a', oi, _, ei, es, ev', _⟩ := rfS h1 eo
        rw [h2] at ev'; cases ev'
        obtain ⟨u, eu, mu⟩ := p.ownAt ⟨i, oi, ei, es⟩
        rw [eb] at eu; cases eu
        cases o <;> first | exact z | exact mu
  have keepS : ∀ b o, H b = some o → (S b ∧ mutK o) ∨ fixK o → H' b = some o := fun b o eb hb => keep b o eb (hb.imp (fun z => ⟨.inl z.1, z.2⟩) id)
  -- a slot's object that isn't the changed one
  have other : ∀ {i x o}, ρ[i]? = some (some x) → x.ob = some o → (∀ k, rf = some k → rs[k]? = some (.slot i) → ob = none) → ∃ a, σ[i]? = some (some (.ref a)) ∧ (∀ u, H a = some u → mutK u → H' a = some u) ∧ ObRp c H S a o ∧ ¬ S a := fun {i x o} e1 e2 hn => by
    obtain ⟨a, ea, hb, na⟩ := p.liv i x o e1 e2
    refine ⟨a, ea, fun u eu mu => ?_, hb, na⟩
    obtain ⟨o', e', g⟩ := A.st a u eu
    rw [GrO.eq (g fun k h1 h2 => ?_) (.inl mu)] at e'
    · exact e'
    · obtain ⟨b, o2, ev, eo, _, _⟩ := A.rf k h1
      obtain ⟨j, a', oj, er, ej, es, ev', _⟩ := rfS h1 eo
      rw [h2] at ev'; cases ev'
      have : j = i := p.dis j i _ x oj o a ej rfl e1 e2 es ea
      subst this
      rw [hn k h1 er] at eo; cases eo
  have gone : ∀ {a}, H' a = none → Hs a = none := fun {a} z => by
    have : H a = none := by
      cases eh : H a with
      | none => rfl
      | some o => obtain ⟨o', e', _⟩ := A.st a o eh; rw [z] at e'; cases e'
    exact q.gone this
  have ownP : ∀ {a}, OwnA σ (putOb rf rs ob ρ) a → OwnA σ ρ a := fun {a} ⟨i, o, e1, e2⟩ => by
    rcases putOb_get e1 with h | ⟨k, o', h1, h2, h3, _⟩
    · exact ⟨i, o, h, e2⟩
    · obtain ⟨j, b, oj, er, ej, es, _⟩ := rfS h1 h2
      rw [h3] at er; cases er
      exact ⟨i, oj, ej, e2⟩
  have livP : ∀ {a}, LivA σ (putOb rf rs ob ρ) a → LivA σ ρ a := fun {a} ⟨i, x, o, e1, e2, e3⟩ => by
    rcases putOb_get e1 with h | ⟨k, o', h1, h2, h3, _⟩
    · exact ⟨i, x, o, h, e2, e3⟩
    · obtain ⟨j, b, oj, er, ej, es, _⟩ := rfS h1 h2
      rw [h3] at er; cases er
      exact ⟨i, _, oj, ej, rfl, e3⟩
  have pinP : ∀ {i : Nat} {o : Ob}, (putOb rf rs ob ρ)[i]? = some (some (.pin o)) → ρ[i]? = some (some (.pin o)) := fun {i o} h => by
    rcases putOb_get h with h | ⟨k, o', _, _, _, z⟩
    · exact h
    · cases z
  have hget : ∀ {i k : Nat} {o' : Ob}, rf = some k → rs[k]? = some (.slot i) → ob = some o' → (putOb rf rs ob ρ)[i]? = some (some (.own o')) := fun {i k o'} h1 h3 h2 => by
    obtain ⟨j, b, oj, er, ej, _⟩ := rfS h1 h2
    rw [h3] at er; cases er
    unfold putOb
    rw [h1, h2]
    dsimp only
    rw [h3]
    dsimp only
    exact List.getElem?_set_self (List.getElem?_eq_some_iff.mp ej).1
  have disP : ∀ (i j : Nat) x y o o' a, (putOb rf rs ob ρ)[i]? = some (some x) → x.ob = some o → (putOb rf rs ob ρ)[j]? = some (some y) → y.ob = some o' → σ[i]? = some (some (.ref a)) → σ[j]? = some (some (.ref a)) → i = j := fun i j x y o o' a h1 h2 h3 h4 h5 h6 => by
    have up : ∀ {i : Nat} {x : C} {o : Ob}, (putOb rf rs ob ρ)[i]? = some (some x) → x.ob = some o → ∃ (y : C) (o' : Ob), ρ[i]? = some (some y) ∧ y.ob = some o' := fun {i x o} h f => by
      rcases putOb_get h with h | ⟨k, o', g1, g2, g3, _⟩
      · exact ⟨x, o, h, f⟩
      · obtain ⟨j, b, oj, er, ej, es, _⟩ := rfS g1 g2
        rw [g3] at er; cases er
        exact ⟨_, oj, ej, rfl⟩
    obtain ⟨x', o1, f1, f2⟩ := up h1 h2
    obtain ⟨y', o2, f3, f4⟩ := up h3 h4
    exact p.dis i j x' y' o1 o2 a f1 f2 f3 f4 h5 h6
  have stP : ∀ b o, Hs b = some o → ∃ o', H' b = some o' ∧ (¬ OwnA σ ρs b → GrO o o') := fun b o eb => by
    obtain ⟨o1, e1, g1⟩ := q.st b o eb
    obtain ⟨o2, e2, g2⟩ := A.st b o1 e1
    refine ⟨o2, e2, fun nb => (g1 nb).trans (g2 (notRf fun z => ?_))⟩
    rcases q.ow b z with z | z
    · exact nb z
    · rw [eb] at z; cases z
  have freshR : ∀ {a}, H a = none → ¬ LivA σ (putOb rf rs ob ρ) a ∧ Hs a = none ∧ ¬ S a := fun {a} z => by
    refine ⟨fun l => ?_, q.gone z, fun l => ?_⟩
    · obtain ⟨u, eu, _⟩ := p.livAt (livP l)
      rw [z] at eu; cases eu
    · obtain ⟨u, eu, _⟩ := p.live a l
      rw [z] at eu; cases eu
  have pfP : ∀ (i : Nat) o', (putOb rf rs ob ρ)[i]? = some (some (.pin o')) → ∃ o, ρs[i]? = some (some (.pin o)) ∧ σ[i]? = σ[i]? := fun i o' h => q.pf i o' (pinP h)
  refine ⟨fun hl => ?_, fun hi => ?_⟩
  · -- no object of a slot is handed in to be read
    have hot0 : ∀ {a}, Sc rf ρ S rs vs a → S a ∨ (Hs a = none ∧ ¬ LivA σ ρ a) := fun {a} z => by
      rcases z with z | ⟨k, r, er, hk, ev, hh⟩
      · exact .inl z
      · obtain ⟨v, ev', qv⟩ := rr.get er
        rw [ev] at ev'; cases ev'
        cases r with
        | dat d => exact hh.elim
        | own o => obtain ⟨b, eb, _, _, h4, h5⟩ := qv; cases eb; exact .inr ⟨h5, h4⟩
        | slot i =>
          have mi := slot_mem hh er
          cases hrf : rf with
          | none =>
            rw [hrf] at hl
            simp at hl
            rw [hl] at mi; cases mi
          | some m =>
            obtain ⟨b, o2, ev2, eo, _, _⟩ := A.rf m hrf
            obtain ⟨j, a', oj, erj, ej, es, _⟩ := rfS hrf eo
            have mj := slot_mem (rs := rs) ⟨_, oj, ej, rfl⟩ erj
            rw [hrf] at hl
            have hij : i = j := by
              have hl : (slotsC ρ rs).length ≤ 1 := by simpa using hl
              match hs : slotsC ρ rs, hl with
              | [], _ => rw [hs] at mi; cases mi
              | [y], _ =>
                rw [hs] at mi mj
                rw [List.mem_singleton.mp mi, List.mem_singleton.mp mj]
              | _ :: _ :: _, h => simp at h
            subst hij
            have := slot_two hh n er erj
            rw [this] at hk
            exact absurd hrf hk
    have sub : ∀ a, S a → S' a := fun a z => A.s1 a (.inl z)
    have nlive : ∀ {a}, LivA σ ρ a → (∀ k, rf = some k → vs[k]? ≠ some (.ref a)) → ¬ S' a := fun {a} l _ z => by
      rcases A.s2 a z with z | z
      · rcases hot0 z with z | ⟨_, z⟩
        · exact p.nL l z
        · exact z l
      · obtain ⟨u, eu, _⟩ := p.livAt l
        rw [z] at eu; cases eu
    refine ⟨⟨⟨by rw [putOb_len]; exact p.len, fun i d h => ?_, fun i x o h f => ?_, disP, A.live, A.tabs⟩, ⟨stP, fun a z => sub a (q.s1 a z), fun a z => ?_, fun a z => q.ow a (ownP z), fun a z => q.lv a (livP z), pfP, fun _ _ => rfl⟩⟩, fun r v k => ?_⟩
    · rcases putOb_get h with h | ⟨k, o', _, _, _, z⟩
      · obtain ⟨v, ev, w⟩ := p.dat i d h
        exact ⟨v, ev, w.keep keepS sub⟩
      · cases z
    · by_cases ht : ∃ k o', rf = some k ∧ rs[k]? = some (.slot i) ∧ ob = some o'
      · obtain ⟨k, o', h1, h3, h2⟩ := ht
        obtain ⟨j, b, oj, er, ej, es, ev, hb, nb, _⟩ := rfS h1 h2
        rw [h3] at er; cases er
        rw [hget h1 h3 h2] at h
        cases h
        cases f
        exact ⟨b, es, hb, nb⟩
      · rcases putOb_get h with h | ⟨k, o', h1, h2, h3, _⟩
        · obtain ⟨a, ea, k1, k2, k3⟩ := other h f (fun k h1 h3 => by
            cases eo : ob with
            | none => rfl
            | some o' => exact absurd ⟨k, o', h1, h3, eo⟩ ht)
          exact ⟨a, ea, k2.keep keepS sub k1, nlive ⟨i, x, o, h, f, ea⟩ fun k h1 h2 => by
            obtain ⟨b, o2, ev2, eo, _, _⟩ := A.rf k h1
            obtain ⟨j, a', oj, erj, ej, es, ev', _⟩ := rfS h1 eo
            rw [h2] at ev'; cases ev'
            have : j = i := p.dis j i _ x oj o a ej rfl h f es ea
            subst this
            exact ht ⟨k, o2, h1, erj, eo⟩⟩
        · exact absurd ⟨k, o', h1, h3, h2⟩ ht
    · rcases A.s2 a z with z | z
      · rcases hot0 z with z | ⟨z, _⟩
        · exact q.s2 a z
        · exact .inr (.inl z)
      · exact .inr (.inl (q.gone z))
    · cases r with
      | dat d => exact k
      | own o =>
        obtain ⟨a, rfl, h1, h2, h3⟩ := k
        obtain ⟨f1, f2, _⟩ := freshR h3
        exact ⟨a, rfl, h1, h2, f1, f2⟩
      | slot i => exact k.elim
  · refine ⟨⟨⟨by rw [putOb_len]; exact p.len, fun i d h => ?_, fun i x o h f => ?_, disP, fun a z => ?_, A.tabs⟩, ⟨stP, q.s1, fun a z => q.s2 a z, fun a z => q.ow a (ownP z), fun a z => q.lv a (livP z), pfP, fun _ _ => rfl⟩⟩, fun r v hr k => ?_⟩
    · rcases putOb_get h with h | ⟨k, o', _, _, _, z⟩
      · obtain ⟨v, ev, w⟩ := p.dat i d h
        exact ⟨v, ev, w.keep keepS fun _ z => z⟩
      · cases z
    · by_cases ht : ∃ k o', rf = some k ∧ rs[k]? = some (.slot i) ∧ ob = some o'
      · obtain ⟨k, o', h1, h3, h2⟩ := ht
        obtain ⟨j, b, oj, er, ej, es, ev, hb, nb, nb2⟩ := rfS h1 h2
        rw [h3] at er; cases er
        rw [hget h1 h3 h2] at h
        cases h
        cases f
        rw [h2] at hi
        exact ⟨b, es, hb.imm hi, nb2⟩
      · rcases putOb_get h with h | ⟨k, o', h1, h2, h3, _⟩
        · obtain ⟨a, ea, k1, k2, k3⟩ := other h f (fun k h1 h3 => by
            cases eo : ob with
            | none => rfl
            | some o' => exact absurd ⟨k, o', h1, h3, eo⟩ ht)
          exact ⟨a, ea, k2.keep keepS (fun _ z => z) k1, k3⟩
        · exact absurd ⟨k, o', h1, h3, h2⟩ ht
    · obtain ⟨u, eu, m⟩ := p.live a z
      exact ⟨u, keepS a u eu (.inl ⟨z, m⟩), m⟩
    · cases r with
      | dat d => exact Rp.imm k hr
      | own o =>
        obtain ⟨a, rfl, h1, h2, h3⟩ := k
        obtain ⟨f1, f2, f3⟩ := freshR h3
        exact ⟨a, rfl, h1.imm hr, f3, f1, f2⟩
      | slot i => exact k.elim
end
end Vm
/-! ### calls that raise nothing; defs by their bodies -/
namespace Vm
open PySem PySem.Spec PyProof.Rows L2 Ky
abbrev W0 : WX := fun _ _ _ _ => False
/-- no error comes of it -/
def okF (f : Fn) : Fn := fun cs => (f cs).bind fun q => match q.1 with
  | .ok _ => some q
  | .error _ => none
def permR (perm : List Nat) (fr : M (List R)) : M (List R) := fr.bind fun rs => M.pure (permL perm rs)
def fnN (n m : Nat) (rf : Rf) (g : XS) : Fn := fun cs => if cs.length = n then fnOf m rf g cs else none
/-- a def that raises nothing -/
def fnP (n m : Nat) (rf : Rf) (g : XS) : Fn := okF (fnN n m rf g)
theorem okF_ok {f : Fn} {cs : List C} {res : Except Ex R} {ob : Option Ob} (h : okF f cs = some (res, ob)) : f cs = some (res, ob) ∧ ∃ r, res = .ok r := by
  obtain ⟨q, e1, e2⟩ := Option.bind_eq_some_iff.mp h
  split at e2
  · rename_i r er
    cases e2
    exact ⟨e1, r, er⟩
  · cases e2
theorem fnN_len {n m : Nat} {rf : Rf} {g : XS} {cs : List C} {q : Except Ex R × Option Ob} (h : fnN n m rf g cs = some q) : cs.length = n ∧ fnOf m rf g cs = some q := by
  unfold fnN at h
  split at h
  · exact ⟨by assumption, h⟩
  · cases h
theorem fnP_ok {n m : Nat} {rf : Rf} {g : XS} {cs : List C} {res : Except Ex R} {ob : Option Ob} (h : fnP n m rf g cs = some (res, ob)) : cs.length = n ∧ fnOf m rf g cs = some (res, ob) ∧ ∃ r, res = .ok r := by
  obtain ⟨h1, h2⟩ := okF_ok h
  obtain ⟨h3, h4⟩ := fnN_len h1
  exact ⟨h3, h4, h2⟩
theorem callK_some {rf : Rf} {f : Fn} {rs : List R} {ρ ρ' : Env} {res : Except Ex R} (e : callK rf f rs ρ = some (res, ρ')) :
    ∃ cs ob, argsC rf ρ 0 rs = some cs ∧ f cs = some (res, ob) ∧ ρ' = putOb rf rs ob ρ ∧ (slotsC ρ rs).Nodup ∧ ((slotsC ρ rs).length ≤ (if rf.isSome then 1 else 0) ∨ (immX res && immO ob) = true) := by
  obtain ⟨cs, e1, e2⟩ := Option.bind_eq_some_iff.mp e
  obtain ⟨⟨res', ob⟩, e3, e4⟩ := Option.bind_eq_some_iff.mp e2
  have e4 : (if (slotsC ρ rs).Nodup ∧ ((slotsC ρ rs).length ≤ (if rf.isSome then 1 else 0) ∨ (immX res' && immO ob) = true) then some (res', putOb rf rs ob ρ) else none) = some (res, ρ') := e4
  by_cases hc : (slotsC ρ rs).Nodup ∧ ((slotsC ρ rs).length ≤ (if rf.isSome then 1 else 0) ∨ (immX res' && immO ob) = true)
  · rw [if_pos hc] at e4
    cases e4
    exact ⟨cs, ob, e1, e3, rfl, hc.1, hc.2⟩
  · rw [if_neg hc] at e4; cases e4
section
variable {X : Cx} {c : Cn} {W : WX} {rf : Rf} {f : Fn} {n m : Nat} {g : XS}
theorem Vt.callK {E : Sl → XK} (hE : ∀ σ C d H, W C d σ H → E σ C d H) {σ : Sl} {Hs H : Hp} {Ss S : Addr → Prop} {ρs ρ ρ' : Env} {rs : List R} {vs : List V} {res : Except Ex R} {Q : VK} (hn : ∀ cs res ob, f cs = some (res, ob) → cs.length = n) (q : Stq [] σ ρs Ss Hs σ ρ S H) (p : Rep c σ H S ρ) (rr : RRs c σ ρ Hs rs vs H S)
    (e : Vm.callK rf f rs ρ = some (res, ρ')) (G : GoodE c W σ Hs Ss ρs (RR c σ ρ' Hs) res ρ' Q) : spV c n rf f vs H Q (E σ) := by
  obtain ⟨cs, ob, e1, e3, rfl, hc1, hc2⟩ := callK_some e
  obtain ⟨p', md⟩ := args_ok p rr e1 hc1
  refine ⟨_, cs, res, ob, ?_, md, p', e3, ?_⟩
  · rw [← rr.len, ← argsC_len e1]; exact hn cs res ob e3
  · have fin : ∀ H' S', After c rf vs H (Sc rf ρ S rs vs) ob H' S' → (∃ S2, Back c σ ρs Ss Hs (putOb rf rs ob ρ) H' S2 ∧ (∀ r v, res = .ok r → RC c H r v H' S' → RR c σ (putOb rf rs ob ρ) Hs r v H' S2) ∧ (∀ x v, res = .error x → Rp c.K H' S' v x.val → Rp c.K H' S2 v x.val)) := fun H' S' A => by
      obtain ⟨b1, b2⟩ := back_ok q p rr e1 hc1 A
      rcases hc2 with h | h
      · obtain ⟨b, k⟩ := b1 h
        exact ⟨S', b, fun r v _ z => k r v z, fun x v _ z => z⟩
      · obtain ⟨h1, h2⟩ := Bool.and_eq_true_iff.mp h
        obtain ⟨b, k⟩ := b2 h2
        refine ⟨S, b, fun r v er z => k r v ?_ z, fun x v er z => Rp.imm z ?_⟩
        · rw [er] at h1; exact h1
        · rw [er] at h1; exact h1
    cases res with
    | ok r =>
      intro v H' S' A k
      obtain ⟨S2, b, k1, _⟩ := fin H' S' A
      exact G v H' S2 b.p b.q (k1 r v rfl k)
    | error x =>
      intro C d H' S' v m1 m2 m3 A
      obtain ⟨S2, b, _, k2⟩ := fin H' S' A
      exact hE _ _ _ _ (G C d H' S2 v m1 m2 (k2 x v rfl m3) b.p b.q)
/-- a call that raises nothing -/
theorem Vt.callP {t : TA} {fr : M (List R)} (va : VAt c W t fr) : VEt c W (tCall (spV c n rf (fnP n m rf g)) [] E0 t) (xCall rf (fnP n m rf g) fr) := by
  refine Vt.bind (rel1 := RRs c) (rel2 := RR c) (k := fun vs _ H1 Q => spV c n rf (fnP n m rf g) (vs ++ []) H1 Q E0) va ?_
  intro σ Hs Ss ρs H S ρ rs vs res ρ' Q q p rr e G
  rw [List.append_nil]
  obtain ⟨cs, ob, _, e3, _⟩ := callK_some e
  obtain ⟨_, _, r, rfl⟩ := fnP_ok e3
  exact Vt.callK (W := W0) (E := fun _ => E0) (fun _ _ _ _ z => z) (fun cs res ob h => (fnP_ok h).1) q p rr e G
theorem VE.call {k j : Nat} {x : Str} {st : Stmt} {ps : List Str} {p pos : Pos} {e : Expr} {es : List Expr} {t : TA} {fr : M (List R)} (cl : CalD X.prog X.w X.K X.mg X.base k x st ps (spV c n rf (fnP n m rf g))) (hr : Room j X.A) (hk : k ≤ j) (hg : Gl X x) (ha : VA X c W (e :: es) t fr)
    (hdb : (x == ("__debug__" : Str)) = false := by decide) (he : starEach (e :: es) X.env = (false, eval e X.env) :: starEach es X.env := by rfl) (hpl : (backTo pos (starEach es X.env)).any (·.1) = false := by rfl) :
    VE X c W (.Call (.Name x p) (e :: es) [] pos) (tCall (spV c n rf (fnP n m rf g)) [] E0 t) (xCall rf (fnP n m rf g) fr) := ⟨pe_f cl hr hk hg ha.pe hdb he hpl, Vt.callP ha.vt⟩
theorem VE.callG {k j : Nat} {x : Str} {st : Stmt} {ps : List Str} {p pos : Pos} {e : Expr} {es : List Expr} {t : TA} {fr : M (List R)} (cl : CalG X.prog X.w X.K X.mg X.base k x st ps (spV c n rf (fnP n m rf g))) (noG : X.A.guards = some []) (hr : Room j X.A) (hk : k ≤ j) (hg : Gl X x) (ha : VA X c W (e :: es) t fr)
    (hdb : (x == ("__debug__" : Str)) = false := by decide) (he : starEach (e :: es) X.env = (false, eval e X.env) :: starEach es X.env := by rfl) (hpl : (backTo pos (starEach es X.env)).any (·.1) = false := by rfl) :
    VE X c W (.Call (.Name x p) (e :: es) [] pos) (tCall (spV c n rf (fnP n m rf g)) [] E0 t) (xCall rf (fnP n m rf g) fr) := ⟨pe_g cl noG hr hk hg ha.pe hdb he hpl, Vt.callP ha.vt⟩
structure VKw (X : Cx) (c : Cn) (W : WX) (kws : List Keyword) (t : TA) (f : M (List R)) : Prop where
  pe : PK X kws t
  vt : VAt c W t f
theorem VKw.nil : VKw X c W [] tNil xNil := ⟨pk_nil, VA.nil.vt (X := X)⟩
theorem VAt.cons {ta : TE} {tr : TA} {fa : M R} {fr : M (List R)} (ha : VEt c W ta fa) (hr : VAt c W tr fr) : VAt c W (tCons ta tr) (xCons fa fr) := by
  refine Vt.bind2 (rel1 := RR c) (rel2 := RRs c) (rel3 := RRs c) (k := fun x xs _ H Q => Q (x :: xs) H) (fun h k => RRs.back k h) (fun p q h => RR.step p q h) ha hr ?_
  intro σ Hs Ss ρs H S ρ a x b y res ρ' Q q p ra rb e G
  cases e
  exact G (x :: y) H S p q ⟨ra, rb⟩
theorem VKw.cons {nm : Option Str} {e : Expr} {kpos : Pos} {kws : List Keyword} {ta : TE} {tr : TA} {fa : M R} {fr : M (List R)} (ha : VE X c W e ta fa) (hr : VKw X c W kws tr fr) : VKw X c W (⟨nm, e, kpos⟩ :: kws) (tCons ta tr) (xCons fa fr) :=
  ⟨pk_cons ha.pe hr.pe, VAt.cons ha.vt hr.vt⟩
theorem RRs.perm {σ : Sl} {ρ : Env} {H0 H : Hp} {S : Addr → Prop} {rs : List R} {vs : List V} (h : RRs c σ ρ H0 rs vs H S) : ∀ perm : List Nat, RRs c σ ρ H0 (permL perm rs) (permL perm vs) H S
  | [] => trivial
  | i :: is => by
    unfold permL
    rw [List.filterMap_cons, List.filterMap_cons]
    have ih := RRs.perm h is
    cases e : rs[i]? with
    | none =>
      have : vs[i]? = none := by
        rw [List.getElem?_eq_none_iff] at e ⊢
        rw [← h.len]; exact e
      rw [this]
      exact ih
    | some r =>
      obtain ⟨v, e2, q⟩ := h.get e
      rw [e2]
      exact ⟨q, ih⟩
theorem Vt.callKw {j : Nat} {perm : List Nat} {t : TA} {fr : M (List R)} (hl : ∀ ρ rs ρ', fr ρ = some (.ok rs, ρ') → rs.length = j) (va : VAt c W t fr) : VEt c W (tCallP j perm (spV c n rf (fnP n m rf g)) t) (xCall rf (fnP n m rf g) (permR perm fr)) := by
  intro σ H S ρ res ρ' Q p e G
  have e' : (fr.bind fun rs => Vm.callK rf (fnP n m rf g) (permL perm rs)) ρ = some (res, ρ') := by
    unfold xCall permR M.bind M.pure at e
    unfold M.bind
    cases h : fr ρ with
    | none => rw [h] at e; cases e
    | some q =>
      obtain ⟨r, ρ1⟩ := q
      rw [h] at e
      cases r with
      | ok rs => exact e
      | error x => exact e
  rcases M.bind_some e' with ⟨rs, ρ1, e1, e2⟩ | ⟨x, e1, rfl⟩
  · refine va σ H S ρ (.ok rs) ρ1 _ p e1 fun zs H1 S1 p1 q1 r1 => ?_
    refine ⟨by rw [← r1.len]; exact hl ρ rs ρ1 e1, ?_⟩
    obtain ⟨cs, ob, _, e3, _⟩ := callK_some e2
    obtain ⟨_, _, r, rfl⟩ := fnP_ok e3
    exact Vt.callK (W := W0) (E := fun _ => E0) (fun _ _ _ _ z => z) (fun cs res ob h => (fnP_ok h).1) q1 p1 (r1.perm perm) e2 G
  · exact va σ H S ρ (.error x) ρ' _ p e1 G
theorem xNil_len : ∀ ρ rs ρ', xNil ρ = some (.ok rs, ρ') → rs.length = 0 := fun ρ rs ρ' e => by cases e; rfl
theorem xCons_len {fa : M R} {fr : M (List R)} {j : Nat} (h : ∀ ρ rs ρ', fr ρ = some (.ok rs, ρ') → rs.length = j) : ∀ ρ rs ρ', xCons fa fr ρ = some (.ok rs, ρ') → rs.length = j + 1 := fun ρ rs ρ' e => by
  rcases M.bind_some e with ⟨a, ρ1, e1, e2⟩ | ⟨x, _, z⟩
  · rcases M.bind_some e2 with ⟨rs', ρ2, e3, e4⟩ | ⟨x, _, z⟩
    · cases e4
      rw [List.length_cons, h _ _ _ e3]
    · cases z
  · cases z
theorem VE.callKw {k j : Nat} {x : Str} {st : Stmt} {ps : List Str} {p pos : Pos} {kws : List Keyword} {tk : TA} {fr : M (List R)} (ks : List Str) (perm : List Nat) (cl : CalD X.prog X.w X.K X.mg X.base k x st ps (spV c n rf (fnP n m rf g)))
    (h : ∀ (kV doc pm : Value) (an : Option Addr) (cdv ct : Value) (ws : List Value), ws.length = ks.length → bindArgs (PySem.W.fnOf x x (defArgs st) (defBody st) (defScope st) .none kV doc pm an cdv ct) ⟨[], ks.zip ws⟩ = pure (ps.zip (permL perm ws)))
    (hr : Room j X.A) (hk : k ≤ j) (hg : Gl X x) (hkw : VKw X c W kws tk fr) (hl : ∀ ρ rs ρ', fr ρ = some (.ok rs, ρ') → rs.length = ks.length)
    (hall : (backToKw pos (keywordEach kws X.env)).all (·.1.isSome) = true := by rfl) (hks : (backToKw pos (keywordEach kws X.env)).filterMap (·.1) = ks := by rfl) (hdb : (x == ("__debug__" : Str)) = false := by decide)
    (hpl : ((backTo pos (starEach [] X.env)).any (·.1) || (backToKw pos (keywordEach kws X.env)).any (·.1.isNone)) = false := by rfl) :
    VE X c W (.Call (.Name x p) [] kws pos) (tCallP ks.length perm (spV c n rf (fnP n m rf g)) tk) (xCall rf (fnP n m rf g) (permR perm fr)) :=
  ⟨pe_k0 ks perm h cl hr hk hg hkw.pe hall hks hdb hpl, Vt.callKw hl hkw.vt⟩
end
/-! a def by its body -/
section
variable {P : Program} {w : World} {K : PySem.W.Frag} {mg : Str → Option Value} {base : Heap} {k : Nat} {x : Str} {st : Stmt} {ps N : List Str} {c : Cn} {n m : Nat} {rf : Rf} {g : XS}
theorem body_okP {N : List Str} {t : TS} {vs : List V} {H : Hp} {Q : VK} {E : XK} (hm : N.length = m) (vt : VSt c W0 (fxOf rf) t g) (h : spV c n rf (fnP n m rf g) vs H Q E) : t { nx := fun _ H' => Q .non H', rt := Q } (L2.start N vs) H := by
  obtain ⟨S, cs, res, ob, hn, md, p, e, G⟩ := h
  obtain ⟨_, e1, r, rfl⟩ := fnP_ok e
  exact body_ok (E := fun _ _ _ => False) hm vt (fun _ _ _ _ z => z) ⟨S, cs, .ok r, ob, hn, md, p, e1, G⟩
theorem spV_len {vs : List V} {H : Hp} {Q : VK} {E : XK} {f : Fn} (h : spV c n rf f vs H Q E) : vs.length = n := by obtain ⟨_, _, _, _, h, _⟩ := h; exact h
theorem def_cal (D : Here K mg x st) (F : FnScope N ps (defScope st))
    (hb : ∀ (kV doc pm : Value) (an : Option Addr) (cdv ct : Value) (us : List Value), us.length = ps.length → bindArgs (PySem.W.fnOf x x (defArgs st) (defBody st) (defScope st) .none kV doc pm an cdv ct) ⟨us, []⟩ = pure (ps.zip us))
    (hm : N.length = m) (hn : ps.length = n)
    (body : ∀ (f : Addr) (cdv : Value) (A : Around) (outer : List PySem.Env) (s : Shared) (H : Hp) (E : XK), Room k (A.deeper (envOfC x (defScope st) s.heap.objs.size f cdv)) →
      ∃ t, VSs (cxOf CX0 P w K mg base N x (defScope st) f cdv A outer s H E).nox c W0 (fxOf rf) (defBody st) t g) : CalD P w K mg base (k + 1) x st ps (spV c n rf (fnP n m rf g)) :=
  cal_mk D F hb (fun vs H Q E h => by rw [hn]; exact spV_len h) fun f cdv A outer s H vs Q E hr h =>
    let ⟨t, b⟩ := body f cdv A outer s H E hr
    ⟨t, b.pe, body_okP hm b.vt h⟩
theorem def_calG (D : Here K mg x st) (F : FnScope N ps (defScope st))
    (hb : ∀ (kV doc pm : Value) (an : Option Addr) (cdv ct : Value) (us : List Value), us.length = ps.length → bindArgs (PySem.W.fnOf x x (defArgs st) (defBody st) (defScope st) .none kV doc pm an cdv ct) ⟨us, []⟩ = pure (ps.zip us))
    (hm : N.length = m) (hn : ps.length = n)
    (body : ∀ (f : Addr) (cdv : Value) (A : Around) (outer : List PySem.Env) (s : Shared) (H : Hp) (E : XK), A.guards = some [] → Room k (A.deeper (envOfC x (defScope st) s.heap.objs.size f cdv)) →
      ∃ t, VSs (cxOf CX0 P w K mg base N x (defScope st) f cdv A outer s H E).nox c W0 (fxOf rf) (defBody st) t g) : CalG P w K mg base (k + 1) x st ps (spV c n rf (fnP n m rf g)) :=
  calG_mk D F hb (fun vs H Q E h => by rw [hn]; exact spV_len h) fun f cdv A outer s H vs Q E hgd hr h =>
    let ⟨t, b⟩ := body f cdv A outer s H E hgd hr
    ⟨t, b.pe, body_okP hm b.vt h⟩
theorem def_calT {cA : Addr} (D : HereT K mg x st cA) (F : FnScope N ps (defScope st))
    (hb : ∀ (kV doc pm : Value) (an : Option Addr) (cdv ct : Value) (us : List Value), us.length = ps.length → bindArgs (PySem.W.fnOf x x (defArgs st) (defBody st) (defScope st) .none kV doc pm an cdv ct) ⟨us, []⟩ = pure (ps.zip us))
    (hm : N.length = m) (hn : ps.length = n)
    (body : ∀ (f : Addr) (cdv : Value) (A : Around) (outer : List PySem.Env) (s : Shared) (H : Hp) (E : XK), cdv = .ref cA → Room k (A.deeper (envOfC x (defScope st) s.heap.objs.size f cdv)) →
      ∃ t, VSs (cxOf CX0 P w K mg base N x (defScope st) f cdv A outer s H E).nox c W0 (fxOf rf) (defBody st) t g) : CalD P w K mg base (k + 1) x st ps (spV c n rf (fnP n m rf g)) :=
  calT_mk D F hb (fun vs H Q E h => by rw [hn]; exact spV_len h) fun f cdv A outer s H vs Q E hcd hr h =>
    let ⟨t, b⟩ := body f cdv A outer s H E hcd hr
    ⟨t, b.pe, body_okP hm b.vt h⟩
end
end Vm
/-! ### a slot's object is changed -/
namespace Vm
open PySem PySem.Spec PyProof.Rows L2 Ky
section
variable {X : Cx} {c : Cn} {W : WX} {fx : List Nat} {σ : Sl} {H : Hp} {S : Addr → Prop} {ρ : Env}
/-- an own object's content is replaced -/
theorem Rep.wr {i : Nat} {a : Addr} {o o' : Ob} {u : HO} (p : Rep c σ H S ρ) (e : ρ[i]? = some (some (.own o))) (ea : σ[i]? = some (some (.ref a))) (mu : mutK u) (h : ObRp c (upd H a u) S a o') :
    Rep c σ (upd H a u) S (ρ.set i (some (.own o'))) ∧ Stq [] σ ρ S H σ (ρ.set i (some (.own o'))) S (upd H a u) ∧ (∀ v d, Rp c.K H S v d → Rp c.K (upd H a u) S v d) := by
  have oa : OwnA σ ρ a := ⟨i, o, e, ea⟩
  have na := p.nS oa
  obtain ⟨u0, eu0, m0⟩ := p.ownAt oa
  have kp : ∀ b x, H b = some x → (S b ∧ mutK x) ∨ fixK x → upd H a u b = some x := fun b x eb hb => by
    rw [upd_ne]
    · exact eb
    · rintro rfl
      rcases hb with ⟨z, _⟩ | z
      · exact na z
      · rw [eu0] at eb; cases eb
        cases u0 <;> first | exact z | exact m0
  have other : ∀ {j x o1 b}, ρ[j]? = some (some x) → x.ob = some o1 → σ[j]? = some (some (.ref b)) → i ≠ j → b ≠ a := fun {j x o1 b} h1 h2 h3 hn z => by
    subst z
    exact hn (p.dis i j _ x o o1 b e rfl h1 h2 ea h3)
  refine ⟨⟨by rw [List.length_set]; exact p.len, fun j d hj => ?_, fun j x o1 hj hx => ?_, fun j l x y o1 o2 b h1 h2 h3 h4 h5 h6 => ?_, fun b z => ?_, fun x hx => ?_⟩, ⟨fun b x eb => ?_, fun _ z => z, fun _ z => .inl z, fun b ⟨j, o1, h1, h2⟩ => ?_, fun b ⟨j, x, o1, h1, h2, h3⟩ => ?_, fun j o1 hj => ?_, fun _ _ => rfl⟩, fun v d r => r.keep kp fun _ z => z⟩
  · rcases set_get hj with ⟨rfl, hj, _⟩ | ⟨_, hj⟩
    · cases hj
    · obtain ⟨v, ev, r⟩ := p.dat j d hj
      exact ⟨v, ev, r.keep kp fun _ z => z⟩
  · rcases set_get hj with ⟨rfl, hj, _⟩ | ⟨hn, hj⟩
    · cases hj
      cases hx
      exact ⟨a, ea, h, na⟩
    · obtain ⟨b, eb, r, nb⟩ := p.liv j x o1 hj hx
      exact ⟨b, eb, r.keep kp (fun _ z => z) fun u1 e1 m1 => by rw [upd_ne (other hj hx eb hn)]; exact e1, nb⟩
  · have up : ∀ {j : Nat} {x : C} {o1 : Ob}, (ρ.set i (some (.own o')))[j]? = some (some x) → x.ob = some o1 → ∃ (y : C) (o2 : Ob), ρ[j]? = some (some y) ∧ y.ob = some o2 := fun {j x o1} hj hx => by
      rcases set_get hj with ⟨rfl, _, _⟩ | ⟨_, hj⟩
      · exact ⟨_, o, e, rfl⟩
      · exact ⟨x, o1, hj, hx⟩
    obtain ⟨x', o3, f1, f2⟩ := up h1 h2
    obtain ⟨y', o4, f3, f4⟩ := up h3 h4
    exact p.dis j l x' y' o3 o4 b f1 f2 f3 f4 h5 h6
  · obtain ⟨u1, e1, m1⟩ := p.live b z
    exact ⟨u1, kp b u1 e1 (.inl ⟨z, m1⟩), m1⟩
  · obtain ⟨ps, e1, t⟩ := p.tabs x hx
    refine ⟨ps, ?_, t⟩
    rw [upd_ne]
    · exact e1
    · intro z; rw [z, eu0] at e1; cases e1; exact m0
  · by_cases z : b = a
    · subst z
      exact ⟨u, upd_same, fun n => absurd oa n⟩
    · exact ⟨x, by rw [upd_ne z]; exact eb, fun _ => .inl rfl⟩
  · rcases set_get h1 with ⟨rfl, _, _⟩ | ⟨_, h1⟩
    · exact .inl ⟨i, o, e, h2⟩
    · exact .inl ⟨j, o1, h1, h2⟩
  · rcases set_get h1 with ⟨rfl, _, _⟩ | ⟨_, h1⟩
    · exact .inl ⟨i, _, o, e, rfl, h3⟩
    · exact .inl ⟨j, x, o1, h1, h2, h3⟩
  · rcases set_get hj with ⟨rfl, hj, _⟩ | ⟨_, hj⟩
    · cases hj
    · exact ⟨o1, hj, rfl⟩
/-- a method that changes a list, on contents -/
structure LMt (c : Cn) (r : V → List V → Hp → VK → Prop) (g : List D → List D → Option (D × List D)) : Prop where
  s : ∀ H S a ws xs vs ds d xs' Q, H a = some (.lst ws) → RpA c.K H S ws xs → RpA c.K H S vs ds → g xs ds = some (d, xs') → (∀ v ws', RpA c.K H S ws' xs' → Rp c.K H S v d → Q v (upd H a (.lst ws'))) → r (.ref a) vs H Q
def xMethB (i : Nat) (g : List D → List D → Option (D × List D)) (fr : M (List R)) : M R := fr.bind fun rs => fun ρ => (keepAll rs ρ).bind fun p => match p.2[i]? with
  | some (some (.own (.lst xs))) => (g xs p.1).map fun q => (.ok (.dat q.1), p.2.set i (some (.own (.lst q.2))))
  | _ => none
def xMeth (i : Nat) (g : List D → List D → Option (D × List D)) (fr : M (List R)) : M R := fun ρ => match ρ[i]? with
  | some (some (.own (.lst _))) => xMethB i g fr ρ
  | _ => none
theorem Rep.wrL {i : Nat} {a : Addr} {xs xs' : List D} {ws' : List V} (p : Rep c σ H S ρ) (e : ρ[i]? = some (some (.own (.lst xs)))) (ea : σ[i]? = some (some (.ref a))) (r : RpA c.K H S ws' xs') :
    Rep c σ (upd H a (.lst ws')) S (ρ.set i (some (.own (.lst xs')))) ∧ Stq [] σ ρ S H σ (ρ.set i (some (.own (.lst xs')))) S (upd H a (.lst ws')) ∧ (∀ v d, Rp c.K H S v d → Rp c.K (upd H a (.lst ws')) S v d) := by
  have oa : OwnA σ ρ a := ⟨i, _, e, ea⟩
  have na := p.nS oa
  obtain ⟨u0, eu0, m0⟩ := p.ownAt oa
  refine p.wr e ea trivial ⟨ws', upd_same, r.keep (fun b x eb hb => ?_) fun _ z => z⟩
  rw [upd_ne]
  · exact eb
  · rintro rfl
    rcases hb with ⟨z, _⟩ | z
    · exact na z
    · rw [eu0] at eb; cases eb
      cases u0 <;> first | exact z | exact m0
theorem Vt.meth {i : Nat} {r : V → List V → Hp → VK → Prop} {g : List D → List D → Option (D × List D)} {t : TA} {fr : M (List R)} (hm : LMt c r g) (va : VAt c W t fr) :
    VEt c W (tBM c.K "list" r (tVar i) t) (xMeth i g fr) := by
  intro σ H S ρ res ρ' Q p e G
  obtain ⟨xs0, e1, e⟩ : ∃ xs0, ρ[i]? = some (some (.own (.lst xs0))) ∧ xMethB i g fr ρ = some (res, ρ') := by
    unfold xMeth at e
    split at e
    · rename_i xs0 e1; exact ⟨xs0, e1, e⟩
    · cases e
  obtain ⟨a, ea, ho, _⟩ := p.liv i _ _ e1 rfl
  obtain ⟨ws0, h1, _⟩ := ho
  refine ⟨.ref a, ea, .inl ⟨rfl, ws0, .of h1⟩, ?_⟩
  rcases M.bind_some e with ⟨rs, ρ1, e3, e4⟩ | ⟨x, e3, rfl⟩
  · refine va σ H S ρ (.ok rs) ρ1 _ p e3 fun vs H1 S1 p1 q1 r1 => ?_
    obtain ⟨⟨ds, ρ2⟩, e5, e6⟩ := Option.bind_eq_some_iff.mp e4
    obtain ⟨S2, p2, q2, r2, _, _⟩ := keepAll_ok q1 p1 r1.w e5
    dsimp only at e6
    split at e6
    · rename_i xs e7
      obtain ⟨⟨d, xs'⟩, e8, e9⟩ := Option.map_eq_some_iff.mp e6
      cases e9
      obtain ⟨b, eb, ⟨ws, h2, h3⟩, _⟩ := p2.liv i _ _ e7 rfl
      rw [ea] at eb; cases eb
      refine hm.s H1 S2 a ws xs vs ds d xs' Q h2 h3 r2 e8 fun v ws' k1 k2 => ?_
      obtain ⟨w1, w2, w3⟩ := p2.wrL e7 ea k1
      exact G v _ S2 w1 (q2.trans w2) (w3 v d k2)
    · cases e6
  · exact va σ H S ρ (.error x) ρ' _ p e3 G
theorem VE.meth {i : Nat} {id : String} {name : Str} {r : V → List V → Hp → VK → Prop} {g : List D → List D → Option (D × List D)} {o e : Expr} {es : List Expr} {apos cpos : Pos} {t : TA} {fr : M (List R)} (k : Fit X c) (slot : PySem.Slot "list" name id) (hty : typeOf (.builtin id) = pure (.type "method_descriptor")) (hm : MtR X id r) (hg : LMt c r g)
    (ho : PE X o (tVar i)) (ha : VA X c W (e :: es) t fr)
    (hbase : attributeBase o name X.env (eval o X.env) = eval o X.env := by rfl) (hfew : ((backTo cpos (starEach (e :: es) X.env)).all (fun x => !x.1) && (backToKw cpos (keywordEach [] X.env)).all (fun x => x.1.isSome)
    && decide ((e :: es).length + ([] : List Keyword).length + (if ([] : List Keyword).isEmpty then 0 else 1) < 30)) = true := by rfl)
    (hline : (apos.endLine == cpos.line) = true := by rfl) (hs : starEach (e :: es) X.env = (false, eval e X.env) :: starEach es X.env := by rfl) (hplain : (backTo cpos (starEach es X.env)).any (·.1) = false := by rfl) :
    VE X c W (.Call (.Attribute o name apos) (e :: es) [] cpos) (tBM c.K "list" r (tVar i) t) (xMeth i g fr) :=
  ⟨by rw [← k.K]; exact pe_bm PySem.F.plainAttrs_list slot hty hm ho ha.pe hbase hfew hline hs hplain, Vt.meth hg ha.vt⟩
theorem VE.meth0 {i : Nat} {id : String} {name : Str} {r : V → List V → Hp → VK → Prop} {g : List D → List D → Option (D × List D)} {o : Expr} {apos cpos : Pos} (k : Fit X c) (slot : PySem.Slot "list" name id) (hty : typeOf (.builtin id) = pure (.type "method_descriptor")) (hm : MtR X id r) (hg : LMt c r g)
    (ho : PE X o (tVar i)) (hbase : attributeBase o name X.env (eval o X.env) = eval o X.env := by rfl) (hline : (apos.endLine == cpos.line) = true := by rfl) :
    VE X c W (.Call (.Attribute o name apos) [] [] cpos) (tBM0 c.K "list" r (tVar i)) (xMeth i g xNil) := by
  refine ⟨by rw [← k.K]; exact pe_bm0 PySem.F.plainAttrs_list slot hty hm ho hbase hline, ?_⟩
  intro σ H S ρ res ρ' Q p e G
  obtain ⟨v, ev, q⟩ := Vt.meth (W := W) hg (VA.nil (X := X) (c := c) (W := W)).vt σ H S ρ res ρ' Q p e G
  exact ⟨v, ev, q⟩
/-! the methods -/
def gAppend (xs : List D) : List D → Option (D × List D)
  | [d] => if xs.length < sizeLine then some (.none, xs ++ [d]) else none
  | _ => none
theorem rpA_one {K : PySem.W.Frag} {H : Hp} {S : Addr → Prop} {vs : List V} {d : D} (h : RpA K H S vs [d]) : ∃ v, vs = [v] ∧ Rp K H S v d := by
  cases h with | cons h1 h2 => cases h2; exact ⟨_, rfl, h1⟩
theorem rpA_two {K : PySem.W.Frag} {H : Hp} {S : Addr → Prop} {vs : List V} {d e : D} (h : RpA K H S vs [d, e]) : ∃ v w, vs = [v, w] ∧ Rp K H S v d ∧ Rp K H S w e := by
  cases h with | cons h1 h2 => cases h2 with | cons h2 h3 => cases h3; exact ⟨_, _, rfl, h1, h2⟩
theorem l_append : LMt c rAppend gAppend := ⟨by
  intro H S a ws xs vs ds d xs' Q hw r rs e G
  unfold gAppend at e
  split at e
  · split at e
    · rename_i hl
      cases e
      obtain ⟨v, rfl, rv⟩ := rpA_one rs
      exact ⟨a, ws, v, rfl, rfl, hw, by rw [r.length]; exact hl, G _ _ (r.app (.cons rv .nil)) Rp.non⟩
    · cases e
  · cases e⟩
def gPopAt (xs : List D) : List D → Option (D × List D)
  | [.int i] => if -(2 ^ 63) ≤ i ∧ i < 2 ^ 63 then (seqIndex? i xs.length).bind fun k => (xs[k]?).map fun d => (d, xs.eraseIdx k) else none
  | _ => none
theorem l_popAt : LMt c rPopAt gPopAt := ⟨by
  intro H S a ws xs vs ds d xs' Q hw r rs e G
  unfold gPopAt at e
  split at e
  · rename_i i
    split at e
    · rename_i hi
      obtain ⟨k, e1, e2⟩ := Option.bind_eq_some_iff.mp e
      obtain ⟨d', e3, e4⟩ := Option.map_eq_some_iff.mp e2
      cases e4
      obtain ⟨v, rfl, rv⟩ := rpA_one rs
      cases rv
      obtain ⟨y, ey, ry⟩ := r.get e3
      exact ⟨a, ws, i, k, y, rfl, rfl, hw, hi.1, hi.2, by rw [r.length]; exact e1, ey, G _ _ (r.erase k) ry⟩
    · cases e
  · cases e⟩
theorem RpA.dropLast {K : PySem.W.Frag} {H : Hp} {S : Addr → Prop} {vs : List V} {ds : List D} (h : RpA K H S vs ds) : RpA K H S vs.dropLast ds.dropLast := by
  rw [List.dropLast_eq_take, List.dropLast_eq_take, h.length]
  exact h.take _
def gPop (xs : List D) : List D → Option (D × List D)
  | [] => (xs[xs.length - 1]?).map fun d => (d, xs.dropLast)
  | _ => none
theorem l_pop : LMt c rPop gPop := ⟨by
  intro H S a ws xs vs ds d xs' Q hw r rs e G
  unfold gPop at e
  split at e
  · obtain ⟨d', e3, e4⟩ := Option.map_eq_some_iff.mp e
    cases e4
    cases rs
    obtain ⟨y, ey, ry⟩ := r.get e3
    exact ⟨a, ws, y, rfl, rfl, hw, by rw [r.length]; exact ey, G _ _ r.dropLast ry⟩
  · cases e⟩
def rInsertL : V → List V → Hp → VK → Prop := fun x vs H Q => ∃ (l : Addr) (xs : List V) (i : Int) (y : V), x = .ref l ∧ vs = [.int i, y] ∧ H l = some (.lst xs) ∧ xs.length < sizeLine ∧ 0 ≤ i ∧ i < 2 ^ 63 ∧ Q .non (upd H l (.lst (xs.take i.toNat ++ [y] ++ xs.drop i.toNat)))
def gInsert (xs : List D) : List D → Option (D × List D)
  | [.int i, d] => if xs.length < sizeLine ∧ 0 ≤ i ∧ i < 2 ^ 63 then some (.none, xs.take i.toNat ++ [d] ++ xs.drop i.toNat) else none
  | _ => none
theorem l_insert : LMt c rInsertL gInsert := ⟨by
  intro H S a ws xs vs ds d xs' Q hw r rs e G
  unfold gInsert at e
  split at e
  · split at e
    · rename_i hi
      cases e
      obtain ⟨v, w, rfl, rv, rw'⟩ := rpA_two rs
      cases rv
      exact ⟨a, ws, _, w, rfl, rfl, hw, by rw [r.length]; exact hi.1, hi.2.1, hi.2.2, G _ _ (((r.take _).app (.cons rw' .nil)).app (r.drop _)) Rp.non⟩
    · cases e
  · cases e⟩
def gReverse (xs : List D) : List D → Option (D × List D)
  | [] => some (.none, xs.reverse)
  | _ => none
theorem l_reverse : LMt c rReverse gReverse := ⟨by
  intro H S a ws xs vs ds d xs' Q hw r rs e G
  unfold gReverse at e
  split at e
  · cases e
    cases rs
    exact ⟨a, ws, rfl, rfl, hw, G _ _ r.rev Rp.non⟩
  · cases e⟩
def gRemove (xs : List D) : List D → Option (D × List D)
  | [.int k] => (toInts xs).bind fun ns => if k ∈ ns then some (.none, (ns.erase k).map .int) else none
  | _ => none
theorem erase_first {k : Int} : ∀ {ns : List Int}, k ∈ ns → ∃ j, ns[j]? = some k ∧ (∀ m : Nat, m < j → ns[m]? ≠ some k) ∧ ns.erase k = ns.eraseIdx j
  | [], h => by cases h
  | n :: ns, h => by
    by_cases e : n = k
    · subst e
      exact ⟨0, rfl, fun m hm => by omega, by simp⟩
    · obtain ⟨j, h1, h2, h3⟩ := erase_first (ns := ns) (by rcases List.mem_cons.mp h with z | z; exact absurd z.symm e; exact z)
      refine ⟨j + 1, by simpa using h1, fun m hm => ?_, ?_⟩
      · cases m with
        | zero => simpa using e
        | succ m => simpa using h2 m (by omega)
      · rw [List.erase_cons_tail (by simpa using e), h3]; rfl
theorem l_remove : LMt c rRemI gRemove := ⟨by
  intro H S a ws xs vs ds d xs' Q hw r rs e G
  unfold gRemove at e
  split at e
  · rename_i k
    obtain ⟨ns, e1, e2⟩ := Option.bind_eq_some_iff.mp e
    split at e2
    · rename_i hk
      cases e2
      obtain ⟨v, rfl, rv⟩ := rpA_one rs
      cases rv
      rw [toInts_ok e1] at r
      rw [rpA_ints r] at hw
      obtain ⟨j, h1, h2, h3⟩ := erase_first hk
      refine ⟨a, ns, k, j, rfl, rfl, hw, h1, h2, G _ _ ?_ Rp.non⟩
      rw [← h3]
      exact ints_rpA _
    · cases e2
  · cases e⟩
/-! ### xs[i] = e, d[k] = e -/
def rSetD : V → V → V → Hp → (Hp → Prop) → Prop := fun o i v H Q => ∃ a H', o = .ref a ∧ DPut H a i v H' ∧ Q H'
def rSetAll : V → V → V → Hp → (Hp → Prop) → Prop := fun o i v H Q => rSetL o i v H Q ∨ rSetD o i v H Q
theorem set_all (hu : X.A.units + 1 < cLine) : PSet X rSetAll := by
  intro pins s σ H o i v ov iv u Q I r1 r2 r3 h
  rcases h with h | ⟨a, H', rfl, g, q⟩
  · exact set_list pins s σ H o i v ov iv u Q I r1 r2 r3 h
  · cases r1
    exact d_setItem hu I g r2 r3 fun s' I' => ⟨H', I', q⟩
/-- what stands at a place of an object is replaced -/
def putAt (o : Ob) (k d : D) : Option Ob := match o, k with
  | .lst xs, .int i => (ixN xs.length i).map fun j => .lst (xs.set j d)
  | .dic kvs, k => (dKey k).bind fun key => if kvs.length < sizeLine then some (.dic (putD kvs key d)) else none
  | _, _ => none
def sPutB (i : Nat) (rv : R) (fk : M R) : XS := fun ρ1 => match fk ρ1 with
  | some (.ok rk, ρ2) => (look ρ2 rk).bind fun k => (keepR rv ρ2).bind fun p => match p.2[i]? with
    | some (some (.own o)) => (putAt o k p.1).map fun o' => (.nx, p.2.set i (some (.own o')))
    | _ => none
  | some (.error x, ρ2) => some (.ex x, ρ2)
  | none => none
def sPut (i : Nat) (fk fv : M R) : XS := fun ρ => match fv ρ with
  | some (.ok rv, ρ1) => match ρ1[i]? with
    | some (some (.own _)) => sPutB i rv fk ρ1
    | _ => none
  | some (.error x, ρ1) => some (.ex x, ρ1)
  | none => none
theorem VSt.put {i : Nat} {tk tv : TE} {fk fv : M R} (vk : VEt c W tk fk) (vv : VEt c W tv fv) : VSt c W fx (tAsg tv (gSub (tVar i) tk rSetAll)) (sPut i fk fv) := by
  intro σ H S ρ fl ρ' D p e G
  unfold sPut at e
  split at e
  · rename_i rv ρ1 e1
    refine vv σ H S ρ (.ok rv) ρ1 _ p e1 fun v H1 S1 p1 q1 r1 => ?_
    have put2 : ∀ {a : Addr} rk ρ2, σ[i]? = some (some (.ref a)) → fk ρ1 = some (.ok rk, ρ2) → ((look ρ2 rk).bind fun k => (keepR rv ρ2).bind fun p => match p.2[i]? with
        | some (some (.own o)) => (putAt o k p.1).map fun o' => (Fl.nx, p.2.set i (some (.own o')))
        | _ => none) = some (fl, ρ') → tk σ H1 fun i' H2 => rSetAll (.ref a) i' v H2 fun H3 => D.nx σ H3 := fun {a} rk ρ2 ea e2 e => by
      refine vk σ H1 S1 ρ1 (.ok rk) ρ2 _ p1 e2 fun w H2 S2 p2 q2 r2 => ?_
      obtain ⟨k, e3, e4⟩ := Option.bind_eq_some_iff.mp e
      obtain ⟨⟨d, ρ3⟩, e5, e6⟩ := Option.bind_eq_some_iff.mp e4
      obtain ⟨S3, p3, q3, r3, m3, _⟩ := keep_ok (q1.trans q2) p2 (RR.step p1 q2 r1).w e5
      dsimp only at e6
      split at e6
      · rename_i o e7
        obtain ⟨o', e8, e9⟩ := Option.map_eq_some_iff.mp e6
        cases e9
        obtain ⟨b, eb, ho, nb⟩ := p3.liv i _ _ e7 rfl
        rw [ea] at eb; cases eb
        have hk := look_ok p2 r2 e3
        unfold putAt at e8
        split at e8
        · rename_i xs j
          obtain ⟨m, e10, rfl⟩ := Option.map_eq_some_iff.mp e8
          obtain ⟨ws, h1, h2⟩ := ho
          obtain ⟨w1, w2, w3⟩ := p3.wrL e7 ea (h2.set r3 m)
          refine .inl ⟨a, ws, j, m, rfl, hk.int_, h1, by rw [h2.length]; exact e10, ?_⟩
          exact G σ _ S3 w1 ((q3.any).trans w2.any)
        · rename_i k0 kvs
          obtain ⟨key, e10, e11⟩ := Option.bind_eq_some_iff.mp e8
          split at e11
          · rename_i hl
            cases e11
            obtain ⟨ks, h1, h2⟩ := ho
            have ew : w = kV key := by
              rw [dKey_some e10] at hk
              cases key with
              | inl i => exact hk.int_
              | inr z => exact hk.str_
            have oa : OwnA σ ρ3 a := ⟨i, _, e7, ea⟩
            have kp : ∀ b x, H2 b = some x → (S3 b ∧ mutK x) ∨ fixK x → upd H2 a (.dK (putK ks key v)) b = some x := fun b x eb hb => by
              rw [upd_ne]
              · exact eb
              · rintro rfl
                rcases hb with ⟨z, _⟩ | z
                · exact nb z
                · rw [h1] at eb; cases eb; exact z
            obtain ⟨w1, w2, w3⟩ := p3.wr (u := .dK (putK ks key v)) (o' := .dic (putD kvs key d)) e7 ea trivial ⟨_, upd_same, RpK.keep kp (fun _ z => z) (h2.put r3)⟩
            refine .inr ⟨a, _, rfl, ?_, G σ _ S3 w1 ((q3.any).trans w2.any)⟩
            rw [ew]
            exact .k h1 (by rw [h2.length]; exact hl)
          · cases e11
        · cases e8
      · cases e6
    split at e
    · rename_i o0 e0
      obtain ⟨a, ea, _⟩ := p1.liv i _ _ e0 rfl
      refine ⟨.ref a, ea, ?_⟩
      unfold sPutB at e
      split at e
      · rename_i rk ρ2 e2
        exact put2 rk ρ2 ea e2 e
      · rename_i x ρ2 e2
        cases e
        exact vk σ H1 S1 ρ1 (.error x) _ _ p1 e2 fun C d H' S' v m1 m2 m3 p' q' => G C d σ H' S' v m1 m2 m3 p' (q1.any.trans q'.any)
      · cases e
    · cases e
  · rename_i x ρ1 e1
    cases e
    exact vv σ H S ρ (.error x) _ _ p e1 (goodE_ex (D := D) G)
  · cases e
end
end Vm
/-! ### dicts; comprehensions -/
namespace Vm
open PySem PySem.Spec PyProof.Rows L2 Ky
section
variable {X : Cx} {c : Cn} {W : WX} {fx : List Nat}
theorem VS.put {i : Nat} {o ki e : Expr} {tk tv : TE} {fk fv : M R} {pos pos' : Pos} (hu : X.A.units + 1 < cLine) (ho : PE X o (tVar i)) (hk : VE X c W ki tk fk) (hv : VE X c W e tv fv) (hs : swapsWithSole [.Subscript o ki pos'] e pos.line X.env = pure false := by rfl) (hw : swappedStores [.Subscript o ki pos'] e X.env = pure none := by rfl)
    (h1 : (assignEach [.Subscript o ki pos'] X.env).map (·.2) = [assign (.Subscript o ki pos') X.env] := by rfl)
    (ha : ∀ v, assign (.Subscript o ki pos') X.env v = (do
      let ov ← holding [v] (eval o X.env)
      let iv ← holding [v, ov] (eval ki X.env)
      standAt pos'
      holding [v, ov, iv] (setItem ov iv v)
      release [v, ov, iv] []) := by intro _; rfl) : VS X c W fx (.Assign [.Subscript o ki pos'] e pos) (tAsg tv (gSub (tVar i) tk rSetAll)) (sPut i fk fv) :=
  ⟨ps_asg hv.pe (pg_sub ho hk.pe (set_all hu) ha) hs hw h1, VSt.put hk.vt hv.vt⟩
def xNewD : M R := fun ρ => some (.ok (.own (.dic [])), ρ)
theorem VE.newD {pos : Pos} : VE X c W (.Dict [] [] pos) tDNewK xNewD := ⟨pe_dnewK, fun σ H S ρ res ρ' Q p e G => by
  cases e
  intro a n
  exact RO.good (r := .own (.dic [])) .refl p G (gro_new n) ⟨a, rfl, n, [], upd_same, .nil⟩⟩
def dGet2 (d k x : D) : Option D := match d with
  | .dict kvs => if (isSet kvs).isNone then (dKey k).map fun key => (valD kvs key).getD x else none
  | _ => none
def xGet2 (fd fk fx : M R) : M R := fd.bind fun a => fk.bind fun b => fx.bind fun x => fun ρ => (look ρ a).bind fun d => (look ρ b).bind fun k => (keepR x ρ).bind fun p => (dGet2 d k p.1).map fun r => (.ok (.dat r), p.2)
/-! [e for x in xs if t] -/
theorem wipe_get (σ : Sl) : ∀ (vs : List Nat) (i : Nat), (wipe σ vs)[i]? = if i ∈ vs then (if i < σ.length then some none else none) else σ[i]?
  | [], i => by simp [wipe]
  | v :: vs, i => by
    unfold wipe
    by_cases h : v = i
    · subst h
      rw [if_pos List.mem_cons_self]
      by_cases hl : v < σ.length
      · rw [if_pos hl, List.getElem?_set_self (by rw [wipe_length]; exact hl)]
      · rw [if_neg hl, List.getElem?_eq_none (by rw [List.length_set, wipe_length]; omega)]
    · rw [List.getElem?_set_ne h, wipe_get σ vs i]
      have e : i ∈ v :: vs ↔ i ∈ vs := ⟨fun z => (List.mem_cons.mp z).resolve_left (fun y => h y.symm), List.mem_cons_of_mem _⟩
      by_cases hi : i ∈ vs
      · rw [if_pos hi, if_pos (e.mpr hi)]
      · rw [if_neg hi, if_neg (fun z => hi (e.mp z))]
theorem kill_get (ρ : Env) : ∀ (vs : List Nat) (i : Nat) (x : C), (kill ρ vs)[i]? = some (some x) ↔ i ∉ vs ∧ ρ[i]? = some (some x)
  | [], i, x => by simp [kill]
  | v :: vs, i, x => by
    unfold kill
    by_cases h : v = i
    · subst h
      refine ⟨fun z => ?_, fun z => absurd List.mem_cons_self z.1⟩
      rcases set_get z with ⟨_, z, _⟩ | ⟨z, _⟩
      · cases z
      · exact absurd rfl z
    · rw [List.getElem?_set_ne h, kill_get ρ vs i x]
      have e : i ∈ v :: vs ↔ i ∈ vs := ⟨fun z => (List.mem_cons.mp z).resolve_left (fun y => h y.symm), List.mem_cons_of_mem _⟩
      exact ⟨fun z => ⟨fun w => z.1 (e.mp w), z.2⟩, fun z => ⟨fun w => z.1 (e.mpr w), z.2⟩⟩
theorem kill_len (ρ : Env) : ∀ vs : List Nat, (kill ρ vs).length = ρ.length
  | [] => rfl
  | v :: vs => by unfold kill; rw [List.length_set, kill_len ρ vs]
theorem wipe_only {us vs : List Nat} {σ σ' : Sl} (h : ∀ i ∈ us, i ∈ vs) (o : Only us σ σ') : wipe σ' vs = wipe σ vs := by
  refine List.ext_getElem? fun i => ?_
  rw [wipe_get, wipe_get, o.1]
  by_cases hi : i ∈ vs
  · rw [if_pos hi, if_pos hi]
  · rw [if_neg hi, if_neg hi]
    exact o.2 i fun z => hi (h i z)
theorem wipe_wipe {vs : List Nat} {σ : Sl} : wipe (wipe σ vs) vs = wipe σ vs := by
  refine List.ext_getElem? fun i => ?_
  rw [wipe_get, wipe_length, wipe_get]
  by_cases hi : i ∈ vs
  · rw [if_pos hi, if_pos hi]
  · rw [if_neg hi, if_neg hi]
section
variable {σ σ' : Sl} {H H' : Hp} {S S' : Addr → Prop} {ρ ρ' : Env} {vs : List Nat}
/-- forgotten on both sides -/
theorem Rep.wipe (p : Rep c σ H S ρ) (vs : List Nat) : Rep c (L2.wipe σ vs) H S (kill ρ vs) := by
  have w : ∀ {i : Nat}, i ∉ vs → (L2.wipe σ vs)[i]? = σ[i]? := fun {i} h => by rw [wipe_get, if_neg h]
  refine ⟨by rw [wipe_length, kill_len]; exact p.len, fun i d e => ?_, fun i x o e f => ?_, fun i j x y o o' a e1 e2 e3 e4 e5 e6 => ?_, p.live, p.tabs⟩
  · obtain ⟨n, e⟩ := (kill_get ρ vs i _).mp e
    rw [w n]; exact p.dat i d e
  · obtain ⟨n, e⟩ := (kill_get ρ vs i _).mp e
    rw [w n]; exact p.liv i x o e f
  · obtain ⟨n, e1⟩ := (kill_get ρ vs i _).mp e1
    obtain ⟨m, e3⟩ := (kill_get ρ vs j _).mp e3
    rw [w n] at e5; rw [w m] at e6
    exact p.dis i j x y o o' a e1 e2 e3 e4 e5 e6
/-- forgotten by the contents alone -/
theorem Rep.unwipe (p : Rep c (L2.wipe σ vs) H S ρ) : Rep c σ H S (kill ρ vs) := by
  have w : ∀ {i : Nat}, i ∉ vs → (L2.wipe σ vs)[i]? = σ[i]? := fun {i} h => by rw [wipe_get, if_neg h]
  have l := p.len
  rw [wipe_length] at l
  refine ⟨by rw [kill_len]; exact l, fun i d e => ?_, fun i x o e f => ?_, fun i j x y o o' a e1 e2 e3 e4 e5 e6 => ?_, p.live, p.tabs⟩
  · obtain ⟨n, e⟩ := (kill_get ρ vs i _).mp e
    rw [← w n]; exact p.dat i d e
  · obtain ⟨n, e⟩ := (kill_get ρ vs i _).mp e
    rw [← w n]; exact p.liv i x o e f
  · obtain ⟨n, e1⟩ := (kill_get ρ vs i _).mp e1
    obtain ⟨m, e3⟩ := (kill_get ρ vs j _).mp e3
    rw [← w n] at e5; rw [← w m] at e6
    exact p.dis i j x y o o' a e1 e2 e3 e4 e5 e6
theorem Rep.kill_ (p : Rep c σ H S ρ) (vs : List Nat) : Rep c σ H S (kill ρ vs) := by
  refine ⟨by rw [kill_len]; exact p.len, fun i d e => p.dat i d ((kill_get ρ vs i _).mp e).2, fun i x o e f => p.liv i x o ((kill_get ρ vs i _).mp e).2 f, fun i j x y o o' a e1 e2 e3 e4 e5 e6 => p.dis i j x y o o' a ((kill_get ρ vs i _).mp e1).2 e2 ((kill_get ρ vs j _).mp e3).2 e4 e5 e6, p.live, p.tabs⟩
theorem Stq.kill_ {σ0 : Sl} {ρ0 : Env} {S0 : Addr → Prop} {H0 : Hp} {fx : List Nat} (q : Stq fx σ0 ρ0 S0 H0 σ ρ S H) (vs : List Nat) : Stq fx σ0 ρ0 S0 H0 σ (kill ρ vs) S H :=
  ⟨q.st, q.s1, q.s2, fun a ⟨i, o, e1, e2⟩ => q.ow a ⟨i, o, ((kill_get ρ vs i _).mp e1).2, e2⟩, fun a ⟨i, x, o, e1, e2, e3⟩ => q.lv a ⟨i, x, o, ((kill_get ρ vs i _).mp e1).2, e2, e3⟩, fun i o e => q.pf i o ((kill_get ρ vs i _).mp e).2, q.fx⟩
/-- into a block: its own names forgotten -/
theorem own_wipe {a : Addr} (h : OwnA (L2.wipe σ vs) (kill ρ vs) a) : OwnA σ ρ a := by
  obtain ⟨i, o, e1, e2⟩ := h
  obtain ⟨n, e1⟩ := (kill_get ρ vs i _).mp e1
  rw [wipe_get, if_neg n] at e2
  exact ⟨i, o, e1, e2⟩
theorem liv_wipe {a : Addr} (h : LivA (L2.wipe σ vs) (kill ρ vs) a) : LivA σ ρ a := by
  obtain ⟨i, x, o, e1, e2, e3⟩ := h
  obtain ⟨n, e1⟩ := (kill_get ρ vs i _).mp e1
  rw [wipe_get, if_neg n] at e3
  exact ⟨i, x, o, e1, e2, e3⟩
theorem own_unwipe {a : Addr} (h : OwnA σ (kill ρ vs) a) : OwnA (L2.wipe σ vs) ρ a := by
  obtain ⟨i, o, e1, e2⟩ := h
  obtain ⟨n, e1⟩ := (kill_get ρ vs i _).mp e1
  exact ⟨i, o, e1, by rw [wipe_get, if_neg n]; exact e2⟩
theorem liv_unwipe {a : Addr} (h : LivA σ (kill ρ vs) a) : LivA (L2.wipe σ vs) ρ a := by
  obtain ⟨i, x, o, e1, e2, e3⟩ := h
  obtain ⟨n, e1⟩ := (kill_get ρ vs i _).mp e1
  exact ⟨i, x, o, e1, e2, by rw [wipe_get, if_neg n]; exact e3⟩
/-- behind a block -/
theorem Stq.outOf (q : Stq [] (L2.wipe σ vs) (kill ρ vs) S H (L2.wipe σ vs) ρ' S' H') : Stq [] σ ρ S H σ (kill ρ' vs) S' H' where
  st := fun b o e => by
    obtain ⟨o', e', g⟩ := q.st b o e
    exact ⟨o', e', fun n => g fun z => n (own_wipe z)⟩
  s1 := q.s1
  s2 := fun a z => by
    rcases q.s2 a z with z | z | z
    · exact .inl z
    · exact .inr (.inl z)
    · exact .inr (.inr (liv_wipe z))
  ow := fun a z => (q.ow a (own_unwipe z)).imp own_wipe id
  lv := fun a z => (q.lv a (liv_unwipe z)).imp liv_wipe id
  pf := fun i o e => by
    obtain ⟨n, e⟩ := (kill_get ρ' vs i _).mp e
    obtain ⟨o', e', _⟩ := q.pf i o e
    exact ⟨o', ((kill_get ρ vs i _).mp e').2, rfl⟩
  fx := fun _ h => nomatch h
/-- a turn of a block: back to the block's own start -/
theorem Stq.turn {us : List Nat} {σ2 : Sl} {ρ2 : Env} {S2 : Addr → Prop} {H2 : Hp} (hs : ∀ i ∈ us, i ∈ vs) (o : Only us (L2.wipe σ vs) σ2) (q : Stq [] (L2.wipe σ vs) ρ S H σ2 ρ2 S2 H2) : Stq [] (L2.wipe σ vs) ρ S H (L2.wipe σ vs) (kill ρ2 vs) S2 H2 := by
  have e : L2.wipe σ2 vs = L2.wipe σ vs := by rw [wipe_only hs o, wipe_wipe]
  refine ⟨q.st, q.s1, q.s2, fun a z => ?_, fun a z => ?_, fun i ob h => ?_, fun _ h => nomatch h⟩
  · rw [← e] at z; exact q.ow a (own_wipe z)
  · rw [← e] at z; exact q.lv a (liv_wipe z)
  · obtain ⟨n, h⟩ := (kill_get ρ2 vs i _).mp h
    obtain ⟨o', h1, h2⟩ := q.pf i ob h
    exact ⟨o', h1, rfl⟩
theorem Rep.turn {us : List Nat} {σ2 : Sl} {ρ2 : Env} (hs : ∀ i ∈ us, i ∈ vs) (o : Only us (L2.wipe σ vs) σ2) (p : Rep c σ2 H S ρ2) : Rep c (L2.wipe σ vs) H S (kill ρ2 vs) := by
  have := p.wipe vs
  rw [wipe_only hs o, wipe_wipe] at this
  exact this
end
/-- the items that a comprehension makes -/
def lcL (vs : List Nat) (tgt : XG) (ft : M Bool) (fe : M R) : List D → Env → Option (List D × Env)
  | [], ρ => some ([], ρ)
  | d :: ds, ρ => (tgt d ρ).bind fun ρ1 => match ft ρ1 with
    | some (.ok true, ρ2) => match fe ρ2 with
      | some (.ok r, ρ3) => (keepR r ρ3).bind fun p => (lcL vs tgt ft fe ds (kill p.2 vs)).map fun q => (p.1 :: q.1, q.2)
      | _ => none
    | some (.ok false, ρ2) => lcL vs tgt ft fe ds (kill ρ2 vs)
    | _ => none
def xLc (vs : List Nat) (fi : M IR) (tgt : XG) (ft : M Bool) (fe : M R) : M R := fi.bind fun r => fun ρ => (lcL vs tgt ft fe r.ds (kill (pinE r.ps ρ) vs)).bind fun q => if q.1.length ≤ sizeLine then some (.ok (.own (.lst q.1)), unpinE r.ps ρ (kill q.2 vs)) else none
def xYes : M Bool := M.pure true
theorem Vt.yes : VTt c W tYes xYes := Vt.cB true
theorem lcL_len {vs : List Nat} {tgt : XG} {ft : M Bool} {fe : M R} : ∀ {ds : List D} {ρ : Env} {q : List D × Env}, lcL vs tgt ft fe ds ρ = some q → q.1.length ≤ ds.length
  | [], _, _, e => by cases e; exact Nat.le_refl _
  | d :: ds, ρ, q, e => by
    unfold lcL at e
    obtain ⟨ρ1, _, e⟩ := Option.bind_eq_some_iff.mp e
    split at e
    · split at e
      · obtain ⟨p, _, e⟩ := Option.bind_eq_some_iff.mp e
        obtain ⟨q', e1, rfl⟩ := Option.map_eq_some_iff.mp e
        have := lcL_len e1
        simp; omega
      · cases e
    · have := lcL_len e
      simp; omega
    · cases e
/-- a list that is being made, and nobody knows -/
structure Cold (σ : Sl) (ρ : Env) (S : Addr → Prop) (H : Hp) (a : Addr) (acc : List V) : Prop where
  h : H a = some (.lst acc)
  s : ¬ S a
  l : ¬ LivA σ ρ a
section
variable {σ σ' σ0 : Sl} {H H' H0 : Hp} {S S' S0 : Addr → Prop} {ρ ρ' ρ0 : Env} {vs : List Nat} {a : Addr} {acc : List V}
theorem Cold.step (k : Cold σ ρ S H a acc) (q : Stq fx σ ρ S H σ' ρ' S' H') : Cold σ' ρ' S' H' a acc := by
  refine ⟨stay_list q (fun z => k.l z.liv) k.h, fun z => ?_, fun z => ?_⟩
  · rcases q.s2 a z with z | z | z
    · exact k.s z
    · rw [k.h] at z; cases z
    · exact k.l z
  · rcases q.lv a z with z | z
    · exact k.l z
    · rw [k.h] at z; cases z
theorem Rep.off {u : HO} (p : Rep c σ H S ρ) (k : Cold σ ρ S H a acc) : Rep c σ (upd H a u) S ρ ∧ (∀ v d, Rp c.K H S v d → Rp c.K (upd H a u) S v d) := by
  have kp : ∀ b x, H b = some x → (S b ∧ mutK x) ∨ fixK x → upd H a u b = some x := fun b x eb hb => by
    rw [upd_ne]
    · exact eb
    · rintro rfl
      rcases hb with ⟨z, _⟩ | z
      · exact k.s z
      · rw [k.h] at eb; cases eb; exact z
  refine ⟨⟨p.len, fun i d e => ?_, fun i x o e f => ?_, p.dis, fun b z => ?_, fun x hx => ?_⟩, fun v d r => r.keep kp fun _ z => z⟩
  · obtain ⟨v, ev, r⟩ := p.dat i d e
    exact ⟨v, ev, r.keep kp fun _ z => z⟩
  · obtain ⟨b, eb, r, n⟩ := p.liv i x o e f
    exact ⟨b, eb, r.keep kp (fun _ z => z) fun u1 e1 m1 => by rw [upd_ne (fun z => k.l ⟨i, x, o, e, f, by rw [← z]; exact eb⟩)]; exact e1, n⟩
  · obtain ⟨u1, e1, m1⟩ := p.live b z
    exact ⟨u1, kp b u1 e1 (.inl ⟨z, m1⟩), m1⟩
  · obtain ⟨ps, e1, t⟩ := p.tabs x hx
    refine ⟨ps, ?_, t⟩
    rw [upd_ne]
    · exact e1
    · intro z; rw [z, k.h] at e1; cases e1
theorem Stq.off {u : HO} (q : Stq fx σ0 ρ0 S0 H0 σ ρ S H) (n : H0 a = none) : Stq fx σ0 ρ0 S0 H0 σ ρ S (upd H a u) := by
  refine ⟨fun b o e => ?_, q.s1, q.s2, q.ow, q.lv, q.pf, q.fx⟩
  obtain ⟨o', e', g⟩ := q.st b o e
  exact ⟨o', by rw [upd_ne (ne_of_none e n)]; exact e', g⟩
end
theorem Vt.lc {vs us : List Nat} {wi : TI} {g : TG} {tt : TT} {te : TE} {fi : M IR} {tgt : XG} {ft : M Bool} {fe : M R} (hs : ∀ i ∈ us, i ∈ vs) (vi : VIt c W wi fi) (vg : VGt c [] us g tgt) (vt : VTt c W0 tt ft) (ve : VEt c W0 te fe) : VEt c W (tLc wi g tt te vs) (xLc vs fi tgt ft fe) := by
  intro σ H S ρ res ρ' Q p e G
  rcases M.bind_some e with ⟨r, ρ1, e1, e2⟩ | ⟨x, e1, rfl⟩
  · obtain ⟨⟨ds, ρe⟩, e3, e4⟩ := Option.bind_eq_some_iff.mp e2
    dsimp only at e4
    by_cases hl : ds.length ≤ sizeLine
    · rw [if_pos hl] at e4
      cases e4
      refine vi σ H S ρ (.ok r) ρ1 _ p e1 fun J H1 S1 p1 q1 w D nD => ?_
      have pp := p1.pin (ps := r.ps)
      have pw := pp.wipe vs
      have c0 : Cold (L2.wipe σ vs) (kill (pinE r.ps ρ1) vs) S1 (upd H1 D (.lst [])) D [] := ⟨upd_same, (fun z => by
        obtain ⟨u, eu, _⟩ := p1.live D z
        rw [nD] at eu; cases eu), (fun z => by
        obtain ⟨u, eu, _⟩ := pw.livAt z
        rw [nD] at eu; cases eu)⟩
      refine ⟨fun i m H2 => m = r.ds.length - i ∧ i ≤ r.ds.length ∧ ∃ S2 ρ2 acc done todo, Rep c (L2.wipe σ vs) H2 S2 ρ2 ∧ Stq [] (L2.wipe σ vs) (kill (pinE r.ps ρ1) vs) S1 H1 (L2.wipe σ vs) ρ2 S2 H2 ∧ Cold (L2.wipe σ vs) ρ2 S2 H2 D acc ∧ RpA c.K H2 S2 acc done ∧
        lcL vs tgt ft fe (r.ds.drop i) ρ2 = some (todo, ρe) ∧ done ++ todo = ds, ⟨_, rfl, Nat.zero_le _, S1, _, [], [], ds, pw.gro (gro_new nD), stq_gro (gro_new nD), c0, .nil, e3, rfl⟩, ?_⟩
      rintro i m H2 ⟨rfl, hi, S2, ρ2, acc, done, todo, p2, q2, cd, ra, run, hds⟩
      obtain ⟨w1, w2⟩ := w i H2 S2 σ _ p2.unwipe q2.outOf
      by_cases hlt : i < r.ds.length
      · obtain ⟨go, wy⟩ := w1 hlt
        refine .inr ⟨go, fun H3 => ∃ S3 ρ3 acc done todo, Rep c (L2.wipe σ vs) H3 S3 ρ3 ∧ Stq [] (L2.wipe σ vs) (kill (pinE r.ps ρ1) vs) S1 H1 (L2.wipe σ vs) ρ3 S3 H3 ∧ Cold (L2.wipe σ vs) ρ3 S3 H3 D acc ∧ RpA c.K H3 S3 acc done ∧
          lcL vs tgt ft fe (r.ds.drop (i + 1)) ρ3 = some (todo, ρe) ∧ done ++ todo = ds, fun H3 ⟨S3, ρ3, acc, done, todo, h⟩ => ⟨r.ds.length - (i + 1), by omega, rfl, hlt, S3, ρ3, acc, done, todo, h⟩, fun x H3 y => ?_⟩
        obtain ⟨g3, d, ed, rd⟩ := wy x H3 y
        have ed' : r.ds.drop i = d :: r.ds.drop (i + 1) := by
          rw [List.drop_eq_getElem_cons hlt]
          rw [List.getElem?_eq_getElem hlt] at ed
          cases ed; rfl
        rw [ed'] at run
        unfold lcL at run
        obtain ⟨ρ4, e5, run⟩ := Option.bind_eq_some_iff.mp run
        have q3 := q2.trans (stq_gro g3)
        refine vg (L2.wipe σ vs) H3 S2 ρ2 x d ρ4 _ (p2.gro g3) rd e5 fun σ4 p4 q4 o4 => ⟨by rw [wipe_only hs o4, wipe_wipe], ?_⟩
        have q4' := q3.trans q4
        have cd4 := (cd.step (fx := []) (stq_gro g3)).step q4
        have ra4 : RpA c.K H3 S2 acc done := RpA.gro g3 ra
        split at run
        · rename_i ρ5 e6
          refine vt σ4 H3 S2 ρ4 (.ok true) ρ5 _ p4 e6 fun b H5 S5 p5 q5 r5 => ?_
          cases r5
          simp only [if_true]
          split at run
          · rename_i rr ρ6 e7
            refine ve σ4 H5 S5 ρ5 (.ok rr) ρ6 _ p5 e7 fun v H6 S6 p6 q6 r6 => ?_
            obtain ⟨⟨d', ρ7⟩, e8, run⟩ := Option.bind_eq_some_iff.mp run
            obtain ⟨⟨todo', ρe'⟩, e9, e10⟩ := Option.map_eq_some_iff.mp run
            cases e10
            obtain ⟨S7, p7, q7, r7, m7, l7⟩ := keep_ok (Stq.trans q5 q6) p6 (RR.back r6 fun _ => q5.gone).w e8
            have qA := q4'.trans q7
            have cd7 := cd4.step q7
            have ra7 : RpA c.K H6 S7 acc done := q7.rpA p4 ra4
            have hlen : acc.length < sizeLine := by
              rw [ra.length]
              have := congrArg List.length hds
              simp at this
              omega
            refine ⟨acc, cd7.h, hlen, S7, kill ρ7 vs, acc ++ [v], done ++ [d'], todo', ?_, ?_, ?_, ?_, e9, by rw [List.append_assoc]; exact hds⟩
            · exact Rep.turn hs o4 (p7.off cd7).1
            · exact Stq.turn hs o4 (qA.off nD)
            · have k := Stq.turn hs o4 (qA.off (u := .lst (acc ++ [v])) nD)
              refine ⟨upd_same, cd7.s, fun z => ?_⟩
              rw [show L2.wipe σ vs = L2.wipe σ4 vs by rw [wipe_only hs o4, wipe_wipe]] at z
              exact cd7.l (liv_wipe z)
            · refine RpA.keep (K := c.K) (H := H6) (S := S7) (fun b o eb hb => ?_) (fun _ z => z) (ra7.app (.cons r7 .nil))
              rw [upd_ne]
              · exact eb
              · rintro rfl
                rcases hb with ⟨z, _⟩ | z
                · exact cd7.s z
                · rw [cd7.h] at eb; cases eb; exact z
          · cases run
        · rename_i ρ5 e6
          refine vt σ4 H3 S2 ρ4 (.ok false) ρ5 _ p4 e6 fun b H5 S5 p5 q5 r5 => ?_
          cases r5
          simp only [Bool.false_eq_true, if_false]
          have cd5 := cd4.step q5
          refine ⟨S5, kill ρ5 vs, acc, done, todo, Rep.turn hs o4 p5, Stq.turn hs o4 (q4'.trans q5), ⟨cd5.h, cd5.s, fun z => ?_⟩, q5.rpA p4 ra4, run, hds⟩
          rw [show L2.wipe σ vs = L2.wipe σ4 vs by rw [wipe_only hs o4, wipe_wipe]] at z
          exact cd5.l (liv_wipe z)
        · cases run
      · have ei : i = r.ds.length := by omega
        subst ei
        rw [List.drop_length] at run
        cases run
        rw [List.append_nil] at hds
        subst hds
        refine .inl ⟨w2 rfl, G (.ref D) H2 S2 p2.unwipe.unpin (q1.trans (Stq.unpin q2.outOf)) ⟨D, rfl, ⟨acc, cd.h, ra⟩, cd.s, fun ⟨j, x, o, f1, f2, f3⟩ => ?_, q1.gone nD⟩⟩
        obtain ⟨y, f1, f2⟩ := unpin_ob f1 f2
        exact cd.l (liv_unwipe ⟨j, y, o, f1, f2, f3⟩)
    · rw [if_neg hl] at e4; cases e4
  · exact vi σ H S ρ (.error x) ρ' _ p e1 G
end
end Vm
/-! ### comprehensions and the like, as rules; d.get; all(e for x in xs) -/
namespace Vm
open PySem PySem.Spec PyProof.Rows L2 Ky
section
variable {X : Cx} {c : Cn} {W : WX} {fx : List Nat}
structure VTs (X : Cx) (c : Cn) (W : WX) (ifs : List Expr) (t : TT) (f : M Bool) : Prop where
  pe : PTs X ifs t
  vt : VTt c W t f
theorem VTs.nil : VTs X c W [] tYes xYes := ⟨pts_nil, Vt.yes⟩
theorem VTs.one {e : Expr} {t : TT} {f : M Bool} (h : VT X c W e t f) : VTs X c W [e] t f := ⟨pts_one h.pe, h.vt⟩
theorem VE.lc {us : List Nat} {elt tg iter : Expr} {ifs : List Expr} {scope : Scope} {own : List (Str × Nat)} {pos : Pos} {wi : TI} {g : TG} {tt : TT} {te : TE} {fi : M IR} {tgt : XG} {ft : M Bool} {fe : M R} (hs : ∀ i ∈ us, i ∈ own.map (·.2)) (hc : X.calm = true) (hN : X.N.Nodup) (hi : VI X c W tg iter wi fi) (ok : BlkOk X.N X.env.scope scope own)
    (hg : ∀ (s : Shared) (H : Hp) (C : Addr) (cl : List (Str × Addr)) (fp : List Addr), VG (X.blk s H scope (compEnvC scope cl C X.env) fp) c [] us tg g tgt) (ht : ∀ (s : Shared) (H : Hp) (C : Addr) (cl : List (Str × Addr)) (fp : List Addr), VTs (X.blk s H scope (compEnvC scope cl C X.env) fp) c W0 ifs tt ft)
    (he : ∀ (s : Shared) (H : Hp) (C : Addr) (cl : List (Str × Addr)) (fp : List Addr), VE (X.blk s H scope (compEnvC scope cl C X.env) fp) c W0 elt te fe) (hf : ∀ x, foldedSetIterable iter X.env x = pure x := by intro _; rfl) :
    VE X c W (.ListComp elt [⟨tg, iter, ifs, 0⟩] scope pos) (tLc wi g tt te (own.map (·.2))) (xLc (own.map (·.2)) fi tgt ft fe) :=
  ⟨pe_lc hc hN hi.pe ok (fun s H C cl fp => (hg s H C cl fp).pe) (fun s H C cl fp => (ht s H C cl fp).pe) (fun s H C cl fp => (he s H C cl fp).pe) hf,
    Vt.lc hs hi.vt (hg X.s_0 X.H_0 0 [] []).vt (ht X.s_0 X.H_0 0 [] []).vt (he X.s_0 X.H_0 0 [] []).vt⟩
theorem VS.setLc {i : Nat} {y : Str} {py : Pos} {us : List Nat} {elt tg iter : Expr} {ifs : List Expr} {scope : Scope} {own : List (Str × Nat)} {pos spos : Pos} {wi : TI} {g : TG} {tt : TT} {te : TE} {fi : M IR} {tgt : XG} {ft : M Bool} {fe : M R} (hfx : i ∉ fx) (hs : ∀ i ∈ us, i ∈ own.map (·.2)) (hc : X.calm = true) (hN : X.N.Nodup) (hy : X.N[i]? = some y) (hyl : X.env.scope.names.lookup y = some .local)
    (hsw : swapsWith (.ListComp elt [⟨tg, iter, ifs, 0⟩] scope pos) (some (.Name y py)) spos.line X.env = pure true) (hi : VI X c W tg iter wi fi) (ok : BlkOk X.N X.env.scope scope own)
    (hg : ∀ (s : Shared) (H : Hp) (C : Addr) (cl : List (Str × Addr)) (fp : List Addr), VG (X.blk s H scope (compEnvC scope cl C X.env) fp) c [] us tg g tgt) (ht : ∀ (s : Shared) (H : Hp) (C : Addr) (cl : List (Str × Addr)) (fp : List Addr), VTs (X.blk s H scope (compEnvC scope cl C X.env) fp) c W0 ifs tt ft)
    (he : ∀ (s : Shared) (H : Hp) (C : Addr) (cl : List (Str × Addr)) (fp : List Addr), VE (X.blk s H scope (compEnvC scope cl C X.env) fp) c W0 elt te fe) (hf : ∀ x, foldedSetIterable iter X.env x = pure x := by intro _; rfl) :
    VS X c W fx (.Assign [.Name y py] (.ListComp elt [⟨tg, iter, ifs, 0⟩] scope pos) spos) (tAsg (tLc wi g tt te (own.map (·.2))) (gName i)) (sSet i (xLc (own.map (·.2)) fi tgt ft fe)) :=
  ⟨ps_setLc hc hN hy hyl hsw hi.pe ok (fun s H C cl fp => (hg s H C cl fp).pe) (fun s H C cl fp => (ht s H C cl fp).pe) (fun s H C cl fp => (he s H C cl fp).pe) hf,
    VSt.set hfx (Vt.lc hs hi.vt (hg X.s_0 X.H_0 0 [] []).vt (ht X.s_0 X.H_0 0 [] []).vt (he X.s_0 X.H_0 0 [] []).vt)⟩
/-! all(e for x in xs) -/
def allL (i : Nat) (vs : List Nat) (fe : M R) : List D → Env → Option (Bool × Env)
  | [], ρ => some (true, ρ)
  | d :: ds, ρ => match fe (ρ.set i (some (.dat d))) with
    | some (.ok (.dat (.bool true)), ρ3) => allL i vs fe ds (kill ρ3 vs)
    | some (.ok (.dat (.bool false)), ρ3) => some (false, kill ρ3 vs)
    | _ => none
def xAllG (i : Nat) (vs : List Nat) (fi : M IR) (fe : M R) : M R := fi.bind fun r => fun ρ => (allL i vs fe r.ds (kill (pinE r.ps ρ) vs)).map fun q => (.ok (.dat (.bool q.1)), unpinE r.ps ρ (kill q.2 vs))
/-- the state ahead of turn k -/
def allS (i : Nat) (vs : List Nat) (fe : M R) (ds : List D) (ρ : Env) : Nat → Option Env
  | 0 => some ρ
  | k + 1 => (allS i vs fe ds ρ k).bind fun ρ1 => (ds[k]?).bind fun d => match fe (ρ1.set i (some (.dat d))) with
    | some (.ok (.dat (.bool true)), ρ3) => some (kill ρ3 vs)
    | _ => none
def allB (i : Nat) (vs : List Nat) (fe : M R) (ds : List D) (ρ : Env) (k : Nat) : Bool := match (allS i vs fe ds ρ k).bind fun ρ1 => (ds[k]?).bind fun d => fe (ρ1.set i (some (.dat d))) with
  | some (.ok (.dat (.bool b)), _) => b
  | _ => false
theorem Stq.tabbed {σ : Sl} {ρ : Env} {S : Addr → Prop} {H H' : Hp} {P : Addr} (t : GxR.TabG H P) (tb : GxR.Tabbed P H H') : Gro H H' := Gro.tab t tb
theorem Vt.allG {x : Str} {i : Nat} {vs : List Nat} {wi : TI} {te : TE} {fi : M IR} {fe : M R} (hx : x ∈ c.tf) (hi : i ∈ vs) (vi : VIt c W wi fi) (ve : VEt c W0 te fe) : VEt c W (Gx.tAllG (tA c.K x) wi i te vs) (xAllG i vs fi fe) := by
  intro σ H S ρ res ρ' Q p e G
  rcases M.bind_some e with ⟨r, ρ1, e1, e2⟩ | ⟨x, e1, rfl⟩
  · obtain ⟨⟨bb, ρe⟩, e3, e4⟩ := Option.map_eq_some_iff.mp e2
    cases e4
    refine vi σ H S ρ (.ok r) ρ1 _ p e1 fun J H1 S1 p1 q1 w => ⟨p1.tabs x hx, fun H2 tb => ?_⟩
    have g2 := Gro.tab (p1.tabs x hx) tb
    have pw := (p1.pin (ps := r.ps)).wipe vs
    let ρw := kill (pinE r.ps ρ1) vs
    have done : ∀ b H3, (∃ S3, Rep c (L2.wipe σ vs) H3 S3 ρe ∧ Stq [] (L2.wipe σ vs) ρw S1 H1 (L2.wipe σ vs) ρe S3 H3 ∧ b = bb) → Q (.bl b) H3 := fun b H3 ⟨S3, p3, q3, eb⟩ => by
      subst eb
      exact G _ H3 S3 p3.unwipe.unpin (q1.trans (Stq.unpin q3.outOf)) (Rp.bl _)
    refine ⟨r.ds.length, allB i vs fe r.ds ρw, fun k H3 => ∃ S3 ρ3, allS i vs fe r.ds ρw k = some ρ3 ∧ Rep c (L2.wipe σ vs) H3 S3 ρ3 ∧ Stq [] (L2.wipe σ vs) ρw S1 H1 (L2.wipe σ vs) ρ3 S3 H3 ∧ allL i vs fe (r.ds.drop k) ρ3 = some (bb, ρe),
      fun k H3 => ∃ S3 ρ3, Rep c (L2.wipe σ vs) H3 S3 ρ3 ∧ Stq [] (L2.wipe σ vs) ρw S1 H1 (L2.wipe σ vs) ρ3 S3 H3 ∧ (allB i vs fe r.ds ρw k = true → allS i vs fe r.ds ρw (k + 1) = some ρ3 ∧ allL i vs fe (r.ds.drop (k + 1)) ρ3 = some (bb, ρe)) ∧ (allB i vs fe r.ds ρw k = false → bb = false ∧ ρ3 = ρe),
      ⟨S1, _, rfl, pw.gro g2, stq_gro g2, e3⟩, ?_, ?_, ?_, ?_⟩
    · rintro k H3 hk ⟨S3, ρ3, es, p3, q3, run⟩
      obtain ⟨w1, w2⟩ := w k H3 S3 σ _ p3.unwipe q3.outOf
      obtain ⟨go, wy⟩ := w1 hk
      refine ⟨go, fun y H4 hy => ?_⟩
      obtain ⟨g4, d, ed, rd⟩ := wy y H4 hy
      have ed' : r.ds.drop k = d :: r.ds.drop (k + 1) := by
        rw [List.drop_eq_getElem_cons hk]
        rw [List.getElem?_eq_getElem hk] at ed
        cases ed; rfl
      rw [ed'] at run
      have on : Only [i] (L2.wipe σ vs) ((L2.wipe σ vs).set i (some y)) := ⟨List.length_set .., fun j hj => List.getElem?_set_ne (fun z => hj (by rw [z]; exact List.mem_cons_self))⟩
      have hs : ∀ j ∈ [i], j ∈ vs := fun j hj => by rw [List.mem_singleton.mp hj]; exact hi
      refine ⟨by rw [wipe_only hs on, wipe_wipe], ?_⟩
      have p4 := (p3.gro g4).put (i := i) rd
      have q4 : Stq [] (L2.wipe σ vs) ρw S1 H1 ((L2.wipe σ vs).set i (some y)) (ρ3.set i (some (.dat d))) S3 H4 := (q3.trans (stq_gro g4)).trans (Stq.put (List.not_mem_nil))
      unfold allL at run
      have fin : ∀ b ρ5, fe (ρ3.set i (some (.dat d))) = some (.ok (.dat (.bool b)), ρ5) → (b = true → allL i vs fe (r.ds.drop (k + 1)) (kill ρ5 vs) = some (bb, ρe)) → (b = false → bb = false ∧ kill ρ5 vs = ρe) →
          te ((L2.wipe σ vs).set i (some y)) H4 fun z H5 => z = .bl (allB i vs fe r.ds ρw k) ∧ ∃ S3 ρ3, Rep c (L2.wipe σ vs) H5 S3 ρ3 ∧ Stq [] (L2.wipe σ vs) ρw S1 H1 (L2.wipe σ vs) ρ3 S3 H5 ∧ (allB i vs fe r.ds ρw k = true → allS i vs fe r.ds ρw (k + 1) = some ρ3 ∧ allL i vs fe (r.ds.drop (k + 1)) ρ3 = some (bb, ρe)) ∧ (allB i vs fe r.ds ρw k = false → bb = false ∧ ρ3 = ρe) := fun b ρ5 e5 h1 h2 => by
        have hb : allB i vs fe r.ds ρw k = b := by
          unfold allB
          rw [es, ed]
          simp only [Option.bind_some]
          rw [e5]
        refine ve _ H4 S3 _ (.ok (.dat (.bool b))) ρ5 _ p4 e5 fun v H5 S5 p5 q5 r5 => ?_
        cases r5
        rw [hb]
        refine ⟨rfl, S5, kill ρ5 vs, Rep.turn hs on p5, Stq.turn hs on (q4.trans q5), fun eb => ⟨?_, h1 eb⟩, fun eb => h2 eb⟩
        subst eb
        unfold allS
        rw [es, ed]
        simp only [Option.bind_some]
        rw [e5]
      split at run
      · rename_i ρ5 e5
        exact fin true ρ5 e5 (fun _ => run) (fun z => nomatch z)
      · rename_i ρ5 e5
        cases run
        exact fin false ρ5 e5 (fun z => nomatch z) (fun _ => ⟨rfl, rfl⟩)
      · cases run
    · rintro k H3 ⟨S3, ρ3, p3, q3, h1, _⟩ eb
      obtain ⟨h2, h3⟩ := h1 eb
      exact ⟨S3, ρ3, h2, p3, q3, h3⟩
    · rintro k H3 ⟨S3, ρ3, p3, q3, _, h1⟩ eb
      obtain ⟨h2, h3⟩ := h1 eb
      subst h3
      exact done false H3 ⟨S3, p3, q3, h2.symm⟩
    · rintro H3 ⟨S3, ρ3, es, p3, q3, run⟩
      obtain ⟨w1, w2⟩ := w r.ds.length H3 S3 σ _ p3.unwipe q3.outOf
      rw [List.drop_length] at run
      cases run
      exact ⟨w2 rfl, done true H3 ⟨S3, p3, q3, rfl⟩⟩
  · exact vi σ H S ρ (.error x) ρ' _ p e1 G
theorem VE.allG {cA' : Addr} {kk i : Nat} {dx : Str} {elt iter : Expr} {x : Str} {px p pos gpos : Pos} {scope : Scope} {own : List (Str × Nat)} {wi : TI} {te : TE} {fi : M IR} {fe : M R} (hx : dx ∈ c.tf) (hio : i ∈ own.map (·.2))
    (hr : Room (kk + 1) X.A) (hg : Gl X "all") (hm : X.mg "all" = none) (hb : bootBuiltins "all" = some (.builtin "all")) (TB : GxR.TabB X.base X.mg cA' (tA c.K dx)) (hcode : X.env.code = .ref cA') (S : GxR.GenS X.env scope x) (hN : X.N.Nodup) (hxi : X.N[i]? = some x) (ok : BlkOk X.N X.env.scope scope own)
    (hi : VI X c W (.Name x px) iter wi fi)
    (hel : ∀ (A : Around) (s : Shared) (H : Hp) (cl : List (Str × Addr)) (C : Addr) (code : Value) (fp : List Addr), Room kk A → VE (Gx.gxC X A s H (genEnv scope cl C code builtinsNs X.env) fp) c W0 elt te fe) (A0 : Around) (r0 : Room kk A0)
    (hs : ∀ v, genFold iter X.env v = pure v)
    (he : starEach [Gx.genE elt (.Name x px) iter scope gpos] X.env = (false, eval (Gx.genE elt (.Name x px) iter scope gpos) X.env) :: starEach [] X.env := by rfl) :
    VE X c W (.Call (.Name "all" p) [Gx.genE elt (.Name x px) iter scope gpos] [] pos) (Gx.tAllG (tA c.K dx) wi i te (own.map (·.2))) (xAllG i (own.map (·.2)) fi fe) :=
  ⟨Gx.pe_allG hr hg hm hb TB hcode S hN hxi ok hi.pe (fun A s H cl C code fp r => (hel A s H cl C code fp r).pe) hs he, Vt.allG hx hio hi.vt (hel A0 X.s_0 X.H_0 [] 0 .none [] r0).vt⟩
end
end Vm
/-! ### what cannot happen; several names set at once; lists of a range; bits -/
namespace Vm
open PySem PySem.Spec PyProof.Rows L2 Ky
section
variable {X : Cx} {c : Cn} {W : WX} {fx : List Nat} {σ σ1 σ' σ0 : Sl} {H H1 H' H0 : Hp} {S S1 S' S0 : Addr → Prop} {ρ ρ1 ρ' ρ0 : Env}
def sNever : XS := fun _ => none
theorem VS.never {st : Stmt} : VS X c W fx st tNever sNever := ⟨ps_never, fun σ H S ρ fl ρ' D p e G => by cases e⟩
/-! a, b = x, y -/
/-- a slot's object is taken out as data; else the same -/
def thw (r : R) (ρ : Env) : Option (R × Env) := match r with
  | .slot i => (frzAt ρ i).map fun p => (.dat p.1, p.2)
  | r => some (r, ρ)
def Nsl : R → Prop
  | .slot _ => False
  | _ => True
def Apart (r : R) (v : V) (r' : R) (v' : V) : Prop := ∀ o o', r = .own o → r' = .own o' → v ≠ v'
theorem thw_ok {r r' : R} {v : V} (p : Rep c σ H S ρ) (h : RR c σ ρ H0 r v H S) (e : thw r ρ = some (r', ρ')) : ∃ S', Rep c σ H S' ρ' ∧ Stq [] σ ρ S H σ ρ' S' H ∧ RR c σ ρ' H0 r' v H S' ∧ Nsl r' ∧ (∀ o, r' = .own o → r = .own o) := by
  cases r with
  | dat d => cases e; exact ⟨S, p, .refl, h, trivial, fun o z => z⟩
  | own o => cases e; exact ⟨S, p, .refl, h, trivial, fun o z => z⟩
  | slot i =>
    obtain ⟨⟨d, ρ2⟩, e1, e2⟩ := Option.map_eq_some_iff.mp e
    cases e2
    obtain ⟨S', p', q', r', _, _⟩ := keep_ok (r := .slot i) (d := d) (Stq.refl (fx := [])) p h e1
    exact ⟨S', p', q', r', trivial, fun o z => nomatch z⟩
theorem set1_ok {i : Nat} {r : R} {v : V} (hn : Nsl r) (hi : i ∉ fx) (q : Stq fx σ0 ρ0 S0 H0 σ ρ S H) (p : Rep c σ H S ρ) (h : RR c σ ρ H0 r v H S) (e : setR i r ρ = some ρ') :
    Rep c (σ.set i (some v)) H S ρ' ∧ Stq fx σ0 ρ0 S0 H0 (σ.set i (some v)) ρ' S H ∧ ∀ r' v', Nsl r' → Apart r v r' v' → RR c σ ρ H0 r' v' H S → RR c (σ.set i (some v)) ρ' H0 r' v' H S := by
  cases r with
  | slot _ => exact hn.elim
  | dat d =>
    cases e
    refine ⟨p.put h, q.trans (Stq.put hi), fun r' v' n' _ h' => ?_⟩
    cases r' with
    | slot _ => exact n'.elim
    | dat d' => exact h'
    | own o' =>
      obtain ⟨a, h1, h2, h3, h4, h5⟩ := h'
      refine ⟨a, h1, h2, h3, fun ⟨j, x, o, f1, f2, f3⟩ => ?_, h5⟩
      rcases set_get f1 with ⟨rfl, f1, _⟩ | ⟨n, f1⟩
      · cases f1; cases f2
      · rw [List.getElem?_set_ne n] at f3; exact h4 ⟨j, x, o, f1, f2, f3⟩
  | own o =>
    cases e
    obtain ⟨a, rfl, h1, h2, h3, h4⟩ := h
    refine ⟨p.putO h1 h2 h3, Stq.putO hi q h4, fun r' v' n' ap h' => ?_⟩
    cases r' with
    | slot _ => exact n'.elim
    | dat d' => exact h'
    | own o' =>
      obtain ⟨b, rfl, k1, k2, k3, k4⟩ := h'
      refine ⟨b, rfl, k1, k2, fun ⟨j, x, o2, f1, f2, f3⟩ => ?_, k4⟩
      rcases set_get f1 with ⟨rfl, f1, hl⟩ | ⟨n, f1⟩
      · rw [List.getElem?_set_self (by rw [p.len]; exact hl)] at f3
        cases f3
        exact ap o o' rfl rfl rfl
      · rw [List.getElem?_set_ne n] at f3; exact k3 ⟨j, x, o2, f1, f2, f3⟩
/-- both are to be new: the later one stands elsewhere -/
theorem apart_of {r r' : R} {v v' : V} (h : RR c σ ρ H0 r v H1 S) (h' : RR c σ' ρ' H1 r' v' H S') : Apart r v r' v' := by
  intro o o' e e' z
  subst e e' z
  obtain ⟨a, rfl, h1, _⟩ := h
  obtain ⟨b, e, _, _, _, h5⟩ := h'
  cases e
  obtain ⟨u, eu, _⟩ := h1.mut
  rw [eu] at h5; cases h5
def sPar2 (i j : Nat) (f1 f2 : M R) : XS := fun ρ => match f1 ρ with
  | some (.ok r1, ρ1) => (match f2 ρ1 with
    | some (.ok r2, ρ2) => (thw r1 ρ2).bind fun p1 => (thw r2 p1.2).bind fun p2 => (setR i p1.1 p2.2).bind fun ρ3 => (setR j p2.1 ρ3).map fun ρ4 => (.nx, ρ4)
    | some (.error x, ρ2) => some (.ex x, ρ2)
    | none => none)
  | some (.error x, ρ1) => some (.ex x, ρ1)
  | none => none
theorem VSt.par {i j : Nat} (hfi : i ∉ fx) (hfj : j ∉ fx) {t1 t2 : TE} {f1 f2 : M R} (h1 : VEt c W t1 f1) (h2 : VEt c W t2 f2) : VSt c W fx (tPar i j (tCons t1 (tCons t2 tNil))) (sPar2 i j f1 f2) := by
  intro σ H S ρ fl ρ' D p e G
  unfold sPar2 at e
  split at e
  · rename_i r1 ρ1 e1
    split at e
    · rename_i r2 ρ2 e2
      obtain ⟨⟨ra, ρa⟩, ea, e⟩ := Option.bind_eq_some_iff.mp e
      obtain ⟨⟨rb, ρb⟩, eb, e⟩ := Option.bind_eq_some_iff.mp e
      obtain ⟨ρ3, e3, e⟩ := Option.bind_eq_some_iff.mp e
      obtain ⟨ρ4, e4, e⟩ := Option.map_eq_some_iff.mp e
      cases e
      refine h1 σ H S ρ (.ok r1) _ _ p e1 fun v1 H1 S1 p1 q1 k1 => ?_
      refine h2 σ H1 S1 ρ1 (.ok r2) _ _ p1 e2 fun v2 H2 S2 p2 q2 k2 => ?_
      have ap := apart_of k1 k2
      have k1 := RR.step p1 q2 k1
      have k2 : RR c σ ρ2 H r2 v2 H2 S2 := RR.back k2 fun _ => q1.gone
      obtain ⟨Sa, pa, qa, ka, na, wa⟩ := thw_ok p2 k1 ea
      have k2 := RR.step p2 qa k2
      obtain ⟨Sb, pb, qb, kb, nb, wb⟩ := thw_ok pa k2 eb
      have ka := RR.step pa qb ka
      have q : Stq fx σ ρ S H σ ρb Sb H2 := ((q1.trans q2).trans (qa.trans qb)).any
      obtain ⟨p3, q3, s3⟩ := set1_ok na hfi q pb ka e3
      obtain ⟨p4, q4, _⟩ := set1_ok nb hfj q3 p3 (s3 rb v2 nb (fun o o' y z => ap o o' (wa o y) (wb o' z)) kb) e4
      exact ⟨v1, v2, rfl, G _ _ _ p4 q4⟩
    · rename_i x ρ2 e2
      cases e
      exact h1 σ H S ρ (.ok r1) _ _ p e1 fun v1 H1 S1 p1 q1 k1 => h2 σ H1 S1 ρ1 (.error x) _ _ p1 e2 (goodE_ex (D := D) (G.later q1.any))
    · cases e
  · rename_i x ρ1 e1
    cases e
    exact h1 σ H S ρ (.error x) _ _ p e1 (goodE_ex (D := D) G)
  · cases e
theorem VS.par {i j : Nat} {x y : Str} {a b : Expr} {t1 t2 : TE} {f1 f2 : M R} {px py pt pos : Pos} {kt k2 pt2} (hfi : i ∉ fx) (hfj : j ∉ fx) (hc : X.calm = true) (hN : X.N.Nodup) (hi : X.N[i]? = some x) (hj : X.N[j]? = some y) (hij : i ≠ j)
    (hx : X.env.scope.names.lookup x = some .local) (hy : X.env.scope.names.lookup y = some .local) (h1 : VE X c W a t1 f1) (h2 : VE X c W b t2 f2) 
    (hw : swappedStores [.Tuple [.Name x px, .Name y py] kt pt] (.Tuple [a, b] k2 pt2) X.env = pure (some [x, y]))
    (hs : swapsWithSole [.Tuple [.Name x px, .Name y py] kt pt] (.Tuple [a, b] k2 pt2) pos.line X.env = pure false := by rfl)
    (n1 : starEach [a, b] X.env = (false, eval a X.env) :: starEach [b] X.env := by rfl) (n2 : starEach [b] X.env = (false, eval b X.env) :: starEach [] X.env := by rfl) :
    VS X c W fx (.Assign [.Tuple [.Name x px, .Name y py] kt pt] (.Tuple [a, b] k2 pt2) pos) (tPar i j (tCons t1 (tCons t2 tNil))) (sPar2 i j f1 f2) :=
  ⟨ps_par hc hN hi hj hij hx hy (pa_cons h1.pe (pa_cons h2.pe pa_nil n2) n1) hw hs, VSt.par hfi hfj h1.vt h2.vt⟩
def sPar3 (i j l : Nat) (f1 f2 f3 : M R) : XS := fun ρ => match f1 ρ with
  | some (.ok r1, ρ1) => (match f2 ρ1 with
    | some (.ok r2, ρ2) => (match f3 ρ2 with
      | some (.ok r3, ρ3) => (thw r1 ρ3).bind fun p1 => (thw r2 p1.2).bind fun p2 => (thw r3 p2.2).bind fun p3 => (setR i p1.1 p3.2).bind fun ρ4 => (setR j p2.1 ρ4).bind fun ρ5 => (setR l p3.1 ρ5).map fun ρ6 => (.nx, ρ6)
      | some (.error x, ρ2) => some (.ex x, ρ2)
      | none => none)
    | some (.error x, ρ2) => some (.ex x, ρ2)
    | none => none)
  | some (.error x, ρ1) => some (.ex x, ρ1)
  | none => none
theorem VSt.par3 {i j l : Nat} (hfi : i ∉ fx) (hfj : j ∉ fx) (hfl : l ∉ fx) {t1 t2 t3 : TE} {f1 f2 f3 : M R} (h1 : VEt c W t1 f1) (h2 : VEt c W t2 f2) (h3 : VEt c W t3 f3) : VSt c W fx (tPar3 i j l (tCons t1 (tCons t2 (tCons t3 tNil)))) (sPar3 i j l f1 f2 f3) := by
  intro σ H S ρ fl ρ' D p e G
  unfold sPar3 at e
  split at e
  · rename_i r1 ρ1 e1
    split at e
    · rename_i r2 ρ2 e2
      split at e
      · rename_i r3 ρ3 e3
        obtain ⟨⟨ra, ρa⟩, ea, e⟩ := Option.bind_eq_some_iff.mp e
        obtain ⟨⟨rb, ρb⟩, eb, e⟩ := Option.bind_eq_some_iff.mp e
        obtain ⟨⟨rc, ρc⟩, ec, e⟩ := Option.bind_eq_some_iff.mp e
        obtain ⟨ρ4, e4, e⟩ := Option.bind_eq_some_iff.mp e
        obtain ⟨ρ5, e5, e⟩ := Option.bind_eq_some_iff.mp e
        obtain ⟨ρ6, e6, e⟩ := Option.map_eq_some_iff.mp e
        cases e
        refine h1 σ H S ρ (.ok r1) _ _ p e1 fun v1 H1 S1 p1 q1 k1 => ?_
        refine h2 σ H1 S1 ρ1 (.ok r2) _ _ p1 e2 fun v2 H2 S2 p2 q2 k2 => ?_
        refine h3 σ H2 S2 ρ2 (.ok r3) _ _ p2 e3 fun v3 H3 S3 p3 q3 k3 => ?_
        have a12 := apart_of k1 k2
        have a23 := apart_of k2 k3
        have k1 := RR.step p1 q2 k1
        have a13 := apart_of k1 k3
        have k1 := RR.step p2 q3 k1
        have k2 := RR.step p2 q3 (RR.back k2 fun _ => q1.gone)
        have k3 : RR c σ ρ3 H r3 v3 H3 S3 := RR.back k3 fun _ => (q1.trans q2).gone
        obtain ⟨Sa, pa, qa, ka, na, wa⟩ := thw_ok p3 k1 ea
        obtain ⟨Sb, pb, qb, kb, nb, wb⟩ := thw_ok pa (RR.step p3 qa k2) eb
        obtain ⟨Sc, pc, qc, kc, nc, wc⟩ := thw_ok pb (RR.step pa qb (RR.step p3 qa k3)) ec
        have ka := RR.step pb qc (RR.step pa qb ka)
        have kb := RR.step pb qc kb
        have q : Stq fx σ ρ S H σ ρc Sc H3 := ((q1.trans (q2.trans q3)).trans (qa.trans (qb.trans qc))).any
        obtain ⟨p4, q4, s4⟩ := set1_ok na hfi q pc ka e4
        have kb := s4 rb v2 nb (fun o o' y z => a12 o o' (wa o y) (wb o' z)) kb
        have kc := s4 rc v3 nc (fun o o' y z => a13 o o' (wa o y) (wc o' z)) kc
        obtain ⟨p5, q5, s5⟩ := set1_ok nb hfj q4 p4 kb e5
        obtain ⟨p6, q6, _⟩ := set1_ok nc hfl q5 p5 (s5 rc v3 nc (fun o o' y z => a23 o o' (wb o y) (wc o' z)) kc) e6
        exact ⟨v1, v2, v3, rfl, G _ _ _ p6 q6⟩
      · rename_i x ρ2 e3
        cases e
        exact h1 σ H S ρ (.ok r1) _ _ p e1 fun v1 H1 S1 p1 q1 k1 => h2 σ H1 S1 ρ1 (.ok r2) _ _ p1 e2 fun v2 H2 S2 p2 q2 k2 => h3 σ H2 S2 ρ2 (.error x) _ _ p2 e3 (goodE_ex (D := D) (G.later (q1.trans q2).any))
      · cases e
    · rename_i x ρ2 e2
      cases e
      exact h1 σ H S ρ (.ok r1) _ _ p e1 fun v1 H1 S1 p1 q1 k1 => h2 σ H1 S1 ρ1 (.error x) _ _ p1 e2 (goodE_ex (D := D) (G.later q1.any))
    · cases e
  · rename_i x ρ1 e1
    cases e
    exact h1 σ H S ρ (.error x) _ _ p e1 (goodE_ex (D := D) G)
  · cases e
theorem VS.par3 {i j l : Nat} {x y z : Str} {a b d : Expr} {t1 t2 t3 : TE} {f1 f2 f3 : M R} {px py pz pt pos : Pos} {kt k2 pt2} (hfi : i ∉ fx) (hfj : j ∉ fx) (hfl : l ∉ fx) (hc : X.calm = true) (hN : X.N.Nodup) (hi : X.N[i]? = some x) (hj : X.N[j]? = some y) (hl : X.N[l]? = some z) (hij : i ≠ j) (hil : i ≠ l) (hjl : j ≠ l)
    (hx : X.env.scope.names.lookup x = some .local) (hy : X.env.scope.names.lookup y = some .local) (hz : X.env.scope.names.lookup z = some .local) (h1 : VE X c W a t1 f1) (h2 : VE X c W b t2 f2) (h3 : VE X c W d t3 f3)
    (hw : swappedStores [.Tuple [.Name x px, .Name y py, .Name z pz] kt pt] (.Tuple [a, b, d] k2 pt2) X.env = pure (some [x, y, z]))
    (hs : swapsWithSole [.Tuple [.Name x px, .Name y py, .Name z pz] kt pt] (.Tuple [a, b, d] k2 pt2) pos.line X.env = pure false := by rfl)
    (n1 : starEach [a, b, d] X.env = (false, eval a X.env) :: starEach [b, d] X.env := by rfl) (n2 : starEach [b, d] X.env = (false, eval b X.env) :: starEach [d] X.env := by rfl) (n3 : starEach [d] X.env = (false, eval d X.env) :: starEach [] X.env := by rfl) :
    VS X c W fx (.Assign [.Tuple [.Name x px, .Name y py, .Name z pz] kt pt] (.Tuple [a, b, d] k2 pt2) pos) (tPar3 i j l (tCons t1 (tCons t2 (tCons t3 tNil)))) (sPar3 i j l f1 f2 f3) :=
  ⟨ps_par3 hc hN hi hj hl hij hil hjl hx hy hz (pa_cons h1.pe (pa_cons h2.pe (pa_cons h3.pe pa_nil n3) n2) n1) hw hs, VSt.par3 hfi hfj hfl h1.vt h2.vt h3.vt⟩
/-! list(range(..)), tuple(range(..)) -/
theorem rpA_rg {K : PySem.W.Frag} (i j : Int) : RpA K H S (rgV i j) (rngD i j) := by
  unfold rgV rngD
  generalize List.range (j - i).toNat = l
  induction l with
  | nil => exact .nil
  | cons x l ih => exact .cons (.int _) ih
def cL (i j : Int) : Bool := cR i && cR j && decide ((j - i).toNat ≤ 2 ^ 24)
theorem cL_ok {i j : Int} (h : cL i j = true) : RgOk i j := by
  unfold cL cR at h
  simp only [Bool.and_eq_true, decide_eq_true_eq] at h
  exact ⟨h.1.1.1, h.1.1.2, h.1.2.1, h.1.2.2, h.2⟩
def dListR1 : D → Option R
  | .int j => if cL 0 j then some (.own (.lst (rngD 0 j))) else none
  | _ => none
def dTupR1 : D → Option R
  | .int j => if cL 0 j then some (.dat (.tuple (rngD 0 j))) else none
  | _ => none
def dListR2 : D → D → Option R
  | .int i, .int j => if cL i j then some (.own (.lst (rngD i j))) else none
  | _, _ => none
def dTupR2 : D → D → Option R
  | .int i, .int j => if cL i j then some (.dat (.tuple (rngD i j))) else none
  | _, _ => none
def xListRg1 (fa : M R) : M R := xOp1 dListR1 fa
def xTupleRg1 (fa : M R) : M R := xOp1 dTupR1 fa
def xListRg2 (fa fb : M R) : M R := xOp2 dListR2 fa fb
def xTupleRg2 (fa fb : M R) : M R := xOp2 dTupR2 fa fb
theorem VE.listRg1 {e : Expr} {t : TE} {fa : M R} {p p2 pos pos2 : Pos} (hc : X.calm = true) (hg : Gl X "list") (hm : X.mg "list" = none) (hg2 : Gl X "range") (hm2 : X.mg "range" = none) (he : VE X c W e t fa) (na : starEach [.Call (.Name "range" p2) [e] [] pos2] X.env = (false, eval (.Call (.Name "range" p2) [e] [] pos2) X.env) :: starEach [] X.env := by rfl) (nb : starEach [e] X.env = (false, eval e X.env) :: starEach [] X.env := by rfl) :
    VE X c W (.Call (.Name "list" p) [.Call (.Name "range" p2) [e] [] pos2] [] pos) (tLstRg (tRg1 t)) (xListRg1 fa) := by
  refine ⟨pe_listRg hc hg hm (prg_1 hg2 hm2 he.pe nb) na, Vt.op1 (g := dListR1) (r := fun x H Q => ∃ n, x = .int n ∧ RgOk 0 n ∧ ∀ q, H q = none → Q (.ref q) (upd H q (.lst (rgV 0 n)))) ?_ he.vt⟩
  intro H S x d res Q hx hg G
  unfold dListR1 at hg
  split at hg
  · split at hg
    · rename_i j hl
      cases hg
      refine ⟨j, hx.int_, cL_ok hl, fun q n => ?_⟩
      obtain ⟨g, o⟩ := ro_lst n (rpA_rg 0 j)
      exact G _ _ g o
    · cases hg
  · cases hg
theorem VE.tupleRg1 {e : Expr} {t : TE} {fa : M R} {p p2 pos pos2 : Pos} (hc : X.calm = true) (hg : Gl X "tuple") (hm : X.mg "tuple" = none) (hg2 : Gl X "range") (hm2 : X.mg "range" = none) (he : VE X c W e t fa) (na : starEach [.Call (.Name "range" p2) [e] [] pos2] X.env = (false, eval (.Call (.Name "range" p2) [e] [] pos2) X.env) :: starEach [] X.env := by rfl) (nb : starEach [e] X.env = (false, eval e X.env) :: starEach [] X.env := by rfl) :
    VE X c W (.Call (.Name "tuple" p) [.Call (.Name "range" p2) [e] [] pos2] [] pos) (tTupRg (tRg1 t)) (xTupleRg1 fa) := by
  refine ⟨pe_tupRg hc hg hm (prg_1 hg2 hm2 he.pe nb) na, Vt.op1 (g := dTupR1) (r := fun x H Q => ∃ n, x = .int n ∧ RgOk 0 n ∧ ∀ q, H q = none → Q (.ref q) (upd H q (.tup (rgV 0 n)))) ?_ he.vt⟩
  intro H S x d res Q hx hg G
  unfold dTupR1 at hg
  split at hg
  · split at hg
    · rename_i j hl
      cases hg
      refine ⟨j, hx.int_, cL_ok hl, fun q n => ?_⟩
      obtain ⟨g, o⟩ := ro_tup n (rpA_rg 0 j)
      exact G _ _ g o
    · cases hg
  · cases hg
theorem VE.listRg2 {e e2 : Expr} {t u : TE} {fa fb : M R} {p p2 pos pos2 : Pos} (hc : X.calm = true) (hg : Gl X "list") (hm : X.mg "list" = none) (hg2 : Gl X "range") (hm2 : X.mg "range" = none) (he : VE X c W e t fa) (he2 : VE X c W e2 u fb) (na : starEach [.Call (.Name "range" p2) [e, e2] [] pos2] X.env = (false, eval (.Call (.Name "range" p2) [e, e2] [] pos2) X.env) :: starEach [] X.env := by rfl) (nb : starEach [e, e2] X.env = (false, eval e X.env) :: starEach [e2] X.env := by rfl) (nc : starEach [e2] X.env = (false, eval e2 X.env) :: starEach [] X.env := by rfl) (hp : (backTo pos2 (starEach [e2] X.env)).any (·.1) = false := by rfl) :
    VE X c W (.Call (.Name "list" p) [.Call (.Name "range" p2) [e, e2] [] pos2] [] pos) (tLstRg (tRg2 t u)) (xListRg2 fa fb) := by
  refine ⟨pe_listRg hc hg hm (prg_2 hg2 hm2 he.pe he2.pe nb nc hp) na, Vt.op2 (g := dListR2) (r := fun x y H Q => ∃ i j, x = .int i ∧ y = .int j ∧ RgOk i j ∧ ∀ q, H q = none → Q (.ref q) (upd H q (.lst (rgV i j)))) ?_ he.vt he2.vt⟩
  intro H S x y d d2 res Q hx hy hg G
  unfold dListR2 at hg
  split at hg
  · split at hg
    · rename_i i j hl
      cases hg
      refine ⟨i, j, hx.int_, hy.int_, cL_ok hl, fun q n => ?_⟩
      obtain ⟨g, o⟩ := ro_lst n (rpA_rg i j)
      exact G _ _ g o
    · cases hg
  · cases hg
theorem VE.tupleRg2 {e e2 : Expr} {t u : TE} {fa fb : M R} {p p2 pos pos2 : Pos} (hc : X.calm = true) (hg : Gl X "tuple") (hm : X.mg "tuple" = none) (hg2 : Gl X "range") (hm2 : X.mg "range" = none) (he : VE X c W e t fa) (he2 : VE X c W e2 u fb) (na : starEach [.Call (.Name "range" p2) [e, e2] [] pos2] X.env = (false, eval (.Call (.Name "range" p2) [e, e2] [] pos2) X.env) :: starEach [] X.env := by rfl) (nb : starEach [e, e2] X.env = (false, eval e X.env) :: starEach [e2] X.env := by rfl) (nc : starEach [e2] X.env = (false, eval e2 X.env) :: starEach [] X.env := by rfl) (hp : (backTo pos2 (starEach [e2] X.env)).any (·.1) = false := by rfl) :
    VE X c W (.Call (.Name "tuple" p) [.Call (.Name "range" p2) [e, e2] [] pos2] [] pos) (tTupRg (tRg2 t u)) (xTupleRg2 fa fb) := by
  refine ⟨pe_tupRg hc hg hm (prg_2 hg2 hm2 he.pe he2.pe nb nc hp) na, Vt.op2 (g := dTupR2) (r := fun x y H Q => ∃ i j, x = .int i ∧ y = .int j ∧ RgOk i j ∧ ∀ q, H q = none → Q (.ref q) (upd H q (.tup (rgV i j)))) ?_ he.vt he2.vt⟩
  intro H S x y d d2 res Q hx hy hg G
  unfold dTupR2 at hg
  split at hg
  · split at hg
    · rename_i i j hl
      cases hg
      refine ⟨i, j, hx.int_, hy.int_, cL_ok hl, fun q n => ?_⟩
      obtain ⟨g, o⟩ := ro_tup n (rpA_rg i j)
      exact G _ _ g o
    · cases hg
  · cases hg
/-! x.bit_length() -/
def dBits : D → Option R
  | .int i => some (.dat (.int (Builtin.Int.intBits i : Nat)))
  | _ => none
def xBits (fa : M R) : M R := xOp1 dBits fa
theorem VE.bits {o : Expr} {t : TE} {fa : M R} {apos pos : Pos} (ho : VE X c W o t fa) (hbase : attributeBase o "bit_length" X.env (eval o X.env) = eval o X.env := by rfl) (hline : (apos.endLine == pos.line) = true := by rfl) : VE X c W (.Call (.Attribute o "bit_length" apos) [] [] pos) (tBits t) (xBits fa) := by
  refine ⟨pe_bits ho.pe hbase hline, Vt.op1 (g := dBits) (r := fun x H Q => ∃ i, x = .int i ∧ Q (.int (Builtin.Int.intBits i : Nat)) H) ?_ ho.vt⟩
  intro H S x d res Q hx hg G
  unfold dBits at hg
  split at hg
  · rename_i i
    cases hg
    exact ⟨i, hx.int_, G _ _ (.refl _) (Rp.int _)⟩
  · cases hg
/-! the types' names -/
theorem ty_int : tyOk "int" = true := by decide +kernel
theorem ty_bool : tyOk "bool" = true := by decide +kernel
theorem ty_str : tyOk "str" = true := by decide +kernel
theorem ty_list : tyOk "list" = true := by decide +kernel
theorem ty_tuple : tyOk "tuple" = true := by decide +kernel
theorem ty_dict : tyOk "dict" = true := by decide +kernel
end
end Vm
/-! ### d.get(k, x); xs[::-1]; zip, enumerate, reversed -/
namespace Vm
open PySem PySem.Spec PyProof.Rows L2 Ky
section
variable {X : Cx} {c : Cn} {W : WX} {fx : List Nat}
def dicOk : D → Bool
  | .dict kvs => (isSet kvs).isNone
  | _ => false
def xGet (fd fk fx : M R) : M R := fd.bind fun a => fun ρ1 => (look ρ1 a).bind fun d1 => if dicOk d1 then (fk.bind fun b => fx.bind fun x => fun ρ => (look ρ a).bind fun d => (look ρ b).bind fun k => (keepR x ρ).bind fun p => (dGet2 d k p.1).map fun r => (.ok (.dat r), p.2)) ρ1 else none
theorem dict_at {H : Hp} {S : Addr → Prop} {v : V} {kvs : List (D × D)} (h : RpV c H S v (.dict kvs)) (n : (isSet kvs).isNone = true) : ∃ a ks, v = .ref a ∧ H a = some (.dK ks) ∧ RpK c.K H S ks kvs := by
  rcases h.dct_ with h | ⟨xs, h⟩
  · exact h
  · exfalso
    have : PyData.dict kvs = setD xs := h
    unfold setD at this
    injection this with this
    rw [this, isSet_setD] at n
    cases n
theorem VE.get2 {o e f : Expr} {td ty tx : TE} {fd fk ff : M R} {apos cpos : Pos} (hu : X.A.units + 1 < cLine) (ho : VE X c W o td fd) (he : VE X c W e ty fk) (hf : VE X c W f tx ff) (m : M2 X o "get" apos e f cpos) : VE X c W (.Call (.Attribute o "get" apos) [e, f] [] cpos) (tDGet2 td ty tx) (xGet fd fk ff) := by
  obtain ⟨po, vo⟩ := ho
  obtain ⟨pe, ve⟩ := he
  obtain ⟨pf, vf⟩ := hf
  refine ⟨pe_dget2 hu po pe pf m, Vt.bind (rel1 := RR c) (rel2 := RR c) (k := fun x σ H1 Q => ∃ a, x = .ref a ∧ IsD H1 a ∧ ty σ H1 fun y H2 => tx σ H2 fun z H3 => ∃ o, DGet H3 a y o ∧ Q (o.getD z) H3) vo ?_⟩
  intro σ Hs Ss ρs H S ρ a v res ρ' Q q p ra e G
  obtain ⟨d1, e1, e⟩ := Option.bind_eq_some_iff.mp e
  split at e
  · rename_i hd
    have hv := look_ok p ra e1
    obtain ⟨kvs, rfl⟩ : ∃ kvs, d1 = .dict kvs := by
      cases d1 <;> first | exact ⟨_, rfl⟩ | cases hd
    obtain ⟨b, ks, rfl, h1, h2⟩ := dict_at hv hd
    refine ⟨b, rfl, .inl ⟨ks, .inl h1⟩, ?_⟩
    rcases M.bind_some e with ⟨kr, ρ2, e2, e3⟩ | ⟨x, e2, rfl⟩
    · refine ve σ H S ρ (.ok kr) ρ2 _ p e2 fun y H2 S2 p2 q2 r2 => ?_
      rcases M.bind_some e3 with ⟨xr, ρ3, e4, e5⟩ | ⟨x, e4, rfl⟩
      · refine vf σ H2 S2 ρ2 (.ok xr) ρ3 _ p2 e4 fun z H3 S3 p3 q3 r3 => ?_
        obtain ⟨d, f1, e5⟩ := Option.bind_eq_some_iff.mp e5
        obtain ⟨k, f2, e5⟩ := Option.bind_eq_some_iff.mp e5
        obtain ⟨⟨dx, ρ4⟩, f3, e5⟩ := Option.bind_eq_some_iff.mp e5
        obtain ⟨r, f4, e5⟩ := Option.map_eq_some_iff.mp e5
        cases e5
        have hv := look_ok p3 (RR.step p2 q3 (RR.step p q2 ra)) f1
        have hk := look_ok p3 (RR.step p2 q3 r2) f2
        unfold dGet2 at f4
        split at f4
        · rename_i kvs' _ _
          split at f4
          · rename_i hs
            obtain ⟨key, g1, g2⟩ := Option.map_eq_some_iff.mp f4
            obtain ⟨b', ks', eb, h1', h2'⟩ := dict_at hv hs
            cases eb
            obtain ⟨S4, p4, q4, r4, m4, _⟩ := keep_ok q3 p3 r3.w f3
            have ey : y = kV key := by
              rw [dKey_some g1] at hk
              cases key with
              | inl i => exact hk.int_
              | inr z => exact hk.str_
            refine ⟨valV ks' key, by rw [ey]; exact .k h1', ?_⟩
            refine G _ _ S4 p4 ((q.trans q2).trans q4) ?_
            cases e6 : valD kvs' key with
            | some dv =>
              obtain ⟨v, e7, r7⟩ := h2'.val.1 _ e6
              rw [e6] at g2
              cases g2
              rw [e7]
              exact Rp.more m4 r7
            | none =>
              rw [e6] at g2
              cases g2
              rw [h2'.val.2 e6]
              exact r4
          · cases f4
        · cases f4
      · exact vf σ H2 S2 ρ2 (.error x) ρ' _ p2 e4 fun C d H' S' v m1 m2 m3 p5 q5 => G C d H' S' v m1 m2 m3 p5 ((q.trans q2).trans q5)
    · exact ve σ H S ρ (.error x) ρ' _ p e2 fun C d H' S' v m1 m2 m3 p5 q5 => G C d H' S' v m1 m2 m3 p5 (q.trans q5)
  · cases e
/-! xs[::-1] of a list; of a tuple -/
def dRevL : D → Option R
  | .list xs => some (.own (.lst xs.reverse))
  | _ => none
def dRevT : D → Option R
  | .tuple xs => some (.dat (.tuple xs.reverse))
  | _ => none
def xRevL (fa : M R) : M R := xOp1 dRevL fa
def xRevT (fa : M R) : M R := xOp1 dRevT fa
theorem VE.revL {e : Expr} {te : TE} {fa : M R} {k : Nat} {p1 p2 p3 pos : Pos} (kf : Fit X c) (he : VE X c W e te fa) : VE X c W (.Subscript e (.Slice none none (some (.UnaryOp .USub (.Constant (.int 1) k p1) p2)) p3) pos) (tRevL c.K te) (xRevL fa) := by
  refine ⟨by rw [← kf.K]; exact pe_revL he.pe, Vt.op1 (g := dRevL) (r := fun x H Q => ∃ a xs, x = .ref a ∧ SqL c.K H a xs ∧ ∀ p, H p = none → Q (.ref p) (upd H p (.lst xs.reverse))) ?_ he.vt⟩
  intro H S x d res Q hx hg G
  unfold dRevL at hg
  split at hg
  · cases hg
    obtain ⟨a, vs, rfl, s1, r1⟩ := hx.lst_
    refine ⟨a, vs, rfl, s1, fun l n => ?_⟩
    obtain ⟨g, o⟩ := ro_lst n r1.rev
    exact G _ _ g o
  · cases hg
theorem VE.revT {e : Expr} {te : TE} {fa : M R} {k : Nat} {p1 p2 p3 pos : Pos} (kf : Fit X c) (he : VE X c W e te fa) : VE X c W (.Subscript e (.Slice none none (some (.UnaryOp .USub (.Constant (.int 1) k p1) p2)) p3) pos) (tRevT c.K te) (xRevT fa) := by
  refine ⟨by rw [← kf.K]; exact pe_revT he.pe, Vt.op1 (g := dRevT) (r := fun x H Q => ∃ a xs, x = .ref a ∧ SqT c.K H a xs ∧ ∀ p, H p = none → Q (.ref p) (upd H p (.tup xs.reverse))) ?_ he.vt⟩
  intro H S x d res Q hx hg G
  unfold dRevT at hg
  split at hg
  · cases hg
    obtain ⟨a, vs, rfl, s1, r1⟩ := hx.tup_
    refine ⟨a, vs, rfl, s1, fun l n => ?_⟩
    obtain ⟨g, o⟩ := ro_tup n r1.rev
    exact G _ _ g o
  · cases hg
/-! zip, enumerate, reversed -/
theorem M.bindI_some {α : Type} {f : M α} {g : α → M IR} {ρ ρ' : Env} {res : Except Ex IR} (e : f.bind g ρ = some (res, ρ')) : (∃ a ρ1, f ρ = some (.ok a, ρ1) ∧ g a ρ1 = some (res, ρ')) ∨ ∃ x, f ρ = some (.error x, ρ') ∧ res = .error x := by
  exact M.bind_some e
section
variable {σ : Sl} {H : Hp} {S : Addr → Prop} {ρ : Env} {a b : Addr} {vs us : List V} {xs ys : List D}
def zipD (xs ys : List D) : List D := (xs.zip ys).map fun p => .tuple [p.1, p.2]
theorem zipD_len : (zipD xs ys).length = min xs.length ys.length := by unfold zipD; rw [List.length_map, List.length_zip]
theorem zipD_get {k : Nat} {x y : D} (h : xs[k]? = some x) (g : ys[k]? = some y) : (zipD xs ys)[k]? = some (.tuple [x, y]) := by
  unfold zipD
  rw [List.getElem?_map, (List.getElem?_zip_eq_some (z := (x, y))).mpr ⟨h, g⟩]
  rfl
theorem pair_new {H2 : Hp} {S2 : Addr → Prop} {T : Addr} {x y : V} {d e : D} (n : H2 T = none) (r : Rp c.K H2 S2 x d) (s : Rp c.K H2 S2 y e) : Gro H2 (upd H2 T (.tup [x, y])) ∧ Rp c.K (upd H2 T (.tup [x, y])) S2 (.ref T) (.tuple [d, e]) := by
  obtain ⟨g, o⟩ := ro_tup (c := c) n (RpA.cons r (RpA.cons s .nil))
  exact ⟨g, o⟩
theorem walk_zipL (p : Rep c σ H S ρ) (r : RpA c.K H S vs xs) (s : SqN c.K H a vs (¬ OwnA σ ρ a)) (r' : RpA c.K H S us ys) (s' : SqN c.K H b us (¬ OwnA σ ρ b)) : WalkJ c σ (Itz c.K a b) (zipD xs ys) ρ H S := fun k H2 S2 σ2 ρ2 p2 q2 => by
  have s2 := s.stay p q2
  have r2 := q2.rpA p r
  have s2' := s'.stay p q2
  have r2' := q2.rpA p r'
  rw [zipD_len]
  refine ⟨fun hk => ?_, fun hk => ⟨vs, us, s2, s2', by rw [r.length, r'.length, hk]; omega⟩⟩
  obtain ⟨d, e4⟩ : ∃ d, xs[k]? = some d := ⟨_, List.getElem?_eq_getElem (by omega)⟩
  obtain ⟨d', e4'⟩ : ∃ d, ys[k]? = some d := ⟨_, List.getElem?_eq_getElem (by omega)⟩
  obtain ⟨w, e5, r5⟩ := r2.get e4
  obtain ⟨w', e5', r5'⟩ := r2'.get e4'
  refine ⟨⟨vs, us, w, w', s2, s2', e5, e5'⟩, fun x H3 y => ?_⟩
  obtain ⟨T, x1, y1, rfl, n, rfl, f1, f2⟩ := y
  have f1 := f1 vs s2
  have f2 := f2 us s2'
  rw [e5] at f1; cases f1
  rw [e5'] at f2; cases f2
  obtain ⟨g, o⟩ := pair_new n r5 r5'
  exact ⟨g, _, zipD_get e4 e4', o⟩
theorem walk_zipP (p : Rep c σ H S ρ) (r : RpA c.K H S vs xs) (s : SqT c.K H a vs) (r' : RpA c.K H S us ys) (s' : SqT c.K H b us) : WalkJ c σ (RZ.ItzT c.K a b) (zipD xs ys) ρ H S := fun k H2 S2 σ2 ρ2 p2 q2 => by
  have s2 : SqT c.K H2 a vs := sqT_keep (fun b o e f => q2.kp p b o e (.inr f)) s
  have r2 := q2.rpA p r
  have s2' : SqT c.K H2 b us := sqT_keep (fun b o e f => q2.kp p b o e (.inr f)) s'
  have r2' := q2.rpA p r'
  rw [zipD_len]
  refine ⟨fun hk => ?_, fun hk => ⟨vs, us, s2, s2', by rw [r.length, r'.length, hk]; omega⟩⟩
  obtain ⟨d, e4⟩ : ∃ d, xs[k]? = some d := ⟨_, List.getElem?_eq_getElem (by omega)⟩
  obtain ⟨d', e4'⟩ : ∃ d, ys[k]? = some d := ⟨_, List.getElem?_eq_getElem (by omega)⟩
  obtain ⟨w, e5, r5⟩ := r2.get e4
  obtain ⟨w', e5', r5'⟩ := r2'.get e4'
  refine ⟨⟨vs, us, w, w', s2, s2', e5, e5'⟩, fun x H3 y => ?_⟩
  obtain ⟨T, x1, y1, rfl, n, rfl, f1, f2⟩ := y
  have f1 := f1 vs s2
  have f2 := f2 us s2'
  rw [e5] at f1; cases f1
  rw [e5'] at f2; cases f2
  obtain ⟨g, o⟩ := pair_new n r5 r5'
  exact ⟨g, _, zipD_get e4 e4', o⟩
def enuD (xs : List D) : List D := (List.range xs.length).zip xs |>.map fun p => .tuple [.int p.1, p.2]
theorem enuD_len : (enuD xs).length = xs.length := by unfold enuD; rw [List.length_map, List.length_zip, List.length_range]; omega
theorem enuD_get {k : Nat} {x : D} (h : xs[k]? = some x) : (enuD xs)[k]? = some (.tuple [.int k, x]) := by
  unfold enuD
  have hl : k < xs.length := (List.getElem?_eq_some_iff.mp h).1
  rw [List.getElem?_map, (List.getElem?_zip_eq_some (z := (k, x))).mpr ⟨by rw [List.getElem?_range hl], h⟩]
  rfl
theorem walk_enuL (p : Rep c σ H S ρ) (r : RpA c.K H S vs xs) (s : SqN c.K H a vs (¬ OwnA σ ρ a)) : WalkJ c σ (Ite c.K a) (enuD xs) ρ H S := fun k H2 S2 σ2 ρ2 p2 q2 => by
  have s2 := s.stay p q2
  have r2 := q2.rpA p r
  rw [enuD_len]
  refine ⟨fun hk => ?_, fun hk => ⟨vs, s2, by rw [r.length, hk]; omega⟩⟩
  obtain ⟨d, e4⟩ : ∃ d, xs[k]? = some d := ⟨_, List.getElem?_eq_getElem hk⟩
  obtain ⟨w, e5, r5⟩ := r2.get e4
  refine ⟨⟨vs, w, s2, e5⟩, fun x H3 y => ?_⟩
  obtain ⟨T, x1, rfl, n, rfl, f1⟩ := y
  have f1 := f1 vs s2
  rw [e5] at f1; cases f1
  obtain ⟨g, o⟩ := pair_new n (Rp.int (k : Int)) r5
  exact ⟨g, _, enuD_get e4, o⟩
theorem walk_enuP (p : Rep c σ H S ρ) (r : RpA c.K H S vs xs) (s : SqT c.K H a vs) : WalkJ c σ (IteT c.K a) (enuD xs) ρ H S := fun k H2 S2 σ2 ρ2 p2 q2 => by
  have s2 : SqT c.K H2 a vs := sqT_keep (fun b o e f => q2.kp p b o e (.inr f)) s
  have r2 := q2.rpA p r
  rw [enuD_len]
  refine ⟨fun hk => ?_, fun hk => ⟨vs, s2, by rw [r.length, hk]; omega⟩⟩
  obtain ⟨d, e4⟩ : ∃ d, xs[k]? = some d := ⟨_, List.getElem?_eq_getElem hk⟩
  obtain ⟨w, e5, r5⟩ := r2.get e4
  refine ⟨⟨vs, w, s2, e5⟩, fun x H3 y => ?_⟩
  obtain ⟨T, x1, rfl, n, rfl, f1⟩ := y
  have f1 := f1 vs s2
  rw [e5] at f1; cases f1
  obtain ⟨g, o⟩ := pair_new n (Rp.int (k : Int)) r5
  exact ⟨g, _, enuD_get e4, o⟩
end
/-- zip(a, b), both lists or both tuples -/
def iZip (fa fb : M R) : M IR := fa.bind fun a => fb.bind fun b => fun ρ => (thw a ρ).bind fun p => (thw b p.2).bind fun q => match look q.2 p.1, look q.2 q.1 with
  | some (.list xs), some (.list ys) => some (.ok ⟨zipD xs ys, none⟩, q.2)
  | some (.tuple xs), some (.tuple ys) => some (.ok ⟨zipD xs ys, none⟩, q.2)
  | _, _ => none
theorem pinOf_nsl {r : R} (h : Nsl r) : pinOf r = none := by cases r with
  | slot _ => exact h.elim
  | dat _ => rfl
  | own _ => rfl
theorem VI.zip {e e2 : Expr} {t u : TE} {fa fb : M R} {p pos tpos : Pos} {elts : List Expr} {kk : Nat} (kf : Fit X c) (hg : Gl X "zip") (hm : X.mg "zip" = none) (ha : VE X c W e t fa) (hb : VE X c W e2 u fb)
    (hs : starEach [e, e2] X.env = (false, eval e X.env) :: starEach [e2] X.env := by rfl) (hs2 : starEach [e2] X.env = (false, eval e2 X.env) :: starEach [] X.env := by rfl) (hpl : (backTo pos (starEach [e2] X.env)).any (·.1) = false := by rfl) :
    VI X c W (.Tuple elts kk tpos) (.Call (.Name "zip" p) [e, e2] [] pos) (RZ.iZipA c.K (tCons t (tCons u tNil))) (iZip fa fb) := by
  obtain ⟨pa, va⟩ := ha
  obtain ⟨pb, vb⟩ := hb
  refine ⟨by rw [← kf.K]; exact RZ.pi_zipA hg hm (pa_cons pa (pa_cons pb pa_nil hs2) hs) hs hpl, ?_⟩
  intro σ H S ρ res ρ' R p e G
  rcases M.bindI_some e with ⟨a, ρ1, e1, e2⟩ | ⟨x, e1, rfl⟩
  · refine va σ H S ρ (.ok a) ρ1 _ p e1 fun v H1 S1 p1 q1 r1 => ?_
    rcases M.bindI_some e2 with ⟨b, ρ2, e3, e4⟩ | ⟨x, e3, rfl⟩
    · refine vb σ H1 S1 ρ1 (.ok b) ρ2 _ p1 e3 fun w H2 S2 p2 q2 r2 => ?_
      have r1 := RR.step p1 q2 r1
      obtain ⟨⟨a', ρ3⟩, e5, e4⟩ := Option.bind_eq_some_iff.mp e4
      obtain ⟨⟨b', ρ4⟩, e6, e4⟩ := Option.bind_eq_some_iff.mp e4
      obtain ⟨S3, p3, q3, k1, n1, _⟩ := thw_ok p2 r1 e5
      obtain ⟨S4, p4, q4, k2, n2, _⟩ := thw_ok p3 (RR.step p2 q3 r2) e6
      have k1 := RR.step p3 q4 k1
      have q : Stq [] σ ρ S H σ ρ4 S4 H2 := (q1.trans q2).trans (q3.trans q4)
      dsimp only at e4
      split at e4
      · rename_i xs ys e7 e8
        cases e4
        obtain ⟨x1, vs, rfl, g1, g2⟩ := look_seq p4 k1 e7
        obtain ⟨y1, us, rfl, g3, g4⟩ := look_seq p4 k2 e8
        rw [pinOf_nsl n1] at g2
        rw [pinOf_nsl n2] at g4
        exact ⟨x1, y1, vs, us, rfl, .inl ⟨g2.sq, g4.sq, G _ _ _ p4 q (walk_zipL p4 g1 g2 g3 g4)⟩⟩
      · rename_i xs ys e7 e8
        cases e4
        obtain ⟨x1, vs, rfl, g2, g1⟩ := (look_ok p4 k1 e7).tup_
        obtain ⟨y1, us, rfl, g4, g3⟩ := (look_ok p4 k2 e8).tup_
        exact ⟨x1, y1, vs, us, rfl, .inr ⟨g2, g4, G _ _ _ p4 q (walk_zipP p4 g1 g2 g3 g4)⟩⟩
      · cases e4
    · exact vb σ H1 S1 ρ1 (.error x) ρ' _ p1 e3 fun C d H' S' v m1 m2 m3 p5 q5 => G C d H' S' v m1 m2 m3 p5 (q1.trans q5)
  · exact va σ H S ρ (.error x) ρ' _ p e1 G
/-! reversed(x), a list or a tuple -/
section
variable {σ : Sl} {H : Hp} {S : Addr → Prop} {ρ : Env} {a b : Addr} {vs us : List V} {xs ys : List D}
theorem rev_at {α : Type} {l : List α} {k : Nat} (h : k < l.length) : l.reverse[k]? = l[l.length - 1 - k]? := by rw [List.getElem?_reverse h]
theorem walk_revL (p : Rep c σ H S ρ) (r : RpA c.K H S vs xs) (s : SqN c.K H a vs (¬ OwnA σ ρ a)) : WalkJ c σ (Itv c.K a vs.length) xs.reverse ρ H S := fun k H2 S2 σ2 ρ2 p2 q2 => by
  have s2 := s.stay p q2
  have r2 := q2.rpA p r
  rw [List.length_reverse]
  have hl := r.length
  refine ⟨fun hk => ?_, fun hk => by show vs.length ≤ k; omega⟩
  obtain ⟨d, e4⟩ : ∃ d, xs[vs.length - 1 - k]? = some d := ⟨_, List.getElem?_eq_getElem (by omega)⟩
  obtain ⟨w, e5, r5⟩ := r2.get e4
  refine ⟨⟨by omega, vs, w, s2, e5⟩, fun x H3 y => ?_⟩
  obtain ⟨rfl, y⟩ := y
  have y := y vs s2
  rw [e5] at y; cases y
  exact ⟨.refl _, d, by rw [rev_at hk, ← hl]; exact e4, r5⟩
theorem walk_revP (p : Rep c σ H S ρ) (r : RpA c.K H S vs xs) (s : SqT c.K H a vs) : WalkJ c σ (RT.ItvT c.K a vs.length) xs.reverse ρ H S := fun k H2 S2 σ2 ρ2 p2 q2 => by
  have s2 : SqT c.K H2 a vs := sqT_keep (fun b o e f => q2.kp p b o e (.inr f)) s
  have r2 := q2.rpA p r
  rw [List.length_reverse]
  have hl := r.length
  refine ⟨fun hk => ?_, fun hk => by show vs.length ≤ k; omega⟩
  obtain ⟨d, e4⟩ : ∃ d, xs[vs.length - 1 - k]? = some d := ⟨_, List.getElem?_eq_getElem (by omega)⟩
  obtain ⟨w, e5, r5⟩ := r2.get e4
  refine ⟨⟨by omega, vs, w, s2, e5⟩, fun x H3 y => ?_⟩
  obtain ⟨rfl, y⟩ := y
  have y := y vs s2
  rw [e5] at y; cases y
  exact ⟨.refl _, d, by rw [rev_at hk, ← hl]; exact e4, r5⟩
end
def iRev (fa : M R) : M IR := fa.bind fun a => fun ρ => match look ρ a with
  | some (.list xs) => some (.ok ⟨xs.reverse, pinOf a⟩, ρ)
  | some (.tuple xs) => some (.ok ⟨xs.reverse, none⟩, ρ)
  | _ => none
theorem VI.rev {tg e : Expr} {t : TE} {fa : M R} {p pos : Pos} (kf : Fit X c) (hg : Gl X "reversed") (hm : X.mg "reversed" = none) (he : VE X c W e t fa) (hs : starEach [e] X.env = (false, eval e X.env) :: starEach [] X.env := by rfl) : VI X c W tg (.Call (.Name "reversed" p) [e] [] pos) (RT.iRevA c.K t) (iRev fa) := by
  obtain ⟨pe, va⟩ := he
  refine ⟨by rw [← kf.K]; exact RT.pi_revA hg hm pe hs, ?_⟩
  intro σ H S ρ res ρ' R p e G
  rcases M.bindI_some e with ⟨a, ρ1, e1, e2⟩ | ⟨x, e1, rfl⟩
  · refine va σ H S ρ (.ok a) ρ1 _ p e1 fun v H1 S1 p1 q1 r1 => ?_
    split at e2
    · rename_i xs e3
      cases e2
      obtain ⟨b, vs, rfl, r2, s2⟩ := look_seq p1 r1 e3
      exact ⟨b, vs, rfl, .inl ⟨s2.sq, G _ _ _ p1 q1 (walk_revL p1.pin r2 s2)⟩⟩
    · rename_i xs e3
      cases e2
      obtain ⟨b, vs, rfl, s2, r2⟩ := (look_ok p1 r1 e3).tup_
      exact ⟨b, vs, rfl, .inr ⟨s2, G _ _ _ p1 q1 (walk_revP p1 r2 s2)⟩⟩
    · cases e2
  · exact va σ H S ρ (.error x) ρ' _ p e1 G
/-! enumerate(x), a list; a tuple -/
def iEnuL (fa : M R) : M IR := fa.bind fun a => fun ρ => match look ρ a with
  | some (.list xs) => some (.ok ⟨enuD xs, pinOf a⟩, ρ)
  | _ => none
def iEnuT (fa : M R) : M IR := fa.bind fun a => fun ρ => match look ρ a with
  | some (.tuple xs) => some (.ok ⟨enuD xs, none⟩, ρ)
  | _ => none
theorem VI.enuL {e : Expr} {t : TE} {fa : M R} {p pos tpos : Pos} {elts : List Expr} {kk : Nat} (kf : Fit X c) (hg : Gl X "enumerate") (hm : X.mg "enumerate" = none) (he : VE X c W e t fa) (hs : starEach [e] X.env = [(false, eval e X.env)] := by rfl) (hs2 : starEach [e] X.env = (false, eval e X.env) :: starEach [] X.env := by rfl) :
    VI X c W (.Tuple elts kk tpos) (.Call (.Name "enumerate" p) [e] [] pos) (iEnum c.K (tCons t tNil)) (iEnuL fa) := by
  obtain ⟨pe, va⟩ := he
  refine ⟨by rw [← kf.K]; exact pi_enum hg hm (pa_cons pe pa_nil hs2) hs, ?_⟩
  intro σ H S ρ res ρ' R p e G
  rcases M.bindI_some e with ⟨a, ρ1, e1, e2⟩ | ⟨x, e1, rfl⟩
  · refine va σ H S ρ (.ok a) ρ1 _ p e1 fun v H1 S1 p1 q1 r1 => ?_
    split at e2
    · rename_i xs e3
      cases e2
      obtain ⟨b, vs, rfl, r2, s2⟩ := look_seq p1 r1 e3
      exact ⟨b, vs, rfl, s2.sq, G _ _ _ p1 q1 (walk_enuL p1.pin r2 s2)⟩
    · cases e2
  · exact va σ H S ρ (.error x) ρ' _ p e1 G
theorem VI.enuT {e : Expr} {t : TE} {fa : M R} {p pos tpos : Pos} {elts : List Expr} {kk : Nat} (kf : Fit X c) (hg : Gl X "enumerate") (hm : X.mg "enumerate" = none) (he : VE X c W e t fa) (hs : starEach [e] X.env = [(false, eval e X.env)] := by rfl) (hs2 : starEach [e] X.env = (false, eval e X.env) :: starEach [] X.env := by rfl) :
    VI X c W (.Tuple elts kk tpos) (.Call (.Name "enumerate" p) [e] [] pos) (iEnumT c.K (tCons t tNil)) (iEnuT fa) := by
  obtain ⟨pe, va⟩ := he
  refine ⟨by rw [← kf.K]; exact pi_enumT hg hm (pa_cons pe pa_nil hs2) hs, ?_⟩
  intro σ H S ρ res ρ' R p e G
  rcases M.bindI_some e with ⟨a, ρ1, e1, e2⟩ | ⟨x, e1, rfl⟩
  · refine va σ H S ρ (.ok a) ρ1 _ p e1 fun v H1 S1 p1 q1 r1 => ?_
    split at e2
    · rename_i xs e3
      cases e2
      obtain ⟨b, vs, rfl, s2, r2⟩ := (look_ok p1 r1 e3).tup_
      exact ⟨b, vs, rfl, s2, G _ _ _ p1 q1 (walk_enuP p1 r2 s2)⟩
    · cases e2
  · exact va σ H S ρ (.error x) ρ' _ p e1 G
end
end Vm
/-! ### the ends of laws; a def that calls itself -/
namespace Vm
open PySem PySem.Spec PyProof.Rows L2 Ky
theorem u1 {k : Nat} {A : Around} (hr : Room k A) : A.units + 1 < cLine := by have := hr.un; omega
theorem u65 {k : Nat} {A : Around} (hr : Room k A) : A.units + 65 < cLine := by have := hr.un; omega
section
variable {X : Cx} {c : Cn} {W : WX} {fx : List Nat}
theorem VSs.never {st : List Stmt} : VSs X c W fx st tNever sNever := ⟨pss_never, fun σ H S ρ fl ρ' D p e G => by cases e⟩
end
section
variable {P : Program} {w : World} {K : PySem.W.Frag} {mg : Str → Option Value} {base : Heap} {k : Nat} {x : Str} {st : Stmt} {ps : List Str} {sp sp' : Sp}
theorem CalG.imp (h : ∀ vs H Q E, sp' vs H Q E → sp vs H Q E) (c : CalG P w K mg base k x st ps sp) : CalG P w K mg base k x st ps sp' := by
  obtain ⟨f, fd, F, r⟩ := c.ex
  exact ⟨f, fd, ⟨fun vs H Q E q => F.len vs H Q E (h _ _ _ _ q), fun A out s H given us vs Q E g r e b v q => F.run A out s H given us vs Q E g r e b v (h _ _ _ _ q)⟩, r⟩
theorem rpA_intsL {H : Hp} {S : Addr → Prop} : ∀ ns : List Int, RpA K H S (ns.map V.int) (ns.map PyData.int)
  | [] => .nil
  | n :: ns => .cons (.int n) (rpA_intsL ns)
/-- the law over the script: its function gives True -/
theorem spV_law {c : Cn} {f : Fn} (hc : c.K = K) (h : ∀ ns : List Int, ns.length ≤ 63 → f [.dat (.list (ns.map .int))] = some (.ok (.dat (.bool true)), none)) : ∀ vs H Q E, spLawT K c.tf vs H Q E → spV c 1 none f vs H Q E := by
  intro vs H Q E q
  obtain ⟨s, ns, rfl, hs, hl, ht, q⟩ := q
  subst hc
  refine ⟨fun a => a = s ∧ ∃ u, H a = some u ∧ mutK u, [.dat (.list (ns.map .int))], .ok (.dat (.bool true)), none, rfl, ?_, ?_, h ns hl, ?_⟩
  · intro k x e
    cases k with
    | zero => cases e; rfl
    | succ k => cases e
  · refine ⟨rfl, fun i d e => ?_, fun i x o e f => ?_, fun i j x y o o' a e f => ?_, fun a e => e.2, ht⟩
    · cases i with
      | succ i => cases e
      | zero =>
        cases e
        refine ⟨.ref s, rfl, .lst ?_ (rpA_intsL ns)⟩
        rcases hs with (hs | hs) | hs
        · exact .inl ⟨⟨rfl, _, hs, trivial⟩, hs⟩
        · exact .inr (.inl hs)
        · exact .inr (.inr hs)
    · cases i with
      | succ i => cases e
      | zero => cases e; cases f
    · cases i with
      | succ i => cases e
      | zero => cases e; cases f
  · intro v H' S' _ r
    cases r
    exact q H'
end
end Vm
/-! ### sorted of a tuple of ints -/
namespace Vm
open PySem PySem.Spec PyProof.Rows L2 Ky
section
open SrtO
variable {prog : Program} {w : World} {A : Around} {E : Value → Shared → Prop} {s : Shared}
theorem sort_tup {t : Addr} {its : List Value} {lt : Value → Value → Bool} {Q : Value → Shared → Prop} (O : Swo lt) (ht : IsTup s.heap t its.toArray) (small : its.length ≤ sizeLine)
    (able : 2 ≤ its.length → ∀ (g : Heap) (a : Addr), SortableO prog w A.in1.in1 { s with heap := g } a its lt)
    (fin : ∀ (out : List Value) (g g2 : Heap) (e : Nat), Srtd lt out → Stb lt out its → (∀ b o, s.heap.get? b = some o → g.get? b = some o) → (∀ b o, g.get? b = some o → g2.get? b = some o) → g2.get? g.objs.size = some (seqObj "list" out.toArray e) → Q (.ref g.objs.size) { s with heap := g2 }) :
    wpAny (model prog w) A (call (.builtin "sorted") [.ref t]) Q E s := by
  obtain ⟨o, e1, e2, n, e3⟩ := ht
  refine Calls.call_function_entry kind_sorted plain_sorted entry_sorted (args_sorted1 (.ref t)) ?_
  unfold Builtin.«sorted»
  refine wpAny_bind (m := checkCount "sorted" 1 1 _) (wpAny_pure ?_)
  refine wpAny_bind (wpAny_collect_seq t (.inr rfl) e1 e2 e3 (fun g keep => ?_) (by rw [List.size_toArray]; exact small))
  refine wpAny_bind (wpAny_newList ?_ small)
  have at0 : (g.push (seqObj "list" its.toArray 0)).get? g.objs.size = some (seqObj "list" its.toArray 0) := Heap.get?_push_size _ rfl
  show wpAny _ _ _ _ _ { s with heap := g.push (seqObj "list" its.toArray 0) }
  refine wpAny_bind (wpAny_holding (wpAny_call_entry slot_list_sort ⟨_, at0, rfl⟩ entry_list_sort (list_sort_ord (s := { s with heap := g.push (seqObj "list" its.toArray 0) }) O at0 small (fun h2 => able h2 _ _) fun out q1 q2 => ⟨_, rfl, ?_⟩) (args_list_sort _)))
  obtain ⟨e, he⟩ := PyProof.Rows.sortedHeap_at (vs := its) (out := out.toArray) at0
  refine wpAny_pure ⟨_, rfl, fin out g _ e q1 q2 keep (fun b o' k => ?_) he⟩
  have hb : b < g.objs.size := Heap.lt_size k
  have k2 : (g.push (seqObj "list" its.toArray 0)).get? b = some o' := Heap.get?_push_of_some _ k
  show (sortedHeap _ _ _ _).get? b = some o'
  rw [PyProof.Rows.sortedHeap_old (Nat.ne_of_lt hb) (Heap.lt_size k2)]
  exact k2
end
def rSortT (K : PySem.W.Frag) : RN := fun vs H Q => ∃ (a : Addr) (ns : List Int), vs = [.ref a] ∧ SqT K H a (ns.map V.int) ∧ ∀ p, H p = none → Q (.ref p) (upd H p (.lst ((srt ns).map V.int)))
theorem call_sortT {X : Cx} : CallR X (.builtin "sorted") (rSortT X.K) := by
  intro pins s σ H vs us Q I r h
  obtain ⟨a, ns, rfl, hs, q⟩ := h
  obtain ⟨its, rv, ht, hz⟩ := I.tuple hs
  rw [Vals.ref1 r]
  have hi := rv.ints
  refine sort_tup SrtO.swo_int ht (by rw [← rv.length]; exact hz) (fun h2 g a' => SrtO.ints_sortable hi h2) fun out g g2 e h1 h2 k1 k2 he => ?_
  obtain ⟨m1, m2, m3⟩ := SrtO.ints_out hi h1 h2
  have e0 : out.map SrtO.iv = srt ns := srt_ext m3 (srt_srt ns) (m2.trans (srt_perm ns).symm)
  rw [e0] at m1
  have small : ((srt ns).map V.int).length ≤ sizeLine := by
    rw [List.length_map, (srt_perm ns).length_eq]
    rw [List.length_map] at hz
    exact hz
  have I1 : Inv X pins σ H { s with heap := g } := I.kept (t' := s.toks) k1
  exact ⟨.ref g.objs.size, upd H g.objs.size (.lst ((srt ns).map V.int)), I1.laid (t' := s.toks) k2 (Nat.le_refl _) ⟨small, out, e, vals_of_ints m1, he⟩, rfl, q _ (I1.hok.fresh (Nat.le_refl _))⟩
/-- sorted(x), the ints of a list, a tuple, a set -/
def dSort : List D → Option R
  | [.tuple xs] => (toInts xs).map fun ns => .own (.lst ((srt ns).map .int))
  | ds => dSorted ds
variable {X : Cx} {c : Cn}
theorem o_sort (k : Fit X c) (hc : X.calm = true) : OpN X c (CallR X (.builtin "sorted")) (orN (rSortT c.K) (orN (rSortedI c.K) (rSortedSS c.w))) dSort := by
  refine ⟨by rw [← k.K]; exact (call_sortT.or (by rw [k.K]; exact (o_sorted k hc).h)), ?_⟩
  intro H S xs ds res Q hx hg G
  unfold dSort at hg
  split at hg
  · obtain ⟨ns, e1, rfl⟩ := Option.map_eq_some_iff.mp hg
    obtain ⟨x, rfl, h⟩ := hx.one
    obtain ⟨a, vs, rfl, s1, r1⟩ := h.tup_
    rw [toInts_ok e1] at r1
    rw [rpA_ints r1] at s1
    refine .inl ⟨a, ns, rfl, s1, fun p n => ?_⟩
    obtain ⟨g, o⟩ := ro_lst (c := c) (S := S) n (ints_rpA (srt ns))
    exact G _ _ g o
  · exact .inr ((o_sorted k hc).s H S xs ds res Q hx hg G)
end Vm
/-! ### a, b = x, y by way of a tuple: where one of the names is a comprehension's, too -/
namespace Vm
open PySem PySem.Spec PyProof.Rows L2 Ky
section
variable {X : Cx} {c : Cn} {W : WX} {fx : List Nat}
theorem VSt.parT {i j : Nat} (hfi : i ∉ fx) (hfj : j ∉ fx) {t1 t2 : TE} {f1 f2 : M R} (h1 : VEt c W t1 f1) (h2 : VEt c W t2 f2) : VSt c W fx (tAsg (tTup (tCons t1 (tCons t2 tNil))) (gTup c.K 2 (gCons (gName i) (gCons (gName j) gNil)))) (sPar2 i j f1 f2) := by
  intro σ H S ρ fl ρ' D p e G
  unfold sPar2 at e
  split at e
  · rename_i r1 ρ1 e1
    split at e
    · rename_i r2 ρ2 e2
      obtain ⟨⟨ra, ρa⟩, ea, e⟩ := Option.bind_eq_some_iff.mp e
      obtain ⟨⟨rb, ρb⟩, eb, e⟩ := Option.bind_eq_some_iff.mp e
      obtain ⟨ρ3, e3, e⟩ := Option.bind_eq_some_iff.mp e
      obtain ⟨ρ4, e4, e⟩ := Option.map_eq_some_iff.mp e
      cases e
      refine h1 σ H S ρ (.ok r1) _ _ p e1 fun v1 H1 S1 p1 q1 k1 => ?_
      refine h2 σ H1 S1 ρ1 (.ok r2) _ _ p1 e2 fun v2 H2 S2 p2 q2 k2 => ?_
      have ap := apart_of k1 k2
      have k1 := RR.step p1 q2 k1
      have k2 : RR c σ ρ2 H r2 v2 H2 S2 := RR.back k2 fun _ => q1.gone
      obtain ⟨Sa, pa, qa, ka, na, wa⟩ := thw_ok p2 k1 ea
      have k2 := RR.step p2 qa k2
      obtain ⟨Sb, pb, qb, kb, nb, wb⟩ := thw_ok pa k2 eb
      have ka := RR.step pa qb ka
      refine ⟨by rw [sizeLine_eq]; simp, fun a n => ?_⟩
      have g : Gro H2 (upd H2 a (.tup [v1, v2])) := gro_new n
      have qg : Stq [] σ ρb Sb H2 σ ρb Sb (upd H2 a (.tup [v1, v2])) := stq_gro g
      have ka := RR.step pb qg ka
      have kb := RR.step pb qg kb
      have q : Stq fx σ ρ S H σ ρb Sb (upd H2 a (.tup [v1, v2])) := (((q1.trans q2).trans (qa.trans qb)).trans qg).any
      obtain ⟨p3, q3, s3⟩ := set1_ok na hfi q (pb.gro g) ka e3
      obtain ⟨p4, q4, _⟩ := set1_ok nb hfj q3 p3 (s3 rb v2 nb (fun o o' y z => ap o o' (wa o y) (wb o' z)) kb) e4
      exact ⟨a, [v1, v2], rfl, .inl (.inl upd_same), rfl, _, _, rfl, _, _, rfl, rfl, G _ _ _ p4 q4⟩
    · rename_i x ρ2 e2
      cases e
      exact h1 σ H S ρ (.ok r1) _ _ p e1 fun v1 H1 S1 p1 q1 k1 => h2 σ H1 S1 ρ1 (.error x) _ _ p1 e2 (goodE_ex (D := D) (G.later q1.any))
    · cases e
  · rename_i x ρ1 e1
    cases e
    exact h1 σ H S ρ (.error x) _ _ p e1 (goodE_ex (D := D) G)
  · cases e
theorem VS.parT {i j : Nat} {x y : Str} {a b : Expr} {t1 t2 : TE} {f1 f2 : M R} {px py pt pos : Pos} {kt k2 pt2} (kf : Fit X c) (hfi : i ∉ fx) (hfj : j ∉ fx) (hc : X.calm = true) (hN : X.N.Nodup) (hi : X.N[i]? = some x) (hj : X.N[j]? = some y)
    (hx : Loc X.env.scope x) (hy : Loc X.env.scope y) (h1 : VE X c W a t1 f1) (h2 : VE X c W b t2 f2)
    (hs : swapsWithSole [.Tuple [.Name x px, .Name y py] kt pt] (.Tuple [a, b] k2 pt2) pos.line X.env = pure false := by rfl) (hw : swappedStores [.Tuple [.Name x px, .Name y py] kt pt] (.Tuple [a, b] k2 pt2) X.env = pure none := by rfl)
    (fx_ : X.fn x = true ∨ X.env.scope.names.lookup x = some .local := by first | exact .inl rfl | exact .inr rfl | assumption) (fy_ : X.fn y = true ∨ X.env.scope.names.lookup y = some .local := by first | exact .inl rfl | exact .inr rfl | assumption)
    (n1 : starEach [a, b] X.env = (false, eval a X.env) :: starEach [b] X.env := by rfl) (n2 : starEach [b] X.env = (false, eval b X.env) :: starEach [] X.env := by rfl)
    (m1 : (assignEach [.Name x px, .Name y py] X.env).map (·.2) = assign (.Name x px) X.env :: (assignEach [.Name y py] X.env).map (·.2) := by rfl) (m2 : (assignEach [.Name y py] X.env).map (·.2) = assign (.Name y py) X.env :: (assignEach [] X.env).map (·.2) := by rfl)
    (hn : (assignEach [.Name x px, .Name y py] X.env).length = 2 := by rfl) (hst : (assignEach [.Name x px, .Name y py] X.env).findIdx? (·.1) = none := by rfl)
    (h1' : (assignEach [.Tuple [.Name x px, .Name y py] kt pt] X.env).map (·.2) = [assign (.Tuple [.Name x px, .Name y py] kt pt) X.env] := by rfl) :
    VS X c W fx (.Assign [.Tuple [.Name x px, .Name y py] kt pt] (.Tuple [a, b] k2 pt2) pos) (tAsg (tTup (tCons t1 (tCons t2 tNil))) (gTup c.K 2 (gCons (gName i) (gCons (gName j) gNil)))) (sPar2 i j f1 f2) :=
  ⟨ps_asg (pe_tup (pa_cons h1.pe (pa_cons h2.pe pa_nil n2) n1)) (by rw [← kf.K]; exact pg_tup hc (pgs_cons (pg_name hN hi hx fx_) (pgs_cons (pg_name hN hj hy fy_) pgs_nil m2) m1) (n := 2) hn hst) hs hw h1', VSt.parT hfi hfj h1.vt h2.vt⟩
end
end Vm
/-! ### x[i], x[j] = a, b -/
namespace Vm
open PySem PySem.Spec PyProof.Rows L2 Ky
def VGWt (c : Cn) (fx : List Nat) (g : TG) (h : XG) : Prop := ∀ σ H S ρ v d ρ' Q, Rep c σ H S ρ → Rp c.K H S v d → h d ρ = some ρ' → (∀ σ' H' S', Rep c σ' H' S' ρ' → Stq fx σ ρ S H σ' ρ' S' H' → Q σ' H') → g v σ H Q
def VGWts (c : Cn) (fx : List Nat) (g : TGs) (h : List D → Env → Option Env) : Prop := ∀ σ H S ρ vs ds ρ' Q, Rep c σ H S ρ → RpA c.K H S vs ds → h ds ρ = some ρ' → (∀ σ' H' S', Rep c σ' H' S' ρ' → Stq fx σ ρ S H σ' ρ' S' H' → Q σ' H') → g vs σ H Q
structure VGW (X : Cx) (c : Cn) (fx : List Nat) (e : Expr) (g : TG) (h : XG) : Prop where
  pe : PG X e g
  vt : VGWt c fx g h
structure VGWs (X : Cx) (c : Cn) (fx : List Nat) (es : List Expr) (g : TGs) (h : List D → Env → Option Env) : Prop where
  pe : PGs X es g
  vt : VGWts c fx g h
/-- the part of an object by a key is set -/
def tSubB (i : Nat) (fk : M R) : XG := fun d ρ => match fk ρ with
  | some (.ok rk, ρ2) => (look ρ2 rk).bind fun k => match ρ2[i]? with
    | some (some (.own o)) => (putAt o k d).map fun o' => ρ2.set i (some (.own o'))
    | _ => none
  | _ => none
def tSub (i : Nat) (fk : M R) : XG := fun d ρ => match ρ[i]? with
  | some (some (.own _)) => tSubB i fk d ρ
  | _ => none
section
variable {X : Cx} {c : Cn} {W : WX} {fx : List Nat}
theorem VG.w {us : List Nat} {e : Expr} {g : TG} {h : XG} (x : VG X c fx us e g h) : VGW X c fx e g h := ⟨x.pe, fun σ H S ρ v d ρ' Q p r e G => x.vt σ H S ρ v d ρ' Q p r e fun σ' p' q' _ => G σ' H S p' q'⟩
theorem VGWs.nil : VGWs X c fx [] gNil tsNil := ⟨pgs_nil, by
  intro σ H S ρ vs ds ρ' Q p r e G
  unfold tsNil at e
  split at e
  · rename_i h
    cases e
    cases r with
    | nil => exact ⟨rfl, G σ H S p .refl⟩
    | cons _ _ => cases h
  · cases e⟩
theorem VGWs.cons {e : Expr} {es : List Expr} {g : TG} {gs : TGs} {h : XG} {hs : List D → Env → Option Env} (h1 : VGW X c fx e g h) (h2 : VGWs X c fx es gs hs) (hq : (assignEach (e :: es) X.env).map (·.2) = assign e X.env :: (assignEach es X.env).map (·.2) := by rfl) : VGWs X c fx (e :: es) (gCons g gs) (tsCons h hs) := by
  refine ⟨pgs_cons h1.pe h2.pe hq, ?_⟩
  intro σ H S ρ vs ds ρ' Q p r e G
  cases r with
  | nil => cases e
  | cons r1 r2 =>
    obtain ⟨ρ1, e1, e2⟩ := Option.bind_eq_some_iff.mp e
    refine ⟨_, _, rfl, h1.vt σ H S ρ _ _ ρ1 _ p r1 e1 fun σ1 H1 S1 p1 q1 => ?_⟩
    exact h2.vt σ1 H1 S1 ρ1 _ _ ρ' Q p1 (q1.rpA p r2) e2 fun σ2 H2 S2 p2 q2 => G σ2 H2 S2 p2 (q1.trans q2)
theorem VGW.tup {es : List Expr} {gs : TGs} {hs : List D → Env → Option Env} {pos : Pos} {x1} (n : Nat) (k : Fit X c) (hc : X.calm = true) (h : VGWs X c fx es gs hs) (hn : (assignEach es X.env).length = n := by rfl) (hst : (assignEach es X.env).findIdx? (·.1) = none := by rfl) : VGW X c fx (.Tuple es x1 pos) (gTup c.K n gs) (tTupN n hs) := by
  refine ⟨by rw [← k.K]; exact pg_tup hc h.pe (n := n) hn hst, ?_⟩
  intro σ H S ρ v d ρ' Q p r e G
  unfold tTupN at e
  split at e
  · rename_i ds ρ0
    split at e
    · rename_i hl
      cases r with
      | tup h1 h2 => exact ⟨_, _, rfl, h1, by rw [h2.length]; exact hl, h.vt σ H S _ _ _ ρ' Q p h2 e G⟩
    · cases e
  · cases e
theorem VGW.sub {i : Nat} {o ki : Expr} {tk : TE} {fk : M R} {pos : Pos} (hu : X.A.units + 1 < cLine) (ho : PE X o (tVar i)) (hk : VE X c W ki tk fk)
    (ha : ∀ v, assign (.Subscript o ki pos) X.env v = (do
      let ov ← holding [v] (eval o X.env)
      let iv ← holding [v, ov] (eval ki X.env)
      standAt pos
      holding [v, ov, iv] (setItem ov iv v)
      release [v, ov, iv] []) := by intro _; rfl) : VGW X c fx (.Subscript o ki pos) (gSub (tVar i) tk rSetAll) (tSub i fk) := by
  refine ⟨pg_sub ho hk.pe (set_all hu) ha, ?_⟩
  intro σ H1 S1 ρ1 v d ρ' Q p1 r1 e G
  unfold tSub at e
  split at e
  case h_2 => cases e
  rename_i o0 e0
  obtain ⟨a0, ea0, _⟩ := p1.liv i _ _ e0 rfl
  unfold tSubB at e
  split at e
  · rename_i rk ρ2 e2
    obtain ⟨k, e3, e4⟩ := Option.bind_eq_some_iff.mp e
    split at e4
    · rename_i o e7
      obtain ⟨o', e8, rfl⟩ := Option.map_eq_some_iff.mp e4
      have main : ∀ a : Addr, σ[i]? = some (some (.ref a)) → tk σ H1 fun i' H2 => rSetAll (.ref a) i' v H2 fun H3 => Q σ H3 := fun a ea => by
        refine hk.vt σ H1 S1 ρ1 (.ok rk) ρ2 _ p1 e2 fun w H3 S3 p3 q3 r2 => ?_
        have r3 := q3.rp p1 r1
        obtain ⟨b, eb, ho, nb⟩ := p3.liv i _ _ e7 rfl
        rw [ea] at eb; cases eb
        have hk := look_ok p3 r2 e3
        unfold putAt at e8
        split at e8
        · rename_i xs j
          obtain ⟨m, e10, rfl⟩ := Option.map_eq_some_iff.mp e8
          obtain ⟨ws, h1, h2⟩ := ho
          obtain ⟨w1, w2, w3⟩ := p3.wrL e7 ea (h2.set r3 m)
          refine .inl ⟨a, ws, j, m, rfl, hk.int_, h1, by rw [h2.length]; exact e10, ?_⟩
          exact G σ _ S3 w1 ((q3.any).trans w2.any)
        · rename_i k0 kvs
          obtain ⟨key, e10, e11⟩ := Option.bind_eq_some_iff.mp e8
          split at e11
          · rename_i hl
            cases e11
            obtain ⟨ks, h1, h2⟩ := ho
            have ew : w = kV key := by
              rw [dKey_some e10] at hk
              cases key with
              | inl i => exact hk.int_
              | inr z => exact hk.str_
            have kp : ∀ b x, H3 b = some x → (S3 b ∧ mutK x) ∨ fixK x → upd H3 a (.dK (putK ks key v)) b = some x := fun b x eb hb => by
              rw [upd_ne]
              · exact eb
              · rintro rfl
                rcases hb with ⟨z, _⟩ | z
                · exact nb z
                · rw [h1] at eb; cases eb; exact z
            obtain ⟨w1, w2, w3⟩ := p3.wr (u := .dK (putK ks key v)) (o' := .dic (putD kvs key d)) e7 ea trivial ⟨_, upd_same, RpK.keep kp (fun _ z => z) (h2.put r3)⟩
            refine .inr ⟨a, _, rfl, ?_, G σ _ S3 w1 ((q3.any).trans w2.any)⟩
            rw [ew]
            exact .k h1 (by rw [h2.length]; exact hl)
          · cases e11
        · cases e8
      exact ⟨.ref a0, ea0, main a0 ea0⟩
    · cases e4
  · cases e
theorem VS.asgW {tg e : Expr} {te : TE} {g : TG} {fa : M R} {tgt : XG} {pos : Pos} (he : VE X c W e te fa) (hg : VGW X c fx tg g tgt) (hs : swapsWithSole [tg] e pos.line X.env = pure false := by rfl) (hw : swappedStores [tg] e X.env = pure none := by rfl) (h1 : (assignEach [tg] X.env).map (·.2) = [assign tg X.env] := by rfl) : VS X c W fx (.Assign [tg] e pos) (tAsg te g) (Vm.asg tgt fa) := by
  refine ⟨ps_asg he.pe hg.pe hs hw h1, ?_⟩
  intro σ H S ρ fl ρ' D p e G
  unfold Vm.asg at e
  split at e
  · rename_i r ρ1 e1
    obtain ⟨⟨d, ρ2⟩, e2, e3⟩ := Option.bind_eq_some_iff.mp e
    obtain ⟨ρ3, e4, e5⟩ := Option.map_eq_some_iff.mp e3
    cases e5
    refine he.vt σ H S ρ (.ok r) _ _ p e1 fun v H' S' p' q' r' => ?_
    obtain ⟨S2, p2, q2, r2, _, _⟩ := keep_ok q' p' r'.w e2
    exact hg.vt σ H' S2 ρ2 v d _ _ p2 r2 e4 fun σ3 H3 S3 p3 q3 => G σ3 H3 S3 p3 (q2.any.trans q3)
  · rename_i x ρ1 e1
    cases e
    exact he.vt σ H S ρ (.error x) _ _ p e1 (goodE_ex (D := D) G)
  · cases e
end
end Vm
/-! ### texts: str, join, f-strings; constants of the module -/
namespace Vm
open PySem PySem.Spec PyProof.Rows L2 Ky
def toSts : List D → Option (List Str)
  | [] => some []
  | .str i :: ds => (toSts ds).map (i :: ·)
  | _ => none
theorem toSts_ok : ∀ {ds : List D} {ns : List Str}, toSts ds = some ns → ds = ns.map .str
  | [], _, h => by cases h; rfl
  | d :: ds, ns, h => by
    unfold toSts at h
    split at h
    · rename_i e; cases e
    · rename_i i ds' e
      cases e
      obtain ⟨ms, e1, rfl⟩ := Option.map_eq_some_iff.mp h
      rw [toSts_ok e1]; rfl
    · cases h
theorem toSts_map (ns : List Str) : toSts (ns.map .str) = some ns := by
  induction ns with
  | nil => rfl
  | cons n ns ih => simp [toSts, ih]
theorem rpA_sts {H : Hp} {S : Addr → Prop} {K : PySem.W.Frag} : ∀ {ns : List Str} {vs : List V}, RpA K H S vs (ns.map .str) → vs = ns.map V.str
  | [], _, h => by cases h; rfl
  | n :: ns, _, h => by
    cases h with
    | cons h1 h2 => cases h1; rw [rpA_sts h2]; rfl
section
variable {X : Cx} {c : Cn} {W : WX} {fx : List Nat}
/-- str of an int or a text -/
def dStrOf : List D → Option R
  | [.int i] => if i.natAbs.log2 < 1920 then some (.dat (.str (toString i))) else none
  | [.str s] => some (.dat (.str s))
  | _ => none
theorem o_strOf : OpN X c (CallR X (.type "str")) (fun xs H Q => (∃ i, xs = [.int i] ∧ i.natAbs.log2 < 1920 ∧ Q (.str (toString i)) H) ∨ ∃ a, xs = [.str a] ∧ Q (.str a) H) dStrOf := by
  refine ⟨fun pins s σ H xs us Q I r h => ?_, ?_⟩
  · rcases h with h | h
    · exact call_str_int pins s σ H xs us Q I r h
    · exact SkE.call_str_str pins s σ H xs us Q I r h
  · intro H S xs ds res Q hx hg G
    unfold dStrOf at hg
    split at hg
    · split at hg
      · rename_i hz
        cases hg
        obtain ⟨x, rfl, h⟩ := hx.one
        rw [h.int_]
        exact .inl ⟨_, rfl, hz, G _ _ (Gro.refl H) (Rp.str _)⟩
      · cases hg
    · cases hg
      obtain ⟨x, rfl, h⟩ := hx.one
      rw [h.str_]
      exact .inr ⟨_, rfl, G _ _ (Gro.refl H) (Rp.str _)⟩
    · cases hg
/-- sep.join(texts) -/
def dJoin (a : Str) (d : D) : Option D := match d with
  | .list xs => (toSts xs).bind fun ys => if (ys.map (·.length)).sum + ys.length * a.length ≤ 16777216 then some (.str (Txt.join a ys)) else none
  | .tuple xs => (toSts xs).bind fun ys => if (ys.map (·.length)).sum + ys.length * a.length ≤ 16777216 then some (.str (Txt.join a ys)) else none
  | _ => none
def xJoin (fa fb : M R) : M R := fa.bind fun a => fun ρ1 => match look ρ1 a with
  | some (.str z) => (fb.bind fun b => fun ρ => (look ρ b).bind fun d => (dJoin z d).map fun e => (.ok (.dat e), ρ)) ρ1
  | _ => none
theorem VE.join {o e : Expr} {to te : TE} {fa fb : M R} {apos pos : Pos} (kf : Fit X c) (ho : VE X c W o to fa) (he : VE X c W e te fb) (hs : starEach [e] X.env = [(false, eval e X.env)] := by rfl) (hbase : attributeBase o "join" X.env (eval o X.env) = eval o X.env := by rfl) (hline : (apos.endLine == pos.line) = true := by rfl) :
    VE X c W (.Call (.Attribute o "join" apos) [e] [] pos) (tM1 (fun x xs H Q => ∃ a p, ∃ ys : List Str, x = .str a ∧ xs = [.ref p] ∧ (SqL c.K H p (ys.map V.str) ∨ SqT c.K H p (ys.map V.str)) ∧ (ys.map (·.length)).sum + ys.length * a.length ≤ 16777216 ∧ Q (.str (Txt.join a ys)) H) to te) (xJoin fa fb) := by
  refine ⟨by rw [← kf.K]; exact pe_join ho.pe he.pe hs hbase hline, ?_⟩
  refine Vt.bind (rel1 := RR c) (rel2 := RR c) (k := fun x σ H1 Q => (∃ a, x = .str a) ∧ te σ H1 fun y H2 => ∃ a p, ∃ ys : List Str, x = .str a ∧ [y] = [.ref p] ∧ (SqL c.K H2 p (ys.map V.str) ∨ SqT c.K H2 p (ys.map V.str)) ∧ (ys.map (·.length)).sum + ys.length * a.length ≤ 16777216 ∧ Q (.str (Txt.join a ys)) H2) ho.vt ?_
  intro σ Hs Ss ρs H S ρ a x res ρ' Q q p ra e G
  split at e
  · rename_i z hz
    obtain rfl := (look_ok p ra hz).str_
    refine ⟨⟨z, rfl⟩, ?_⟩
    rcases M.bind_some e with ⟨b, ρ2, e2, e3⟩ | ⟨x, e2, rfl⟩
    · refine he.vt σ H S ρ (.ok b) ρ2 _ p e2 fun y H2 S2 p2 q2 r2 => ?_
      obtain ⟨d, f1, e3⟩ := Option.bind_eq_some_iff.mp e3
      obtain ⟨w, f2, e4⟩ := Option.map_eq_some_iff.mp e3
      cases e4
      have hd := look_ok p2 r2 f1
      unfold dJoin at f2
      split at f2
      · obtain ⟨ys, g1, g2⟩ := Option.bind_eq_some_iff.mp f2
        split at g2
        · rename_i hl
          cases g2
          obtain ⟨p', vs, rfl, s1, r1⟩ := hd.lst_
          rw [toSts_ok g1] at r1
          rw [rpA_sts r1] at s1
          exact ⟨z, p', ys, rfl, rfl, .inl s1, hl, RO.good (r := .dat (.str (Txt.join z ys))) (q.trans q2) p2 G (Gro.refl H2) (Rp.str _)⟩
        · cases g2
      · obtain ⟨ys, g1, g2⟩ := Option.bind_eq_some_iff.mp f2
        split at g2
        · rename_i hl
          cases g2
          obtain ⟨p', vs, rfl, s1, r1⟩ := hd.tup_
          rw [toSts_ok g1] at r1
          rw [rpA_sts r1] at s1
          exact ⟨z, p', ys, rfl, rfl, .inr s1, hl, RO.good (r := .dat (.str (Txt.join z ys))) (q.trans q2) p2 G (Gro.refl H2) (Rp.str _)⟩
        · cases g2
      · cases f2
    · exact he.vt σ H S ρ (.error x) ρ' _ p e2 fun C d H' S' v m1 m2 m3 p' q' => G C d H' S' v m1 m2 m3 p' (q.trans q')
  · cases e
/-! f-strings -/
def dFmt : D → Option R
  | .str y => if y.length ≤ sizeLine then some (.dat (.str y)) else none
  | .int i => if i.natAbs.log2 < 1920 then some (.dat (.str (toString i))) else none
  | _ => none
def xFmt (fa : M R) : M R := xOp1 dFmt fa
theorem VE.fmt {e : Expr} {te : TE} {fa : M R} {pos : Pos} (he : VE X c W e te fa) : VE X c W (.FormattedValue e (-1) none pos) (tFmt te) (xFmt fa) := by
  refine ⟨pe_fmt he.pe, Vt.op1 (g := dFmt) (r := fun x H1 Q => (∃ y : Str, x = .str y ∧ y.length ≤ sizeLine ∧ Q (.str y) H1) ∨ ∃ i : Int, x = .int i ∧ i.natAbs.log2 < 1920 ∧ Q (.str (toString i)) H1) ?_ he.vt⟩
  intro H S x d res Q hx hg G
  unfold dFmt at hg
  split at hg
  · split at hg
    · rename_i hz
      cases hg
      rw [hx.str_]
      exact .inl ⟨_, rfl, hz, G _ _ (Gro.refl H) (Rp.str _)⟩
    · cases hg
  · split at hg
    · rename_i hz
      cases hg
      rw [hx.int_]
      exact .inr ⟨_, rfl, hz, G _ _ (Gro.refl H) (Rp.str _)⟩
    · cases hg
  · cases hg
def xJs : List (M R) → Str → M R
  | [], acc => M.pure (.dat (.str acc))
  | f :: fs, acc => f.bind fun r => fun ρ => match look ρ r with
    | some (.str y) => if (acc ++ y).length ≤ sizeLine then xJs fs (acc ++ y) ρ else none
    | _ => none
inductive VJ (X : Cx) (c : Cn) (W : WX) : List Expr → List TE → List (M R) → Prop where
  | nil : VJ X c W [] [] []
  | cons {e : Expr} {t : TE} {f : M R} {es : List Expr} {ts : List TE} {fs : List (M R)} (h : VE X c W e t f) (r : VJ X c W es ts fs) : VJ X c W (e :: es) (t :: ts) (f :: fs)
theorem VJ.pe {es : List Expr} {ts : List TE} {fs : List (M R)} (h : VJ X c W es ts fs) : PJ X es ts := by
  induction h with
  | nil => exact .nil
  | cons h _ ih => exact .cons h.pe ih
theorem VJ.vt {es : List Expr} {ts : List TE} {fs : List (M R)} (h : VJ X c W es ts fs) : ∀ acc : Str, VEt c W (fun σ H Q => tJs ts acc σ H fun out H1 => Q (.str out) H1) (xJs fs acc) := by
  induction h with
  | nil =>
    intro acc σ H S ρ res ρ' Q p e G
    cases e
    exact RO.good (r := .dat (.str acc)) .refl p G (Gro.refl H) (Rp.str _)
  | @cons e t f es ts fs h r ih =>
    intro acc
    refine Vt.bind (rel1 := RR c) (rel2 := RR c) (k := fun x σ H1 Q => ∃ y : Str, x = .str y ∧ (acc ++ y).length ≤ sizeLine ∧ tJs ts (acc ++ y) σ H1 fun out H1 => Q (.str out) H1) h.vt ?_
    intro σ Hs Ss ρs H S ρ a x res ρ' Q q p ra e G
    split at e
    · rename_i y hy
      obtain rfl := (look_ok p ra hy).str_
      split at e
      · rename_i hl
        refine ⟨y, rfl, hl, ih (acc ++ y) σ H S ρ res ρ' _ p e ?_⟩
        cases res with
        | ok r => exact fun v H' S' p' q' r' => G v H' S' p' (q.trans q') (RR.back r' fun _ => q.gone)
        | error x => exact fun C d H' S' v m1 m2 m3 p' q' => G C d H' S' v m1 m2 m3 p' (q.trans q')
      · cases e
    · cases e
theorem VE.joined {v1 v2 : Expr} {rest : List Expr} {ts : List TE} {fs : List (M R)} {pos : Pos} (h : VJ X c W (v1 :: v2 :: rest) ts fs) : VE X c W (.JoinedStr (v1 :: v2 :: rest) pos) (fun σ H Q => tJs ts Str.empty σ H fun out H1 => Q (.str out) H1) (xJs fs Str.empty) := ⟨pe_joined h.pe, h.vt _⟩
theorem VE.joined1 {e : Expr} {te : TE} {fa : M R} {pos : Pos} (he : VE X c W e te fa) : VE X c W (.JoinedStr [e] pos) te fa := ⟨pe_joined1 he.pe, he.vt⟩
/-- a text of the module -/
theorem VE.gstr {x z : Str} {pos : Pos} (hg : Gl X x) (hm : ∃ t, X.mg x = some (.str z t)) (hd : (x == ("__debug__" : Str)) = false := by decide) : VE X c W (.Name x pos) (tC (.str z)) (xC (.str z)) := by
  obtain ⟨t, hm⟩ := hm
  exact ⟨pe_glob hg hm ⟨t, rfl⟩ hd, Vt.con fun _ _ _ => .str z⟩
theorem VE.gint {x : Str} {z : Int} {pos : Pos} (hg : Gl X x) (hm : ∃ t, X.mg x = some (.int z t)) (hd : (x == ("__debug__" : Str)) = false := by decide) : VE X c W (.Name x pos) (tC (.int z)) (xC (.int z)) := by
  obtain ⟨t, hm⟩ := hm
  exact ⟨pe_glob hg hm ⟨t, rfl⟩ hd, Vt.con fun _ _ _ => .int z⟩
/-- an expression that no run comes to -/
def xNever : M R := fun _ => none
def tNeverE : TE := fun _ _ _ => False
theorem VE.never {e : Expr} : VE X c W e tNeverE xNever := ⟨⟨fun pins s σ H Q I h => h.elim⟩, fun σ H S ρ res ρ' Q p e G => by cases e⟩
end
end Vm
/-! ### [..] * n; x[i] += e; [*xs, ..] -/
namespace Vm
open PySem PySem.Spec PyProof.Rows L2 Ky
section
variable {X : Cx} {c : Cn} {W : WX} {fx : List Nat}
/-- a list's part, by values -/
def rGetL (K : PySem.W.Frag) : V → V → Hp → VK → Prop := fun x y H Q => ∃ p xs i z, x = .ref p ∧ y = .int i ∧ SqL K H p xs ∧ L2.atI xs i = some z ∧ Q z H
theorem get_list : PGet X (rGetL X.K) := by
  intro pins s σ H x y v u Q I rx ry h
  obtain ⟨p, xs, i, z, rfl, rfl, hq, he, q⟩ := h
  cases rx
  obtain ⟨t, rfl⟩ := ry
  obtain ⟨its, r, pl, hz⟩ := I.list hq
  obtain ⟨j, h1, h2, h3, h4, h5⟩ := atI_get he
  obtain ⟨w, ew, rw'⟩ := r.get h2
  have hl := r.length
  have hn := line63
  have fin : EP X pins σ Q w s := ⟨z, H, I, rw', q⟩
  by_cases h0 : 0 ≤ i
  · have hj : i.toNat = j := by
      rw [seqIndex_of h0 h5] at h1
      exact Option.some.inj h1
    exact wpAny_getItem_list (x := w) pl.isList h0 (by omega) (by rw [hj]; simpa using ew) fin
  · have hj : (i + (its.toArray.size : Int)).toNat = j := by
      rw [seqIndex_neg (by omega) h4] at h1
      rw [List.size_toArray, ← hl]
      exact Option.some.inj h1
    exact wpAny_getItem_list_neg (x := w) pl.isList (by omega) (by rw [List.size_toArray] <;> omega) (by omega) (by rw [hj]; simpa using ew) fin
/-- x[i] op= e of ints in a list -/
def sAugB (i : Nat) (fk : M R) (f : Int → Int → Int) (fe : M R) : XS := fun ρ => match fk ρ with
  | some (.ok rk, ρ1) => match look ρ1 rk, ρ1[i]? with
    | some (.int k), some (some (.own (.lst xs))) => match L2.atI xs k with
      | some (.int a) => match fe ρ1 with
        | some (.ok re, ρ2) => match look ρ2 re, ρ2[i]? with
          | some (.int b), some (some (.own (.lst ys))) => (ixN ys.length k).map fun j => (.nx, ρ2.set i (some (.own (.lst (ys.set j (.int (f a b)))))))
          | _, _ => none
        | _ => none
      | _ => none
    | _, _ => none
  | _ => none
def sAug (i : Nat) (fk : M R) (f : Int → Int → Int) (fe : M R) : XS := fun ρ => match ρ[i]? with
  | some (some (.own _)) => sAugB i fk f fe ρ
  | _ => none
theorem VS.aug {i : Nat} {o ki e : Expr} {tk te : TE} {fk fe : M R} {f : Int → Int → Int} {op : Operator} {pos tpos : Pos} (kf : Fit X c) (hu : X.A.units + 1 < cLine) (ho : PE X o (tVar i)) (hk : VE X c W ki tk fk) (he : VE X c W e te fe) (hp : PIp X op (ipI f))
    (ha : ∀ ov iv new, augStore ki ov iv new = (do holding [new, ov, iv] (setItem ov iv new); release [new, ov, iv] []; pure .next) := by intros; rfl) :
    VS X c W fx (.AugAssign (.Subscript o ki tpos) op e pos) (tAugS (tVar i) tk te (rGetL c.K) (ipI f) rSetAll) (sAug i fk f fe) := by
  refine ⟨by rw [← kf.K]; exact ps_augS ho hk.pe get_list he.pe hp (set_all hu) ha, ?_⟩
  intro σ H S ρ fl ρ' D p e G
  unfold sAug at e
  split at e
  case h_2 => cases e
  rename_i o0 e0
  obtain ⟨a0, ea0, _⟩ := p.liv i _ _ e0 rfl
  refine ⟨.ref a0, ea0, ?_⟩
  unfold sAugB at e
  split at e
  case h_2 => cases e
  rename_i rk ρ1 e1
  refine hk.vt σ H S ρ (.ok rk) ρ1 _ p e1 fun kv H1 S1 p1 q1 r1 => ?_
  split at e
  case h_2 => cases e
  rename_i k xs e2 e3
  obtain rfl := (look_ok p1 r1 e2).int_
  obtain ⟨b, eb, ho1, nb⟩ := p1.liv i _ _ e3 rfl
  rw [ea0] at eb; cases eb
  obtain ⟨vs, h1, h2⟩ := ho1
  split at e
  case h_2 => cases e
  rename_i x0 e4
  obtain ⟨v0, g1, g2⟩ := h2.atI e4
  have ev0 : v0 = .int x0 := by cases g2; rfl
  subst ev0
  refine ⟨a0, vs, k, .int x0, rfl, rfl, .inl (.inl h1), g1, ?_⟩
  split at e
  case h_2 => cases e
  rename_i re ρ2 e5
  refine he.vt σ H1 S1 ρ1 (.ok re) ρ2 _ p1 e5 fun ev H2 S2 p2 q2 r2 => ?_
  split at e
  case h_2 => cases e
  rename_i y0 ys e6 e7
  obtain rfl := (look_ok p2 r2 e6).int_
  obtain ⟨b, eb, ho2, nb2⟩ := p2.liv i _ _ e7 rfl
  rw [ea0] at eb; cases eb
  obtain ⟨ws, h3, h4⟩ := ho2
  obtain ⟨j, e8, e9⟩ := Option.map_eq_some_iff.mp e
  cases e9
  refine ⟨x0, y0, rfl, rfl, ?_⟩
  obtain ⟨w1, w2, w3⟩ := p2.wrL e7 ea0 (h4.set (Rp.int (f x0 y0)) j)
  exact .inl ⟨a0, ws, k, j, rfl, rfl, h3, by rw [h4.length]; exact e8, G σ _ S2 w1 (((q1.trans q2).any).trans w2.any)⟩
/-! lists so many times over -/
theorem RpA.rep {K : PySem.W.Frag} {H : Hp} {S : Addr → Prop} {vs : List V} {ds : List D} (h : RpA K H S vs ds) : ∀ k : Nat, RpA K H S (List.replicate k vs).flatten (List.replicate k ds).flatten
  | 0 => .nil
  | k + 1 => by
    rw [List.replicate_succ, List.replicate_succ, List.flatten_cons, List.flatten_cons]
    exact h.app (RpA.rep h k)
def xRep (fa fb : M R) : M R := fa.bind fun a => fb.bind fun b => fun ρ => match a, look ρ b with
  | .own (.lst xs), some (.int k) => if -(2 ^ 63) ≤ k ∧ k < 2 ^ 63 ∧ xs.length * k.toNat ≤ sizeLine then some (.ok (.own (.lst (List.replicate k.toNat xs).flatten)), ρ) else none
  | _, _ => none
theorem VE.rep {e1 e2 : Expr} {ta tb : TE} {fa fb : M R} {pos : Pos} (ha : VE X c W e1 ta fa) (hb : VE X c W e2 tb fb) : VE X c W (.BinOp e1 .Mult e2 pos) (tOp rRep ta tb) (xRep fa fb) := by
  refine ⟨pe_op op_rep ha.pe hb.pe, Vt.bind2 (rel1 := RR c) (rel2 := RR c) (rel3 := RR c) (k := fun x y _ H Q => rRep x y H Q) (fun h k => backRR h k) (fun p q h => RR.step p q h) ha.vt hb.vt ?_⟩
  intro σ Hs Ss ρs H S ρ a x b y res ρ' Q q p ra rb e G
  split at e
  · rename_i xs k e1
    split at e
    · rename_i hc
      cases e
      obtain rfl := (look_ok p rb e1).int_
      obtain ⟨l, rfl, ⟨vs, h1, h2⟩, h3, h4, h5⟩ := ra
      refine ⟨l, k, vs, rfl, rfl, h1, hc.1, hc.2.1, by rw [h2.length]; exact hc.2.2, fun pp n => ?_⟩
      obtain ⟨g, o⟩ := ro_lst n (h2.rep k.toNat)
      exact RO.good q p G g o
    · cases e
  · cases e
/-! *xs among the parts of a display -/
def xStar (fa : M R) (fr : M (List R)) : M (List R) := fa.bind fun a => fun ρ1 => match look ρ1 a with
  | some (.list xs) => (fr.bind fun rs => M.pure (xs.map .dat ++ rs)) ρ1
  | some (.tuple xs) => (fr.bind fun rs => M.pure (xs.map .dat ++ rs)) ρ1
  | _ => none
theorem RRs.dats {σ : Sl} {ρ : Env} {H0 H : Hp} {S : Addr → Prop} : ∀ {vs : List V} {ds : List D}, RpA c.K H S vs ds → RRs c σ ρ H0 (ds.map .dat) vs H S
  | _, _, .nil => trivial
  | _, _, .cons h1 h2 => ⟨h1, RRs.dats h2⟩
theorem RRs.app {σ : Sl} {ρ : Env} {H0 H : Hp} {S : Addr → Prop} : ∀ {rs : List R} {vs : List V} {rs' : List R} {vs' : List V}, RRs c σ ρ H0 rs vs H S → RRs c σ ρ H0 rs' vs' H S → RRs c σ ρ H0 (rs ++ rs') (vs ++ vs') H S
  | [], [], _, _, _, h => h
  | _ :: _, _ :: _, _, _, h, h' => ⟨h.1, RRs.app h.2 h'⟩
  | [], _ :: _, _, _, h, _ => h.elim
  | _ :: _, [], _, _, h, _ => h.elim
theorem VA.star {e : Expr} {es : List Expr} {te : TE} {t : TA} {fa : M R} {fr : M (List R)} {p : Pos} (kf : Fit X c) (ha : VE X c W e te fa) (hr : VA X c W es t fr) (hs : starEach (.Starred e p :: es) X.env = (true, eval e X.env) :: starEach es X.env := by rfl) : VA X c W (.Starred e p :: es) (StX.tStar c.K te t) (xStar fa fr) := by
  refine ⟨by rw [← kf.K]; exact StX.pa_star ha.pe hr.pe hs, ?_⟩
  refine Vt.bind (rel1 := RR c) (rel2 := RRs c) (k := fun x σ H1 Q => ∃ p xs, x = V.ref p ∧ (SqT c.K H1 p xs ∨ SqL c.K H1 p xs) ∧ t σ H1 fun ys H2 => Q (xs ++ ys) H2) ha.vt ?_
  intro σ Hs Ss ρs H S ρ a x res ρ' Q q p ra e G
  have main : ∀ (xs : List D) (vs : List V), RpA c.K H S vs xs → (fr.bind fun rs => M.pure (xs.map .dat ++ rs)) ρ = some (res, ρ') → t σ H fun ys H2 => Q (vs ++ ys) H2 := fun xs vs h e => by
    rcases M.bind_some e with ⟨rs, ρ2, e2, e3⟩ | ⟨x, e2, rfl⟩
    · cases e3
      refine hr.vt σ H S ρ (.ok rs) _ _ p e2 fun ys H2 S2 p2 q2 r2 => ?_
      exact G (vs ++ ys) H2 S2 p2 (q.trans q2) ((RRs.dats (q2.rpA p h)).app (RRs.back (fun _ => q.gone) r2))
    · exact hr.vt σ H S ρ (.error x) ρ' _ p e2 fun C d H' S' v m1 m2 m3 p' q' => G C d H' S' v m1 m2 m3 p' (q.trans q')
  split at e
  · rename_i xs hx
    obtain ⟨b, vs, rfl, s1, r1⟩ := (look_ok p ra hx).lst_
    exact ⟨b, vs, rfl, .inr s1, main xs vs r1 e⟩
  · rename_i xs hx
    obtain ⟨b, vs, rfl, s1, r1⟩ := (look_ok p ra hx).tup_
    exact ⟨b, vs, rfl, .inl s1, main xs vs r1 e⟩
  · cases e
end
end Vm
/-! ### several except clauses, with a name or none; the exception is kept -/
namespace Ky
open PySem PySem.Spec PyProof.Rows L2
abbrev Clause := Value × Option Nat × (Addr → TS)
/-- what the clauses wish, one after the other -/
def wMk (K : PySem.W.Frag) (Wout : WX) (D : Ends) : List Clause → WX
  | [] => Wout
  | (c, some i, ts) :: r => fun cls d σ H => ∃ b, PySem.W.exmOne K cls c = some b ∧
      (b = true → ∀ a, H a = none → ts a { nx := fun σ' H' => D.nx (σ'.set i none) H', rt := D.rt, bk := fun σ' H' => D.bk (σ'.set i none) H', ct := fun σ' H' => D.ct (σ'.set i none) H' } (σ.set i (some (.ref a))) (upd H a (KeptE cls d a))) ∧ (b = false → wMk K Wout D r cls d σ H)
  | (c, none, ts) :: r => fun cls d σ H => ∃ b, PySem.W.exmOne K cls c = some b ∧ (b = true → ∀ a, H a = none → ts a D σ (upd H a (KeptE cls d a))) ∧ (b = false → wMk K Wout D r cls d σ H)
inductive HdM (X : Cx) : List ExceptHandler → List Clause → Prop
  | nil : HdM X [] []
  | as {x n : Str} {c : Value} {i : Nat} {ts : Addr → TS} {b₀ : Stmt} {suite : List Stmt} {np pos' : Pos} {hds : List ExceptHandler} {l : List Clause} (hi : X.N[i]? = some n) (hln : X.env.kindOf n = some .local) (hc : Names X x c)
      (hsu : ∀ (a : Addr) (pn : List (Addr × Obj)), PSs (X.suite a pn) (b₀ :: suite) (ts a)) (r : HdM X hds l) : HdM X (.ExceptHandler (some (.Name x np)) (some n) (b₀ :: suite) pos' :: hds) ((c, some i, ts) :: l)
  | un {x : Str} {c : Value} {ts : Addr → TS} {b₀ : Stmt} {suite : List Stmt} {np pos' : Pos} {hds : List ExceptHandler} {l : List Clause} (hc : Names X x c)
      (hsu : ∀ (a : Addr) (pn : List (Addr × Obj)), PSs (X.suite a pn) (b₀ :: suite) (ts a)) (r : HdM X hds l) : HdM X (.ExceptHandler (some (.Name x np)) none (b₀ :: suite) pos' :: hds) ((c, none, ts) :: l)
section
variable {X : Cx} {body : List Stmt} {h₀ : ExceptHandler} {hds : List ExceptHandler} {l : List Clause} {pos : Pos} {tb : WX → TS} {Wout : WX}
theorem ps_tryM (hs : X.stack = X.env :: X.outer) (hf : X.env.frame = some X.env.locals) (hex : X.ex = []) (hN : X.N.Nodup) (tk : Takes X Wout)
    (hb : ∀ (W : WX) (pn : List (Addr × Obj)) (xe : Value → Shared → Prop), Takes (X.tr pn xe) W → PassesOwn (model X.prog X.w) X.A X.env xe → PSs (X.tr pn xe) body (tb W))
    (hh : HdM X (h₀ :: hds) l) : PS X (.Try body (h₀ :: hds) [] [] pos) (fun D σ H => tb (wMk X.K Wout D l) D σ H) := by
  refine ⟨fun pins s σ H D I h => ?_⟩
  have ok := I.ok
  have hfr : X.A.frames = some (X.env :: X.outer) := by rw [ok.frames, hs]
  refine wpAny_Try_except ?_
  have start := (hb (wMk X.K Wout D l) (X.pn ++ pins) (fun e s₁ => wpAny (model X.prog X.w) X.A (noteFrame e X.env) (fun _ s₂ => wpAny (model X.prog X.w) X.A (setFlight e none) (fun _ s₃ =>
    wpAny (model X.prog X.w) X.A (handleBy e X.env (h₀ :: hds)) (SP X pins D) X.xe s₃) X.xe s₂) X.xe s₁) (fun u s' xx => ?_) PassesOwn.looking).run [] s σ H D (I.toTry _) h
  · refine wpAny_mono start (fun f s1 hsp => ?_) (fun e s1 he => he)
    cases f with
    | next =>
      obtain ⟨σ1, H1, J1, q1⟩ := hsp
      exact wpAny_execs_nil ⟨σ1, H1, J1.ofTry ok, q1⟩
    | brk =>
      obtain ⟨σ1, H1, J1, q1⟩ := hsp
      exact ⟨σ1, H1, J1.ofTry ok, q1⟩
    | cont =>
      obtain ⟨σ1, H1, J1, q1⟩ := hsp
      exact ⟨σ1, H1, J1.ofTry ok, q1⟩
    | ret u =>
      obtain ⟨v1, σ1, H1, J1, r1, q1⟩ := hsp
      exact ⟨v1, σ1, H1, J1.ofTry ok, r1, q1⟩
  · obtain ⟨a, B, sI, pins2, σ2, H2, cls, d, rfl, JJ, nb, up, sky, na, os, ag, w⟩ := xx
    have J : Inv X pins σ2 H2 sI := JJ.ofTry ok
    have sk : Sky B (X.env :: X.outer) a (Zc cls d) X.env.locals s'.heap := by rw [← hs]; exact sky
    show wpAny (model X.prog X.w) X.A (noteFrame (.ref a) X.env) _ _ _
    refine Sky.land Zc.steady hfr hf sk fun h3 fl3 up3 => ?_
    have J3 : Inv X pins σ2 H2 { s' with heap := h3 } := J.landed nb fl3.1 (up.trans up3) os ag
    obtain ⟨oe3, vs3, he3, hz3, hd3⟩ := fl3.there
    have far : a ∉ frs (X.env :: X.outer) := fun hm => by
      obtain ⟨_, o', e', bad⟩ := fl3.2.2.1.mem hm
      rw [he3] at e'
      cases e'
      exact bad _ hd3
    have nL : a ≠ X.env.locals := fun z => far (List.mem_filterMap.mpr ⟨X.env, List.mem_cons_self, by rw [hf, z]⟩)
    have nI : sI.heap.get? a = none := by
      cases e : sI.heap.get? a with
      | none => rfl
      | some o =>
        have z := nb a o e (by rw [hs]; exact far)
        rw [fl3.2.1] at z
        cases z
    have off : ∀ {u : Addr} {o : Obj}, sI.heap.get? u = some o → u ≠ a := fun {u o} e z => by
      rw [z, nI] at e
      cases e
    have n0 : X.s_0.heap.get? a = none := by
      cases e : X.s_0.heap.get? a with
      | none => rfl
      | some o =>
        obtain ⟨o', z⟩ := J.base.there a o e (by rw [hex]; exact List.not_mem_nil)
        exact absurd rfl (off z)
    have nC : ∀ x c, X.env.cells.lookup x = some c → c ≠ a := fun x c e => by
      obtain ⟨v, o, z, _⟩ := J.cell x c e
      exact off z
    have nP : ∀ p ∈ X.pn ++ pins, p.1 ≠ a := fun p hp => by
      exact off (J.pin p hp).1
    have S3 := inv_suite0 J3 a
    have lookT : PySem.W.Looks (model X.prog X.w) h3 (typeOf (.ref a)) cls := fun A Q E s k q => wpAny_typeOf_ref (k _ _ he3) (by rw [hz3.1]; exact q)
    have named : ∀ {x : Str} {c : Value} {np : Pos} {Q : Value → Shared → Prop} {E : Value → Shared → Prop}, Names X x c → Q c { s' with heap := h3 } → wpAny (model X.prog X.w) (X.A.mark (some (.ref a))) (eval (.Name x np) X.env) Q E { s' with heap := h3 } := fun {x c np Q E} hc q => by
      obtain ⟨c1, c2, c3 | ⟨c3, c4, c5⟩⟩ := hc
      · exact ld_glob (X := X.suite a (X.pn ++ pins)) S3 c1 c3 q c2
      · exact ld_blt (X := X.suite a (X.pn ++ pins)) S3 c1 c3 c4 q c5 c2
    have go : ∀ {hds' : List ExceptHandler} {l' : List Clause}, HdM X hds' l' → wMk X.K Wout D l' cls d σ2 H2 → wpAny (model X.prog X.w) X.A (handleBy (.ref a) X.env hds') (SP X pins D) X.xe { s' with heap := h3 } := by
      intro hds' l' hk
      induction hk with
      | nil =>
        intro w
        refine wpAny_handleBy_nil ?_
        obtain ⟨k1, k2, k3, oe, vs, T, oT, us, he, hz, hd, h1, hr⟩ := id fl3
        unfold PySem.passOn
        refine wpAny_bind (wpAny_field he hd h1 ?_)
        rw [if_neg (show ¬ ((Value.ref T == Value.none) = true) from by simp)]
        have up_ : wpAny (model X.prog X.w) X.A (setFlight (.ref a) X.env.frame) (fun _ s4 => wpAny (model X.prog X.w) X.A (throw (.ref a) : Sem Flow) (SP X pins D) X.xe s4) X.xe { s' with heap := h3 } := by
          rw [hf]
          refine HandSPX.setFlight_upZ fl3 fun h4 held up4 => wpAny_throw (tk _ _ ?_)
          exact ⟨a, B, sI, pins, σ2, H2, cls, d, rfl, J, nb, (up.trans up3).trans up4, .inr (.inr (by rw [hs]; exact held)), na, os, ag, w⟩
        first
          | exact wpAny_bind (wpAny_pure (wpAny_bind up_))
          | exact wpAny_bind up_
      | @as x n c i ts b₀ suite np pos' hds2 l2 hi hln hc hsu r ih =>
        intro w
        obtain ⟨b, hb1, hyes, hno⟩ := w
        refine wpAny_handleBy_cons (codeAny_handlers_test ?_) (by intro q; cases q)
        have lookM := PySem.W.exm_one (M := model X.prog X.w) J3.kIn lookT hb1
        refine named hc (lookM.here ?_)
        cases b with
        | true =>
          refine codeAny_handlers_suite_as ?_
          refine HandSPX.lands_againZ fl3 fun h4 fl4 up4 => ?_
          have J4 : Inv X pins σ2 H2 { s' with heap := h4 } := J.landed nb fl4.1 ((up.trans up3).trans up4) os ag
          obtain ⟨oe4, vs4, he4, hz4, hd4⟩ := fl4.there
          have K4 : Inv X pins σ2 (upd H2 a (KeptE cls d a)) { s' with heap := h4 } := inv_track J4 na n0 nL nC nP (keptE_ok he4 hz4 hd4)
          have S4 := inv_suite0 K4 a
          refine store_ok (X := X.suite a (X.pn ++ pins)) (v := .ref a) S4 hN hi (.inl hln) rfl (fun s5 S5 => ?_) (.inr hln)
          refine wpAny_mono ((hsu a (X.pn ++ pins)).run [] s5 _ _ _ S5 (hyes rfl a na)) (fun f s6 hsp => ?_) (fun _ _ z => False.elim z)
          have last : ∀ {σ6 : L2.St} {H6 : Hp} {Q : Shared → Prop}, Inv (X.suite a (X.pn ++ pins)) [] σ6 H6 s6 → (∀ s7, Inv X pins (σ6.set i none) H6 s7 → Q s7) →
              wpAny (model X.prog X.w) X.A (do bindName X.env n .none; unbindBehindTheSuite X.env n pos') (fun _ s7 => Q s7) X.xe s6 := fun {σ6 H6 Q} T6 hq => gone_ok (inv_unsuite0 T6 ok) hN hi hln hq
          cases f with
          | next =>
            obtain ⟨σ6, H6, T6, q6⟩ := hsp
            exact last T6 fun s7 J7 => ⟨_, _, J7, q6⟩
          | brk =>
            obtain ⟨σ6, H6, T6, q6⟩ := hsp
            exact last T6 fun s7 J7 => ⟨_, _, J7, q6⟩
          | cont =>
            obtain ⟨σ6, H6, T6, q6⟩ := hsp
            exact last T6 fun s7 J7 => ⟨_, _, J7, q6⟩
          | ret u =>
            obtain ⟨v6, σ6, H6, T6, r6, q6⟩ := hsp
            exact last T6 fun s7 J7 => ⟨_, _, _, J7, r6, q6⟩
        | false =>
          show wpAny _ X.A (handleBy (.ref a) X.env hds2) _ _ _
          exact ih (hno rfl)
      | @un x c ts b₀ suite np pos' hds2 l2 hc hsu r ih =>
        intro w
        obtain ⟨b, hb1, hyes, hno⟩ := w
        refine wpAny_handleBy_cons (codeAny_handlers_test ?_) (by intro q; cases q)
        have lookM := PySem.W.exm_one (M := model X.prog X.w) J3.kIn lookT hb1
        refine named hc (lookM.here ?_)
        cases b with
        | true =>
          refine codeAny_handlers_suite ?_
          refine HandSPX.lands_againZ fl3 fun h4 fl4 up4 => ?_
          have J4 : Inv X pins σ2 H2 { s' with heap := h4 } := J.landed nb fl4.1 ((up.trans up3).trans up4) os ag
          obtain ⟨oe4, vs4, he4, hz4, hd4⟩ := fl4.there
          have K4 : Inv X pins σ2 (upd H2 a (KeptE cls d a)) { s' with heap := h4 } := inv_track J4 na n0 nL nC nP (keptE_ok he4 hz4 hd4)
          have S4 := inv_suite0 K4 a
          refine wpAny_mono ((hsu a (X.pn ++ pins)).run [] _ _ _ _ S4 (hyes rfl a na)) (fun f s6 hsp => ?_) (fun _ _ z => False.elim z)
          cases f with
          | next =>
            obtain ⟨σ6, H6, T6, q6⟩ := hsp
            exact ⟨_, _, inv_unsuite0 T6 ok, q6⟩
          | brk =>
            obtain ⟨σ6, H6, T6, q6⟩ := hsp
            exact ⟨_, _, inv_unsuite0 T6 ok, q6⟩
          | cont =>
            obtain ⟨σ6, H6, T6, q6⟩ := hsp
            exact ⟨_, _, inv_unsuite0 T6 ok, q6⟩
          | ret u =>
            obtain ⟨v6, σ6, H6, T6, r6, q6⟩ := hsp
            exact ⟨_, _, _, inv_unsuite0 T6 ok, r6, q6⟩
        | false =>
          show wpAny _ X.A (handleBy (.ref a) X.env hds2) _ _ _
          exact ih (hno rfl)
    exact go hh w
end
end Ky
/-! ### raise, calls of defs that raise, try with clauses -/
namespace Vm
open PySem PySem.Spec PyProof.Rows L2 Ky
section
variable {X : Cx} {c : Cn} {W Wout : WX} {fx : List Nat}
/-! raise C(e) -/
def sRaise (cls : Str) (fa : M R) : XS := fun ρ => match fa ρ with
  | some (.ok r, ρ1) => (keepR r ρ1).map fun p => (.ex ⟨cls, p.1⟩, p.2)
  | some (.error x, ρ1) => some (.ex x, ρ1)
  | none => none
theorem VS.raise {x : Str} {C fI : Addr} {fd : FuncData} {e : Expr} {ta : TE} {fa : M R} {p pos pos2 : Pos} (k : Fit X c) (hc : X.calm = true) (tk : Takes X W) (T : ErrC X.K C fI) (F : FnOk X.prog X.w X.K X.mg X.base CX0 1 fI fd ["self", "value"] (spInitV X.K)) (b : Binds X.K fd ["self", "value"] [])
    {j : Nat} (hr : Room j X.A) (hj : 2 ≤ j) (hg : Gl X x) (hm : X.mg x = some (.ref C)) (ha : VE X c W e ta fa) (hdb : (x == ("__debug__" : Str)) = false := by decide) (h1 : starEach (e :: []) X.env = (false, eval e X.env) :: starEach [] X.env := by rfl)
    (h2 : (backTo pos (starEach [] X.env)).any (·.1) = false := by rfl) :
    VS X c W fx (.Raise (some (.Call (.Name x p) [e] [] pos)) none pos2) (fun _ σ H => tMkO C (spInitV X.K) [] (tCons ta tNil) σ H fun cls d H' => W cls d σ H') (sRaise x fa) := by
  refine ⟨ps_err hc tk T F b (hr.mono hj) hg hm (pa_cons ha.pe pa_nil h1) hdb h1 h2, ?_⟩
  intro σ H S ρ fl ρ' D q e1 G
  unfold sRaise at e1
  split at e1
  · rename_i r ρ1 e2
    obtain ⟨⟨d, ρ2⟩, e3, e4⟩ := Option.map_eq_some_iff.mp e1
    cases e4
    refine ha.vt σ H S ρ (.ok r) ρ1 _ q e2 fun v H1 S1 p1 q1 r1 => ?_
    obtain ⟨S2, p2, q2, r2, _, _⟩ := keep_ok q1 p1 r1.w e3
    have hh := err_in (Q := fun cls d' H' => W cls d' σ H') (H := H1) (y := v) T fun dd hn => by
      have g : Gro H1 (upd H1 dd (.xd [((("value" : Str)), v)])) := gro_new hn
      exact G C dd σ _ S2 v (by rw [← k.mg]; exact hm) upd_same (r2.keep (Gro.kp g) fun _ z => z) (p2.gro g) (q2.any.trans (stq_gro g))
    exact hh
  · rename_i x1 ρ1 e2
    cases e1
    exact ha.vt σ H S ρ (.error x1) _ _ q e2 (goodE_ex (D := D) G)
  · cases e1
/-! calls of defs that raise -/
variable {rf : Rf} {n m : Nat} {g : XS}
theorem Vt.callX {t : TA} {fr : M (List R)} (va : VAt c W t fr) : VEt c W (tCallS (spV c n rf (fnN n m rf g)) (WE W) t) (xCall rf (fnN n m rf g) fr) := by
  refine Vt.bind (rel1 := RRs c) (rel2 := RR c) (k := fun vs σ H1 Q => spV c n rf (fnN n m rf g) vs H1 Q (WE W σ)) va ?_
  intro σ Hs Ss ρs H S ρ rs vs res ρ' Q q p rr e G
  exact Vt.callK (W := W) (E := WE W) (fun _ _ _ _ z => z) (fun cs res ob h => (fnN_len h).1) q p rr e G
theorem VE.callX {k j : Nat} {x : Str} {st : Stmt} {ps : List Str} {p pos : Pos} {e : Expr} {es : List Expr} {t : TA} {fr : M (List R)} (cl : CalX X.prog X.w X.K X.mg X.base k x st ps (spV c n rf (fnN n m rf g))) (tk : Takes X W) (hr : Room j X.A) (hk : k ≤ j) (hg : Gl X x) (ha : VA X c W (e :: es) t fr)
    (hdb : (x == ("__debug__" : Str)) = false := by decide) (he : starEach (e :: es) X.env = (false, eval e X.env) :: starEach es X.env := by rfl) (hpl : (backTo pos (starEach es X.env)).any (·.1) = false := by rfl) :
    VE X c W (.Call (.Name x p) (e :: es) [] pos) (tCallS (spV c n rf (fnN n m rf g)) (WE W) t) (xCall rf (fnN n m rf g) fr) := ⟨pe_fX cl tk hr hk hg ha.pe hdb he hpl, Vt.callX ha.vt⟩
/-- f(k = v, ..) that may raise -/
def tCallPX (n : Nat) (perm : List Nat) (sp : Sp) (W : WX) (tk : TA) : TE := fun σ H Q => tk σ H fun zs H2 => zs.length = n ∧ sp (permL perm zs) H2 Q (WE W σ)
theorem pe_k0X {k j : Nat} {x : Str} {st : Stmt} {ps : List Str} {sp : Sp} {p pos : Pos} {kws : List Keyword} {tka : TA} (ks : List Str) (perm : List Nat)
    (h : ∀ (kV doc pm : Value) (an : Option Addr) (cdv ct : Value) (ws : List Value), ws.length = ks.length → bindArgs (PySem.W.fnOf x x (defArgs st) (defBody st) (defScope st) .none kV doc pm an cdv ct) ⟨[], ks.zip ws⟩ = pure (ps.zip (permL perm ws)))
    (cl : CalX X.prog X.w X.K X.mg X.base k x st ps sp) (tk : Takes X W) (hr : Room j X.A) (hk : k ≤ j) (hg : Gl X x) (hkw : PK X kws tka)
    (hall : (backToKw pos (keywordEach kws X.env)).all (·.1.isSome) = true := by rfl) (hks : (backToKw pos (keywordEach kws X.env)).filterMap (·.1) = ks := by rfl) (hdb : (x == ("__debug__" : Str)) = false := by decide)
    (hpl : ((backTo pos (starEach [] X.env)).any (·.1) || (backToKw pos (keywordEach kws X.env)).any (·.1.isNone)) = false := by rfl) :
    PE X (.Call (.Name x p) [] kws pos) (tCallPX ks.length perm sp W tka) := by
  obtain ⟨f, fd, F, D, hm, b⟩ := cl.ex
  have kb : KBn X.K fd ps 0 ks (fun _ ws => permL perm ws) (fun _ zs => permL perm zs) := by
    obtain ⟨oc, od, dV, kV, doc, pm, an, cdv, ct, osl, rfl, lk, hcd, hD, hK⟩ := D.ex
    rcases hD with ⟨_, rfl⟩ | ⟨e, _⟩
    · refine ⟨fun s us ws _ l1 l2 => ?_, fun _ r => permL_rel r perm⟩
      have e := List.eq_nil_of_length_eq_zero l1
      subst e
      exact .of_eq (h kV doc pm an cdv ct ws l2)
    · exact absurd rfl e
  refine ⟨fun pins s σ H Q I hh => ?_⟩
  refine wpAny_Call_Name_kw (ld_glob I hg hm ?_ hdb)
  refine PySem.W.callWith_KW0 (h₀ := X.base) I.ok.mod.kin D.kp hall ?_ hpl
  refine thn (hkw.run pos pins s σ H _ I hh) fun ws s2 ⟨zs, H2, I2, rz, l2, q2⟩ => ⟨I2.kIn, ?_⟩
  rw [hks]
  have r2 := kb.rel (vs := []) (us := []) .nil rz
  refine wpAny_call (codeAny_mono ((F.run X.A X.stack s2 H2 ⟨[], ks.zip ws⟩ (permL perm ws) (permL perm zs) Q (WE W σ) (hr.mono hk) I2.env0 (kb.to s2 [] ws I2.kIn rfl (rz.length.symm.trans l2)) r2 q2)) fun r s' hq => ?_)
  cases r with
  | error e => exact passAt tk σ pins H2 s2 e s' I2 hq
  | ok fl =>
    cases fl with
    | ret u => exact I2.after hq
    | next => exact False.elim hq
    | brk => exact False.elim hq
    | cont => exact False.elim hq
theorem Vt.callKwX {j : Nat} {perm : List Nat} {t : TA} {fr : M (List R)} (hl : ∀ ρ rs ρ', fr ρ = some (.ok rs, ρ') → rs.length = j) (va : VAt c W t fr) : VEt c W (tCallPX j perm (spV c n rf (fnN n m rf g)) W t) (xCall rf (fnN n m rf g) (permR perm fr)) := by
  intro σ H S ρ res ρ' Q p e G
  have e' : (fr.bind fun rs => Vm.callK rf (fnN n m rf g) (permL perm rs)) ρ = some (res, ρ') := by
    unfold xCall permR M.bind M.pure at e
    unfold M.bind
    cases h : fr ρ with
    | none => rw [h] at e; cases e
    | some q =>
      obtain ⟨r, ρ1⟩ := q
      rw [h] at e
      cases r with
      | ok rs => exact e
      | error x => exact e
  rcases M.bind_some e' with ⟨rs, ρ1, e1, e2⟩ | ⟨x, e1, rfl⟩
  · refine va σ H S ρ (.ok rs) ρ1 _ p e1 fun zs H1 S1 p1 q1 r1 => ?_
    exact ⟨by rw [← r1.len]; exact hl ρ rs ρ1 e1, Vt.callK (W := W) (E := WE W) (fun _ _ _ _ z => z) (fun cs res ob h => (fnN_len h).1) q1 p1 (r1.perm perm) e2 G⟩
  · exact va σ H S ρ (.error x) ρ' _ p e1 G
theorem VE.callKwX {k j : Nat} {x : Str} {st : Stmt} {ps : List Str} {p pos : Pos} {kws : List Keyword} {tka : TA} {fr : M (List R)} (ks : List Str) (perm : List Nat) (cl : CalX X.prog X.w X.K X.mg X.base k x st ps (spV c n rf (fnN n m rf g))) (tk : Takes X W)
    (h : ∀ (kV doc pm : Value) (an : Option Addr) (cdv ct : Value) (ws : List Value), ws.length = ks.length → bindArgs (PySem.W.fnOf x x (defArgs st) (defBody st) (defScope st) .none kV doc pm an cdv ct) ⟨[], ks.zip ws⟩ = pure (ps.zip (permL perm ws)))
    (hr : Room j X.A) (hk : k ≤ j) (hg : Gl X x) (hkw : VKw X c W kws tka fr) (hl : ∀ ρ rs ρ', fr ρ = some (.ok rs, ρ') → rs.length = ks.length)
    (hall : (backToKw pos (keywordEach kws X.env)).all (·.1.isSome) = true := by rfl) (hks : (backToKw pos (keywordEach kws X.env)).filterMap (·.1) = ks := by rfl) (hdb : (x == ("__debug__" : Str)) = false := by decide)
    (hpl : ((backTo pos (starEach [] X.env)).any (·.1) || (backToKw pos (keywordEach kws X.env)).any (·.1.isNone)) = false := by rfl) :
    VE X c W (.Call (.Name x p) [] kws pos) (tCallPX ks.length perm (spV c n rf (fnN n m rf g)) W tka) (xCall rf (fnN n m rf g) (permR perm fr)) :=
  ⟨pe_k0X ks perm h cl tk hr hk hg hkw.pe hall hks hdb hpl, Vt.callKwX hl hkw.vt⟩
/-! the value of an exception that a slot holds -/
def xXval (L : List Str) (i : Nat) : M R := fun ρ => match ρ[i]? with
  | some (some (.own (.exc cls val))) => if cls ∈ L then some (.ok (.dat val), ρ) else none
  | _ => none
theorem VE.xval {L : List Str} {i : Nat} {e : Expr} {pos : Pos} (k : Fit X c) (he : PE X e (tVar i)) (hL : ∀ cls ∈ L, ∀ C, X.mg cls = some (.ref C) → ∃ fI, ErrC X.K C fI) (hb : attributeBase e "value" X.env (eval e X.env) = eval e X.env := by rfl) :
    VE X c W (.Attribute e "value" pos) (tXk X.K "value" (tVar i)) (xXval L i) := by
  refine ⟨pe_xk he hb, ?_⟩
  intro σ H S ρ res ρ' Q p e G
  unfold xXval at e
  split at e
  · rename_i cls val e1
    split at e
    · rename_i hc
      cases e
      obtain ⟨a, e2, ⟨C, d, v, m1, m2, m3, r⟩, _⟩ := p.liv i _ _ e1 rfl
      obtain ⟨fI, T⟩ := hL cls hc C (by rw [k.mg]; exact m1)
      exact ⟨.ref a, e2, a, C, d, _, v, rfl, m2, T.x, T.noV, m3, rfl, G v H S p .refl r⟩
    · cases e
  · cases e
/-! try -/
abbrev Cls := Str × Option Nat × XS
def noEx : Fl × Env → Option (Fl × Env)
  | (.ex _, _) => none
  | q => some q
def sPick (tbl : Str → Str → Option Bool) (x : Ex) : List Cls → XS
  | [] => fun ρ => some (.ex x, ρ)
  | (h, o, g) :: r => fun ρ => match tbl x.cls h with
    | none => none
    | some false => sPick tbl x r ρ
    | some true => match o with
      | none => (g ρ).bind noEx
      | some i => ((g (ρ.set i (some (.own (.exc x.cls x.val))))).bind noEx).map fun q => (q.1, q.2.set i none)
def sTry (tbl : Str → Str → Option Bool) (g : XS) (cl : List Cls) : XS := fun ρ => match g ρ with
  | some (.ex x, ρ1) => sPick tbl x cl ρ1
  | o => o
/-- what a function asks of a statement -/
def tOf (c : Cn) (W : WX) (fx : List Nat) (g : XS) : TS := fun D σ H => ∃ S ρ fl ρ', Rep c σ H S ρ ∧ g ρ = some (fl, ρ') ∧ GoodS c W fx σ H S ρ fl ρ' D
theorem VSt.of : ∀ {g : XS}, VSt c W fx (tOf c W fx g) g := fun σ H S ρ fl ρ' D p e G => ⟨S, ρ, fl, ρ', p, e, G⟩
theorem VSs.of {st : List Stmt} {t : TS} {g : XS} (h : VSs X c W fx st t g) : PSs X st (tOf c W fx g) := ⟨fun pins s σ H D I ⟨S, ρ, fl, ρ', p, e, G⟩ => h.pe.run pins s σ H D I (h.vt σ H S ρ fl ρ' D p e G)⟩
inductive VHd (X : Cx) (c : Cn) (fx : List Nat) (tbl : Str → Str → Option Bool) : List ExceptHandler → List Clause → List Cls → Prop
  | nil : VHd X c fx tbl [] [] []
  | as {x n : Str} {cv : Value} {i : Nat} {b₀ : Stmt} {suite : List Stmt} {np pos' : Pos} {hds : List ExceptHandler} {l : List Clause} {g : XS} {cl : List Cls} (hi : X.N[i]? = some n) (hln : X.env.kindOf n = some .local) (hc : Names X x cv) (hfx : i ∉ fx)
      (hd : ∀ cls C b, tbl cls x = some b → c.mg cls = some (.ref C) → PySem.W.exmOne X.K (.ref C) cv = some b) (hsu : ∀ (a : Addr) (pn : List (Addr × Obj)), ∃ t, VSs (X.suite a pn) c W0 fx (b₀ :: suite) t g) (r : VHd X c fx tbl hds l cl) :
      VHd X c fx tbl (.ExceptHandler (some (.Name x np)) (some n) (b₀ :: suite) pos' :: hds) ((cv, some i, fun _ => tOf c W0 fx g) :: l) ((x, some i, g) :: cl)
  | un {x : Str} {cv : Value} {b₀ : Stmt} {suite : List Stmt} {np pos' : Pos} {hds : List ExceptHandler} {l : List Clause} {g : XS} {cl : List Cls} (hc : Names X x cv)
      (hd : ∀ cls C b, tbl cls x = some b → c.mg cls = some (.ref C) → PySem.W.exmOne X.K (.ref C) cv = some b) (hsu : ∀ (a : Addr) (pn : List (Addr × Obj)), ∃ t, VSs (X.suite a pn) c W0 fx (b₀ :: suite) t g) (r : VHd X c fx tbl hds l cl) :
      VHd X c fx tbl (.ExceptHandler (some (.Name x np)) none (b₀ :: suite) pos' :: hds) ((cv, none, fun _ => tOf c W0 fx g) :: l) ((x, none, g) :: cl)
theorem VHd.hdM {tbl : Str → Str → Option Bool} {hds : List ExceptHandler} {l : List Clause} {cl : List Cls} (h : VHd X c fx tbl hds l cl) : HdM X hds l := by
  induction h with
  | nil => exact .nil
  | as hi hln hc hfx hd hsu r ih => exact .as hi hln hc (fun a pn => let ⟨_, z⟩ := hsu a pn; z.of) ih
  | un hc hd hsu r ih => exact .un hc (fun a pn => let ⟨_, z⟩ := hsu a pn; z.of) ih
theorem Stq.drop {σ σ1 : Sl} {H H1 : Hp} {S S1 : Addr → Prop} {ρ ρ1 : Env} {i : Nat} (q : Stq fx σ ρ S H σ1 ρ1 S1 H1) (hi : i ∉ fx) : Stq fx σ ρ S H (σ1.set i none) (ρ1.set i none) S1 H1 where
  st := q.st
  s1 := q.s1
  s2 := q.s2
  ow := fun a ⟨j, o, e1, e2⟩ => by
    rcases set_get e1 with ⟨_, z, _⟩ | ⟨hn, e1⟩
    · cases z
    · rw [List.getElem?_set_ne hn] at e2
      exact q.ow a ⟨j, o, e1, e2⟩
  lv := fun a ⟨j, x, o, e1, e2, e3⟩ => by
    rcases set_get e1 with ⟨_, z, _⟩ | ⟨hn, e1⟩
    · cases z
    · rw [List.getElem?_set_ne hn] at e3
      exact q.lv a ⟨j, x, o, e1, e2, e3⟩
  pf := fun j o e => by
    rcases set_get e with ⟨_, z, _⟩ | ⟨hn, e⟩
    · cases z
    · rw [List.getElem?_set_ne hn]
      exact q.pf j o e
  fx := fun j hj => by
    rw [List.getElem?_set_ne (fun z => hi (by rw [z]; exact hj))]
    exact q.fx j hj
theorem pick_ok {tbl : Str → Str → Option Bool} {hds : List ExceptHandler} {l : List Clause} {cl : List Cls} (hh : VHd X c fx tbl hds l cl) {σ σ1 : Sl} {H H1 : Hp} {S S1 : Addr → Prop} {ρ ρ1 ρ' : Env} {fl : Fl} {D : Ends} {x : Ex} {C d : Addr} {v : V}
    (e : sPick tbl x cl ρ1 = some (fl, ρ')) (G : GoodS c Wout fx σ H S ρ fl ρ' D) (m1 : c.mg x.cls = some (.ref C)) (m2 : H1 d = some (.xd [((("value" : Str)), v)])) (m3 : Rp c.K H1 S1 v x.val) (p1 : Rep c σ1 H1 S1 ρ1) (q1 : Stq fx σ ρ S H σ1 ρ1 S1 H1) :
    wMk X.K Wout D l (.ref C) (some d) σ1 H1 := by
  induction hh with
  | nil => cases e; exact G C d σ1 H1 S1 v m1 m2 m3 p1 q1
  | @as xn n cv i b₀ suite np pos' hds l g cl hi hln hc hfx hd hsu r ih =>
    unfold sPick at e
    split at e
    · cases e
    · rename_i eb
      exact ⟨false, hd _ _ _ eb m1, (by intro z; cases z), fun _ => ih e⟩
    · rename_i eb
      refine ⟨true, hd _ _ _ eb m1, fun _ a na => ?_, (by intro z; cases z)⟩
      obtain ⟨⟨fl2, ρ2⟩, e2, e3⟩ := Option.map_eq_some_iff.mp e
      obtain ⟨⟨fl3, ρ3⟩, e4, e5⟩ := Option.bind_eq_some_iff.mp e2
      cases e3
      have g1 : Gro H1 (upd H1 a (KeptE (.ref C) (some d) a)) := gro_new na
      have nd : d ≠ a := fun z => by rw [z, na] at m2; cases m2
      have r1 : ObRp c (upd H1 a (KeptE (.ref C) (some d) a)) S1 a (.exc x.cls x.val) := ⟨C, d, v, m1, upd_same, by rw [upd_ne nd]; exact m2, m3.keep (Gro.kp g1) fun _ z => z⟩
      have nS : ¬ S1 a := fun z => by obtain ⟨u, eu, _⟩ := p1.live a z; rw [na] at eu; cases eu
      have nL : ¬ LivA σ1 ρ1 a := fun z => by obtain ⟨u, eu, _⟩ := p1.livAt z; rw [na] at eu; cases eu
      have p2 := (p1.gro g1).putO (i := i) r1 nS nL
      have q2 := Stq.putO (i := i) (o := .exc x.cls x.val) hfx (q1.trans (stq_gro g1)) (q1.gone na)
      refine VSt.of _ _ _ _ fl3 ρ3 _ p2 e4 ?_
      cases fl3 with
      | ex y => cases e5
      | nx =>
        cases e5
        intro σ' H' S' p3 q3
        exact G _ _ _ (p3.wipe [i]) ((q2.trans q3).drop hfx)
      | bk =>
        cases e5
        intro σ' H' S' p3 q3
        exact G _ _ _ (p3.wipe [i]) ((q2.trans q3).drop hfx)
      | ct =>
        cases e5
        intro σ' H' S' p3 q3
        exact G _ _ _ (p3.wipe [i]) ((q2.trans q3).drop hfx)
      | rt r0 =>
        cases e5
        intro w σ' H' S' p3 q3 r3
        refine G w σ' H' S' (p3.kill_ [i]) ((q2.trans q3).kill_ [i]) ?_
        have r3 := RR.back r3 (H0 := H) fun a' z => q2.gone z
        cases r0 with
        | dat _ => exact r3
        | slot _ => exact r3
        | own o =>
          obtain ⟨b, f1, f2, f3, f4, f5⟩ := r3
          exact ⟨b, f1, f2, f3, fun ⟨j, y, o', z1, z2, z3⟩ => f4 ⟨j, y, o', by
            rcases set_get z1 with ⟨_, z, _⟩ | ⟨_, z1⟩
            · cases z
            · exact z1, z2, z3⟩, f5⟩
  | @un xn cv b₀ suite np pos' hds l g cl hc hd hsu r ih =>
    unfold sPick at e
    split at e
    · cases e
    · rename_i eb
      exact ⟨false, hd _ _ _ eb m1, (by intro z; cases z), fun _ => ih e⟩
    · rename_i eb
      refine ⟨true, hd _ _ _ eb m1, fun _ a na => ?_, (by intro z; cases z)⟩
      obtain ⟨⟨fl3, ρ3⟩, e4, e5⟩ := Option.bind_eq_some_iff.mp e
      have g1 : Gro H1 (upd H1 a (KeptE (.ref C) (some d) a)) := gro_new na
      have q2 := q1.trans (stq_gro (fx := fx) g1)
      refine VSt.of _ _ _ _ fl3 ρ3 _ (p1.gro g1) e4 ?_
      cases fl3 with
      | ex y => cases e5
      | nx => cases e5; exact G.later q2
      | bk => cases e5; exact G.later q2
      | ct => cases e5; exact G.later q2
      | rt r0 => cases e5; exact G.later q2
theorem VS.tryM {body : List Stmt} {h₀ : ExceptHandler} {hds : List ExceptHandler} {l : List Clause} {cl : List Cls} {tbl : Str → Str → Option Bool} {pos : Pos} {g : XS} (hs : X.stack = X.env :: X.outer) (hf : X.env.frame = some X.env.locals) (hex : X.ex = []) (hN : X.N.Nodup) (tk : Takes X Wout)
    (hb : ∀ (W : WX) (pn : List (Addr × Obj)) (xe : Value → Shared → Prop), Takes (X.tr pn xe) W → PassesOwn (model X.prog X.w) X.A X.env xe → ∃ t, VSs (X.tr pn xe) c W fx body t g)
    (hh : VHd X c fx tbl (h₀ :: hds) l cl) : VS X c Wout fx (.Try body (h₀ :: hds) [] [] pos) (fun D σ H => tOf c (wMk X.K Wout D l) fx g D σ H) (sTry tbl g cl) := by
  refine ⟨ps_tryM (tb := fun W => tOf c W fx g) hs hf hex hN tk (fun W pn xe t1 t2 => let ⟨_, z⟩ := hb W pn xe t1 t2; z.of) hh.hdM, ?_⟩
  intro σ H S ρ fl ρ' D p e G
  unfold sTry at e
  split at e
  · rename_i x ρ1 e1
    refine VSt.of σ H S ρ (.ex x) ρ1 D p e1 fun C d σ1 H1 S1 v m1 m2 m3 p1 q1 => ?_
    exact pick_ok hh e G m1 m2 m3 p1 q1
  · rename_i o hn
    refine VSt.of σ H S ρ fl ρ' D p e ?_
    cases fl with
    | nx => exact G
    | bk => exact G
    | ct => exact G
    | rt r => exact G
    | ex x => exact absurd e (hn x ρ')
end
/-! a def that may raise, by its body -/
section
variable {P : Program} {w : World} {K : PySem.W.Frag} {mg : Str → Option Value} {base : Heap} {k : Nat} {x : Str} {st : Stmt} {ps N : List Str} {c : Cn} {n m : Nat} {rf : Rf} {g : XS}
theorem def_calX (D : Here K mg x st) (F : FnScope N ps (defScope st))
    (hb : ∀ (kV doc pm : Value) (an : Option Addr) (cdv ct : Value) (us : List Value), us.length = ps.length → bindArgs (PySem.W.fnOf x x (defArgs st) (defBody st) (defScope st) .none kV doc pm an cdv ct) ⟨us, []⟩ = pure (ps.zip us))
    (hm : N.length = m) (hn : ps.length = n)
    (body : ∀ (f : Addr) (cdv : Value) (A : Around) (outer : List PySem.Env) (s : Shared) (H : Hp) (E : XK), Room k (A.deeper (envOfC x (defScope st) s.heap.objs.size f cdv)) →
      ∃ t, VSs (cxOf (L2.CX P w) P w K mg base N x (defScope st) f cdv A outer s H E) c (fun cls d _ H => E cls d H) (fxOf rf) (defBody st) t g) : CalX P w K mg base (k + 1) x st ps (spV c n rf (fnN n m rf g)) :=
  cal_mkX D F hb (fun vs H Q E h => by rw [hn]; exact spV_len h) fun f cdv A outer s H vs Q E hr h =>
    let ⟨t, b⟩ := body f cdv A outer s H E hr
    ⟨t, b.pe, by
      obtain ⟨S, cs, res, ob, hn', md, p, e, G⟩ := h
      exact body_ok hm b.vt (fun _ _ _ _ z => z) ⟨S, cs, res, ob, hn', md, p, (fnN_len e).2, G⟩⟩
end
end Vm
namespace Vm
open PySem PySem.Spec PyProof.Rows L2 Ky
/-- t * n, n at most 0 -/
theorem tuple_mul0 (l : Addr) (items : Array Value) (n : Nat) (dd : Option Addr) (sl : Array (Option Value)) (x : Int) (u : Tok) (c0 : (decide (x < -(2 ^ 63)) || decide (x ≥ 2 ^ 63)) = false) (c1 : (items.isEmpty || x == 1) = false) (c2 : (decide (x ≤ 0) || items.isEmpty) = true) :
    Meets (Builtin.«tuple.__mul__» ⟨[.ref l, .int x u], []⟩) (fun _ R s => s.heap.get? l = some { cls := .type "tuple", dict := dd, data := .seq items n, slots := sl } ∧
      R (.ok (.ret (Value.ref s.heap.objs.size))) { s with heap := s.heap.push { cls := Value.type "tuple", data := Data.seq #[] }, toks := s.toks }) :=
  .of_wp fun prog w A R s h => by
    obtain ⟨hp, g, d, tk, os⟩ := s
    obtain ⟨hl, h⟩ := h
    have f1 := AutoSeq1.idx_int
    wp_walk using wpAny_loadPart' hl
    repeat (first
      | (refine wpAny_ite_false (decide_eq_false (by rw [c0]; exact Bool.false_ne_true)) ?_; wp_walk using wpAny_loadPart' hl)
      | (refine wpAny_ite_false (decide_eq_false (by rw [c1]; exact Bool.false_ne_true)) ?_; wp_walk using wpAny_loadPart' hl)
      | (refine wpAny_ite_true (decide_eq_true c2) ?_; wp_walk using wpAny_loadPart' hl))
    exact ⟨_, rfl, h⟩
/-- t * 1 -/
theorem tuple_mul1 (l : Addr) (items : Array Value) (n : Nat) (dd : Option Addr) (sl : Array (Option Value)) (u : Tok) :
    Meets (Builtin.«tuple.__mul__» ⟨[.ref l, .int 1 u], []⟩) (fun _ R s => s.heap.get? l = some { cls := .type "tuple", dict := dd, data := .seq items n, slots := sl } ∧
      R (.ok (.ret (Value.ref l))) s) :=
  .of_wp fun prog w A R s h => by
    obtain ⟨hp, g, d, tk, os⟩ := s
    obtain ⟨hl, h⟩ := h
    have f1 := AutoSeq1.idx_int
    have c1 : (items.isEmpty || (1 : Int) == 1) = true := by rw [show ((1 : Int) == 1) = true from rfl, Bool.or_true]
    wp_walk using wpAny_loadPart' hl
    repeat (first
      | (refine wpAny_ite_true (decide_eq_true c1) ?_; wp_walk using wpAny_loadPart' hl))
    exact ⟨_, rfl, h⟩
def rRepA (K : PySem.W.Frag) : R2 := fun x y H Q => ∃ l k xs, x = .ref l ∧ y = .int k ∧ SqT K H l xs ∧ xs ≠ [] ∧ -(2 ^ 63) ≤ k ∧ k ≤ 1000 ∧ xs.length ≤ 1000 ∧ (k = 1 → Q (.ref l) H) ∧ (k ≠ 1 → ∀ p, H p = none → Q (.ref p) (upd H p (.tup (List.replicate k.toNat xs).flatten)))
section
variable {X : Cx} {c : Cn} {W : WX}
theorem op_repA : OpR X (binaryOp .Mult) (rRepA X.K) := by
  intro pins s σ H x y v u Q I rx ry h
  obtain ⟨l, k, xs, rfl, rfl, hT, hne, h1, h2, hz, q1, q2⟩ := h
  by_cases k2 : 2 ≤ k
  · exact op_repT pins s σ H _ _ v u Q I rx ry ⟨l, k, xs, rfl, rfl, hT, hne, k2, h2, hz, q2 (by omega)⟩
  cases rx
  obtain ⟨t, rfl⟩ := ry
  have hT0 := hT
  obtain ⟨its, r, ⟨⟨cls, dd, data, sl⟩, ho, hc, n, hd⟩, hs⟩ := I.tuple hT
  simp only at hc hd
  subst hc hd
  by_cases k1 : k = 1
  · subst k1
    refine wpAny_binaryOp_repeat_ref (T := "tuple") (U := "int") (by decide) ⟨_, ho, rfl⟩ (fun s' => typeIs_int s' 1 t) noFill_tuple_mul F.fills_int_mul F.slot_int_rmul repeat_tuple F.slot_int_index.lookup
      (call_meets F.slot_int_rmul (typeIs_int s 1 t) F.entry_int_rmul (F.args_int_rmul_2 _ _) (int_rmul_tuple 1 t l its.toArray n dd sl)
        ⟨ho, rfl, ⟨_, ho, rfl⟩, call_meets F.slot_tuple_mul ⟨_, ho, rfl⟩ F.entry_tuple_mul (F.args_tuple_mul_2 _ _) (tuple_mul1 l its.toArray n dd sl t) ⟨ho, ?_⟩⟩)
    exact ⟨.ref l, H, I, rfl, q1 rfl⟩
  have hle : its.length = xs.length := r.length.symm
  have hn : its ≠ [] := fun e => hne (by
    rw [e] at hle
    exact List.eq_nil_of_length_eq_zero hle.symm)
  have hi : its.toArray.isEmpty = false := by
    cases its with
    | nil => exact absurd rfl hn
    | cons a b => rfl
  have c0 : (decide (k < -(2 ^ 63)) || decide (k ≥ 2 ^ 63)) = false := by
    rw [decide_eq_false (by omega), decide_eq_false (by omega)] <;> rfl
  have c1 : (its.toArray.isEmpty || k == 1) = false := by
    rw [hi, Bool.false_or]
    exact beq_eq_false_iff_ne.mpr k1
  have c2 : (decide (k ≤ 0) || its.toArray.isEmpty) = true := by
    rw [decide_eq_true (by omega), Bool.true_or]
  refine wpAny_binaryOp_repeat_ref (T := "tuple") (U := "int") (by decide) ⟨_, ho, rfl⟩ (fun s' => typeIs_int s' k t) noFill_tuple_mul F.fills_int_mul F.slot_int_rmul repeat_tuple F.slot_int_index.lookup
    (call_meets F.slot_int_rmul (typeIs_int s k t) F.entry_int_rmul (F.args_int_rmul_2 _ _) (int_rmul_tuple k t l its.toArray n dd sl)
      ⟨ho, rfl, ⟨_, ho, rfl⟩, call_meets F.slot_tuple_mul ⟨_, ho, rfl⟩ F.entry_tuple_mul (F.args_tuple_mul_2 _ _) (tuple_mul0 l its.toArray n dd sl k t c0 c1 c2) ⟨ho, ?_⟩⟩)
  have e0 : (List.replicate k.toNat xs).flatten = [] := by rw [Int.toNat_of_nonpos (by omega)]; rfl
  rw [e0] at q2
  refine ⟨.ref s.heap.objs.size, _, I.laid (t' := s.toks) (o := .tup []) (fun b ob q => Heap.get?_push_of_some _ q) (Nat.le_refl _) ?_, rfl, q2 k1 _ (I.hok.fresh (Nat.le_refl _))⟩
  exact ⟨Nat.zero_le _, [], .nil, IsTup.new _ _⟩
def xRepT (fa fb : M R) : M R := fa.bind fun a => fb.bind fun b => fun ρ => match look ρ a, look ρ b with
  | some (.tuple xs), some (.int k) => if xs ≠ [] ∧ -(2 ^ 63) ≤ k ∧ k ≤ 1000 ∧ xs.length ≤ 1000 then some (.ok (.dat (.tuple (if k = 1 then xs else (List.replicate k.toNat xs).flatten))), ρ) else none
  | _, _ => none
theorem VE.repT {e1 e2 : Expr} {ta tb : TE} {fa fb : M R} {pos : Pos} (kf : Fit X c) (ha : VE X c W e1 ta fa) (hb : VE X c W e2 tb fb) : VE X c W (.BinOp e1 .Mult e2 pos) (tOp (rRepA c.K) ta tb) (xRepT fa fb) := by
  refine ⟨by rw [← kf.K]; exact pe_op op_repA ha.pe hb.pe, Vt.bind2 (rel1 := RR c) (rel2 := RR c) (rel3 := RR c) (k := fun x y _ H Q => rRepA c.K x y H Q) (fun h k => backRR h k) (fun p q h => RR.step p q h) ha.vt hb.vt ?_⟩
  intro σ Hs Ss ρs H S ρ a x b y res ρ' Q q p ra rb e G
  split at e
  · rename_i xs k e1 e2
    split at e
    · rename_i hc
      cases e
      obtain rfl := (look_ok p rb e2).int_
      obtain ⟨l, vs, rfl, s1, r1⟩ := (look_ok p ra e1).tup_
      refine ⟨l, k, vs, rfl, rfl, s1, fun z => hc.1 (by have := r1.length; rw [z] at this; exact List.eq_nil_of_length_eq_zero this.symm), hc.2.1, hc.2.2.1, by rw [r1.length]; exact hc.2.2.2, fun k1 => ?_, fun k1 pp n => ?_⟩
      · rw [if_pos k1] at G
        exact RO.good (r := .dat (.tuple xs)) q p G (Gro.refl _) (.tup s1 r1)
      · rw [if_neg k1] at G
        obtain ⟨g, o⟩ := ro_tup (c := c) (S := S) n (r1.rep k.toNat)
        exact RO.good q p G g o
    · cases e
  · cases e
end
end Vm
/-! ### which clause takes what -/
namespace Vm
open PySem PySem.Spec PyProof.Rows L2 Ky
def tblOf (rs hs : List Str) (kin : List (Str × Str)) : Str → Str → Option Bool := fun a h => if a ∈ rs ∧ h ∈ hs then some (decide ((a, h) ∈ kin)) else none
theorem tblOf_ok {K : PySem.W.Frag} {mg : Str → Option Value} {rs hs : List Str} {kin : List (Str × Str)} (glo : ∀ x ∈ rs, mg x = some (.ref (He.ga K x))) (exm : ∀ a ∈ rs, ∀ h ∈ hs, PySem.W.exmOne K (.ref (He.ga K a)) (.ref (He.ga K h)) = some (decide ((a, h) ∈ kin))) {x : Str} :
    ∀ cls C b, tblOf rs hs kin cls x = some b → mg cls = some (.ref C) → PySem.W.exmOne K (.ref C) (.ref (He.ga K x)) = some b := by
  intro cls C b e m
  unfold tblOf at e
  split at e
  · rename_i hc
    cases e
    rw [glo cls hc.1] at m
    cases m
    exact exm cls hc.1 x hc.2
  · cases e
theorem errs_of {K : PySem.W.Frag} {mg : Str → Option Value} {rs : List Str} {fI : Addr} (glo : ∀ x ∈ rs, mg x = some (.ref (He.ga K x))) (err : ∀ x ∈ rs, ErrC K (He.ga K x) fI) : ∀ cls ∈ rs, ∀ C, mg cls = some (.ref C) → ∃ fI, ErrC K C fI := by
  intro cls h C m
  rw [glo cls h] at m
  cases m
  exact ⟨fI, err cls h⟩
def clsBody : Stmt → List Stmt
  | .ClassDef _ _ _ body _ _ _ _ _ _ _ => body
  | _ => []
end Vm
/-! ### an exception handed from one name to another; whether there is one -/
namespace Vm
open PySem PySem.Spec PyProof.Rows L2 Ky
section
variable {X : Cx} {c : Cn} {W : WX} {fx : List Nat}
/-- the name j takes over what i holds: i is not read any more -/
def sMove (j i : Nat) : XS := fun ρ => match ρ[i]? with
  | some (some (.own (.exc cls val))) => some (.nx, (ρ.set i none).set j (some (.own (.exc cls val))))
  | _ => none
theorem VSt.move {i j : Nat} (hj : j ∉ fx) (hij : i ≠ j) : VSt c W fx (tAsg (tVar i) (gName j)) (sMove j i) := by
  intro σ H S ρ fl ρ' D p e G
  unfold sMove at e
  split at e
  · rename_i cls val e1
    cases e
    obtain ⟨a, e2, ho, nS⟩ := p.liv i _ _ e1 rfl
    have gone : ∀ {k : Nat} {x : C}, (ρ.set i none)[k]? = some (some x) → k ≠ i ∧ ρ[k]? = some (some x) := fun {k x} h => by
      rcases set_get h with ⟨_, z, _⟩ | ⟨hn, h⟩
      · cases z
      · exact ⟨fun z => hn z.symm, h⟩
    have nL : ¬ LivA σ (ρ.set i none) a := fun ⟨k, x, o, h1, h2, h3⟩ => by
      obtain ⟨hk, h1⟩ := gone h1
      exact hk (p.dis k i x _ o _ a h1 h2 e1 rfl h3 e2)
    have pk : Rep c σ H S (ρ.set i none) := p.kill_ [i]
    have p2 := pk.putO (i := j) ho nS nL
    refine ⟨.ref a, e2, G (σ.set j (some (.ref a))) H S p2 ⟨fun b o e => ⟨o, e, fun _ => .inl rfl⟩, fun _ z => z, fun _ z => .inl z, fun b ⟨k, o, h1, h2⟩ => ?_, fun b ⟨k, x, o, h1, h2, h3⟩ => ?_, fun k o h1 => ?_, fun k hk => ?_⟩⟩
    · rcases set_get h1 with ⟨rfl, h1, hlt⟩ | ⟨hn, h1⟩
      · have hlt : j < σ.length := by rw [p.len]; simpa using hlt
        rw [List.getElem?_set_self hlt] at h2
        cases h2
        exact .inl ⟨i, _, e1, e2⟩
      · rw [List.getElem?_set_ne hn] at h2
        exact .inl ⟨k, o, (gone h1).2, h2⟩
    · rcases set_get h1 with ⟨rfl, h1, hlt⟩ | ⟨hn, h1⟩
      · have hlt : j < σ.length := by rw [p.len]; simpa using hlt
        rw [List.getElem?_set_self hlt] at h3
        cases h3
        exact .inl ⟨i, _, _, e1, rfl, e2⟩
      · rw [List.getElem?_set_ne hn] at h3
        exact .inl ⟨k, x, o, (gone h1).2, h2, h3⟩
    · rcases set_get h1 with ⟨_, z, _⟩ | ⟨hn, h1⟩
      · cases z
      · exact ⟨o, (gone h1).2, by rw [List.getElem?_set_ne hn]⟩
    · rw [List.getElem?_set_ne (fun z => hj (by rw [z]; exact hk))]
  · cases e
theorem VS.move {i j : Nat} {x : Str} {e : Expr} {pos pos' : Pos} (hfx : j ∉ fx) (hij : i ≠ j) (hN : X.N.Nodup) (hi : X.N[j]? = some x) (hx : Loc X.env.scope x) (he : PE X e (tVar i)) (hs : swapsWith e (some (.Name x pos')) pos.line X.env = pure false := by rfl)
    (hf : X.fn x = true ∨ X.env.scope.names.lookup x = some .local := by first | exact .inl rfl | exact .inr rfl | assumption) : VS X c W fx (.Assign [.Name x pos'] e pos) (tAsg (tVar i) (gName j)) (sMove j i) :=
  ⟨ps_set hN hi hx he hs hf, VSt.move hfx hij⟩
/-- x is None, x is not None, where x may hold an exception -/
def xIsX (neg : Bool) (i : Nat) : M R := fun ρ => match ρ[i]? with
  | some (some (.own (.exc _ _))) => some (.ok (.dat (.bool neg)), ρ)
  | _ => xOp2 (dIs neg) (xVar i) (xC .none) ρ
theorem VE.isX {i : Nat} {e : Expr} {pos : Pos} (ce : Expr) (he : PE X e (tVar i)) (hc : VE X c W ce (tC .non) (xC .none)) (hm : behindInMarks .Is ce = false) : VE X c W (.Compare e [.Is] [ce] pos) (tOp rIsN (tVar i) (tC .non)) (xIsX false i) := by
  have base : VE X c W (.Compare e [.Is] [ce] pos) (tOp rIsN (tVar i) (tC .non)) (xOp2 (dIs false) (xVar i) (xC .none)) := VE.cmp o_is (VE.var he) hc hm
  refine ⟨base.pe, fun σ H S ρ res ρ' Q p e1 G => ?_⟩
  unfold xIsX at e1
  split at e1
  · rename_i cls val e2
    cases e1
    obtain ⟨a, e3, _⟩ := p.liv i _ _ e2 rfl
    exact ⟨.ref a, e3, rfl, G (.bl false) H S p .refl (.bl false)⟩
  · exact base.vt σ H S ρ res ρ' Q p e1 G
theorem VE.isntX {i : Nat} {e : Expr} {pos : Pos} (ce : Expr) (he : PE X e (tVar i)) (hc : VE X c W ce (tC .non) (xC .none)) (hm : behindInMarks .IsNot ce = false) : VE X c W (.Compare e [.IsNot] [ce] pos) (tOp rNotN (tVar i) (tC .non)) (xIsX true i) := by
  have base : VE X c W (.Compare e [.IsNot] [ce] pos) (tOp rNotN (tVar i) (tC .non)) (xOp2 (dIs true) (xVar i) (xC .none)) := VE.cmp o_isnot (VE.var he) hc hm
  refine ⟨base.pe, fun σ H S ρ res ρ' Q p e1 G => ?_⟩
  unfold xIsX at e1
  split at e1
  · rename_i cls val e2
    cases e1
    obtain ⟨a, e3, _⟩ := p.liv i _ _ e2 rfl
    exact ⟨.ref a, e3, rfl, G (.bl true) H S p .refl (.bl true)⟩
  · exact base.vt σ H S ρ res ρ' Q p e1 G
end
end Vm
namespace Vm
open PySem PySem.Spec PyProof.Rows L2 Ky
/-! a def that may raise and shows displays -/
section
variable {P : Program} {w : World} {K : PySem.W.Frag} {mg : Str → Option Value} {base : Heap} {k : Nat} {x : Str} {st : Stmt} {ps N : List Str} {sp : Sp} {cA : Addr}
theorem calXT_mk (D : HereT K mg x st cA) (S : FnScope N ps (defScope st))
    (hb : ∀ (kV doc pm : Value) (an : Option Addr) (cdv ct : Value) (us : List Value), us.length = ps.length → bindArgs (PySem.W.fnOf x x (defArgs st) (defBody st) (defScope st) .none kV doc pm an cdv ct) ⟨us, []⟩ = pure (ps.zip us))
    (len : ∀ vs H Q E, sp vs H Q E → vs.length = ps.length)
    (hbody : ∀ (f : Addr) (cdv : Value) (A : Around) (outer : List PySem.Env) (s : Shared) (H : Hp) (vs : List V) (Q : VK) (E : XK), cdv = .ref cA → Room k (A.deeper (envOfC x (defScope st) s.heap.objs.size f cdv)) → sp vs H Q E →
      ∃ t, PSs (cxOf (L2.CX P w) P w K mg base N x (defScope st) f cdv A outer s H E) (defBody st) t ∧ t { nx := fun _ H' => Q .non H', rt := Q } (L2.start N vs) H) : CalX P w K mg base (k + 1) x st ps sp := by
  obtain ⟨f, fd, F, g, hc⟩ := D.ex
  have hbs := F.bindsN hb
  have F2 := F
  obtain ⟨_, _, _, _, _, _, _, cdv, _, _, rfl, look, code, _, _⟩ := F2.ex
  exact ⟨f, _, fn_of look code S len fun A outer s H vs Q E hr h => hbody f cdv A outer s H vs Q E hc hr h, F, g, hbs⟩
variable {c : Cn} {n m : Nat} {rf : Rf} {g : XS}
theorem def_calXT (D : HereT K mg x st cA) (F : FnScope N ps (defScope st))
    (hb : ∀ (kV doc pm : Value) (an : Option Addr) (cdv ct : Value) (us : List Value), us.length = ps.length → bindArgs (PySem.W.fnOf x x (defArgs st) (defBody st) (defScope st) .none kV doc pm an cdv ct) ⟨us, []⟩ = pure (ps.zip us))
    (hm : N.length = m) (hn : ps.length = n)
    (body : ∀ (f : Addr) (cdv : Value) (A : Around) (outer : List PySem.Env) (s : Shared) (H : Hp) (E : XK), cdv = .ref cA → Room k (A.deeper (envOfC x (defScope st) s.heap.objs.size f cdv)) →
      ∃ t, VSs (cxOf (L2.CX P w) P w K mg base N x (defScope st) f cdv A outer s H E) c (fun cls d _ H => E cls d H) (fxOf rf) (defBody st) t g) : CalX P w K mg base (k + 1) x st ps (spV c n rf (fnN n m rf g)) :=
  calXT_mk D F hb (fun vs H Q E h => by rw [hn]; exact spV_len h) fun f cdv A outer s H vs Q E hcd hr h =>
    let ⟨t, b⟩ := body f cdv A outer s H E hcd hr
    ⟨t, b.pe, by
      obtain ⟨S, cs, res, ob, hn', md, p, e, G⟩ := h
      exact body_ok hm b.vt (fun _ _ _ _ z => z) ⟨S, cs, res, ob, hn', md, p, (fnN_len e).2, G⟩⟩
end
end Vm
/-! ### all(e for x in xs), any(..): the element of any kind, by the frame of its own -/
namespace Gy
open PySem PySem.Spec PyProof.Rows L2 Ky Gx
open PySem PySem.Spec PyProof.Rows L2
section
variable {Z : Cx} {pins : List (Addr × Obj)} {fp : List Addr} {tn : Nat → Heap → Prop} {σ : L2.St} {n : Nat} {b : Nat → Bool} {Nx : Nat → Hp → Prop} {Pv : Nat → Hp → Prop}
/-- an item is handed out: the i-th, b i; what follows if it is gone on -/
def Yg (Z : Cx) (pins : List (Addr × Obj)) (fp : List Addr) (tn : Nat → Heap → Prop) (σ : L2.St) (n : Nat) (b : Nat → Bool) (Nx : Nat → Hp → Prop) : Protocol := fun m _ v s kap =>
  ∃ i H, m + 1 + i = n ∧ v = .bool (b i) ∧ At Z pins fp tn σ (i + 1) H s ∧ Nx i H ∧ ((Nx i H → ∀ s', s'.heap = s.heap → s'.os = s.os → AllBare s'.gens → b i = false → kap (.send .none) s'))
/-- the end: none is left -/
def Rg (Z : Cx) (pins : List (Addr × Obj)) (fp : List Addr) (tn : Nat → Heap → Prop) (σ : L2.St) (n : Nat) (Pv : Nat → Hp → Prop) : GenEnd := fun m _ r s =>
  ((r = .ok (.ret .none) ∨ r = .ok .next) ∧ (∃ H, Inv Z pins σ H s ∧ Pv n H)) ∨ ∃ e, r = .error e ∧ False
theorem gy_loop {B : Around} {elt tg iter : Expr} {scope : Scope} {pos : Pos} {it : Addr} {J : It} {g : TG} {te : TE} {vs : List Nat}
    (hA : B.over (.compLoop (genE elt tg iter scope pos) 0 (.ref it) .none Z.env) [] = Z.A) (hx : Z.ex = fp) (hpn : Z.pn = []) (hxe : Z.xe = fun _ _ => False) (hc : Z.calm = true) (hco : Z.env.scope.isCoroutine = false) (hpf : ∀ p ∈ pins, p.1 ∉ fp)
    (T : Turn Z.prog Z.w Z.K tg J fp it tn) (pg : PG Z tg g) (pe : PE Z elt te)
    (turn : ∀ i H, i < n → Pv i H → J.go i H ∧ ∀ x H', J.yld i H x H' → g x σ H' fun σ2 H2 => wipe σ2 vs = σ ∧ te σ2 H2 fun y H3 => y = .bl (b i) ∧ Nx i H3)
    (goon : ∀ i H, Nx i H → b i = false → Pv (i + 1) H) (done : ∀ H, Pv n H → J.stop n H) :
    ∀ (k i : Nat) (s₀ s : Shared) (H : Hp), n - i = k → i ≤ n → Pv i H → At Z pins fp tn σ i H s →
      Seg (model Z.prog Z.w) B (Rg Z pins fp tn σ n Pv) (Yg Z pins fp tn σ n b Nx) k s₀ (.compLoop (genE elt tg iter scope pos) 0 (.ref it) .none Z.env)
        ((model Z.prog Z.w).den (.compLoop (genE elt tg iter scope pos) 0 (.ref it) .none Z.env)) [] s := by
  have stat : ∀ {σ' : L2.St} {H' : Hp} {s' : Shared} {ps : List (Addr × Obj)}, (∀ p ∈ ps, p.1 ∉ fp) → Inv Z ps σ' H' s' → (∀ b ∈ fp, H' b = none) → ∀ b ∈ fp, FpOk Z ps H' b := fun {σ' H' s' ps} hp I' hn b hb => by
    have hb2 : b ∈ Z.ex := by rw [hx]; exact hb
    refine ⟨hn b hb, (I'.ok.exf b hb2).1, I'.ok.exfs b hb2, .inl hb2, fun x c e => (I'.ok.exf b hb2).2 x c e, fun p hq z => ?_⟩
    rw [hpn, List.nil_append] at hq
    exact hp p hq (by rw [z]; exact hb)
  intro k
  induction k with
  | zero =>
    intro i s₀ s H hk hi hP hI
    have hin : i = n := by omega
    subst hin
    show Seg _ B _ _ _ s₀ _ ((compTurn (genE elt tg iter scope pos) 0 (.ref it) .none Z.env).onRaise (leaving Z.env)) [] s
    rw [compTurn_gen, Sem.onRaise_eq_wrap]
    refine seg_bind_wrap (wpAny_standAt ?_)
    have td := T.done Z rfl rfl rfl hc i pins s σ H (fun _ _ => False) hI.inv (stat hpf hI.inv hI.fp) hI.tn (done H hP)
    rw [← hA] at td
    refine seg_bind_wrap (thnF td fun r s1 ⟨hr, I1⟩ => ?_)
    subst hr
    exact seg_end (.ok .next) (.inl ⟨.inr rfl, H, I1, hP⟩)
  | succ k ih =>
    intro i s₀ s H hk hi hP hI
    have hlt : i < n := by omega
    obtain ⟨go, step⟩ := turn i H hlt hP
    show Seg _ B _ _ _ s₀ _ ((compTurn (genE elt tg iter scope pos) 0 (.ref it) .none Z.env).onRaise (leaving Z.env)) [] s
    rw [compTurn_gen, Sem.onRaise_eq_wrap]
    refine seg_bind_wrap (wpAny_standAt ?_)
    have ti := T.item Z rfl rfl rfl hc i pins s σ H (fun _ _ => False) hI.inv (stat hpf hI.inv hI.fp) hI.tn go
    rw [← hA] at ti
    refine seg_bind_wrap (thnF ti fun r s1 ⟨u, hr, h1⟩ => ?_)
    subst hr
    refine seg_bind_wrap (thnF h1 fun _ s2 ⟨x, H2, I2, r2, y2, st2, n2⟩ => ?_)
    have I2' := I2.pinned (stat hpf I2 n2) (T.obj _ _ st2)
    have h3 := pg.run _ s2 _ H2 x u _ I2' r2 (step x H2 y2)
    rw [← hA, hxe] at h3
    refine seg_bind_wrap (thnF h3 fun _ s3 ⟨σ3, H3, I3, hw3, q3⟩ => ?_)
    simp only [List.forIn_nil]
    refine seg_bind_wrap (wpAny_pure ?_)
    simp only [if_true]
    have hy : ∀ v, yieldOut Z.env v = yieldValue v := fun v => by simp only [yieldOut, hco, Bool.false_eq_true, if_false]
    simp only [hy]
    rw [Sem.bind_eq_wrap', Sem.bind_eq_wrap', Sem.wrap_wrap, Sem.wrap_wrap]
    have h4 := pe.run _ s3 σ3 H3 _ I3 q3
    rw [← hA, hxe] at h4
    refine seg_wrap (thnF h4 fun v s4 ⟨yv, H4, I4, r4, e4, nx⟩ => ?_)
    subst e4
    cases r4
    have pin' : ∀ c ∈ fp, ∀ o, s2.heap.get? c = some o → s4.heap.get? c = some o ∧ H4 c = none := fun c hc o e =>
      let z := I4.pin (c, o) (List.mem_append_right _ (List.mem_append_right _ (mem_pinsAt hc e)))
      ⟨z.1, z.2.1⟩
    have hl : σ.length = σ3.length := by rw [← hw3, wipe_length]
    have at4 : At Z pins fp tn σ (i + 1) H4 s4 := ⟨(I4.unpinned (pins := pins)).weak hl (fun j v e => by
        rw [← hw3] at e
        exact (wipe_some e).1), T.keep _ _ _ st2 fun c hc o e => (pin' c hc o e).1, fun c hc => by
        obtain ⟨o, e, _⟩ := T.obj _ _ st2 c hc
        exact (pin' c hc o e).2⟩
    refine seg_at (seg_yield rfl rfl rfl ⟨i, H4, by omega, rfl, at4, nx, fun nx' s'' e1 e2 e3 hb => ?_⟩)
    refine seg_again rfl (ih (i + 1) s'' s'' H4 (by omega) hlt (goon i H4 nx' hb) ⟨inv_swap at4.inv e1 e2 e3, ?_, at4.fp⟩)
    rw [e1]
    exact at4.tn
/-- the loop of all: each item asked, until one is false -/
theorem any_loop {A : Around} {ga : Addr} {gn : Nat} {gobj : Obj} {Rr : Result → Shared → Prop} (hh : A.handled = none) (hd : A.depth < recursionLimit) (hgo : ∀ h : Heap, h.get? ga = some gobj → h.IsGen ga gn) (hpi : (ga, gobj) ∈ pins)
    (goon : ∀ i H, Nx i H → b i = false → Pv (i + 1) H)
    (hend : ∀ s' H', Inv Z pins σ H' s' → Pv n H' → ∀ s'' : Shared, s''.os = s'.os → AllBare s''.gens → (∀ c o, s'.heap.get? c = some o → s''.heap.get? c = some o) → Rr (.ok (.ret (.bool false))) s'')
    (hno : ∀ s' H' i, Inv Z pins σ H' s' → Nx i H' → b i = true → ∀ s'' : Shared, s''.os = s'.os → AllBare s''.gens → s''.heap = s'.heap → Rr (.ok (.ret (.bool true))) s'') :
    ∀ (m : Nat) (s : Shared), s.heap.IsGen ga gn → s.heap.NoLimit →
      (∃ gs, s.gens[gn]? = some gs ∧ gs.Goes (model Z.prog Z.w) A.in1.in1 (Rg Z pins fp tn σ n Pv) (Yg Z pins fp tn σ n b Nx) m (.send .none) (s.setGen gn .running)) →
      codeAny (model Z.prog Z.w) A (.builtin "any.loop" ⟨[.ref ga], []⟩) Rr s := by
  intro m
  induction m with
  | zero =>
    intro s hg hl ⟨gs, hgs, hgo2⟩
    have hgl : gn < s.gens.size := (Array.getElem?_eq_some_iff.mp hgs).1
    refine codeAny_builtin F.entry_any_loop ?_
    rw [Around.under_plainId F.plain_any_loop _]
    show wpAny _ A.in1 (pyNext (.ref ga) >>= _) _ _ s
    refine wpAny_bind (next_genG (A := A.in1) (F := fun _ _ s₁ => ∃ H, Inv Z pins σ H s₁ ∧ Pv n H) (Er := fun _ _ => False) hh hl hd hg hgs hgo2 (fun v s₁ gs' hbare hv => ?_) (fun s₁ hp h' hk => ?_) fun e s₁ he => he.elim)
    · obtain ⟨i, H, hi, rfl, hat, hnx, hk⟩ := hv
      cases hb : b i with
      | false => exact (hk hnx s₁ rfl rfl hat.inv.bare hb).elim
      | true =>
        refine wpAny_bind (wpAny_holding (wpAny_truthy_bool ?_))
        refine wpAny_bind (wpAny_letGo ?_)
        simp only [if_true]
        refine wpAny_bind (wpAny_rule (wpAny_pure ?_))
        exact hno s₁ H i hat.inv hnx hb _ rfl (allBare_setGen hat.inv.bare hbare) rfl
    · obtain ⟨H, I1, hP⟩ := hp
      refine wpAny_bind (wpAny_rule (wpAny_pure ?_))
      exact hend s₁ H I1 hP _ rfl (allBare_setGen I1.bare rfl) hk
  | succ m ih =>
    intro s hg hl ⟨gs, hgs, hgo2⟩
    have hgl : gn < s.gens.size := (Array.getElem?_eq_some_iff.mp hgs).1
    refine codeAny_builtin F.entry_any_loop ?_
    rw [Around.under_plainId F.plain_any_loop _]
    show wpAny _ A.in1 (pyNext (.ref ga) >>= _) _ _ s
    refine wpAny_bind (GenW.wpAny_gsz (n := gn + 1) hgl (next_genG (A := A.in1) (F := fun _ _ s₁ => ∃ H, Inv Z pins σ H s₁ ∧ Pv n H) (Er := fun _ _ => False) hh hl hd hg hgs hgo2 (fun v s₁ gs' hbare hv => ?_) (fun s₁ hp h' hk => ?_) fun e s₁ he => he.elim))
    · intro hsz
      obtain ⟨i, H, hi, rfl, hat, hnx, hk⟩ := hv
      cases hb : b i with
      | false =>
        refine wpAny_bind (wpAny_holding (wpAny_truthy_bool ?_))
        refine wpAny_bind (wpAny_letGo ?_)
        simp only [Bool.false_eq_true, if_false]
        have hsz1 : gn < s₁.gens.size := by
          have q : (s₁.setGen gn gs').gens.size = s₁.gens.size := GenW.setGen_size _ _ _
          have hsz' : gn + 1 ≤ (s₁.setGen gn gs').gens.size := hsz
          omega
        have hpin := (hat.inv.pin (ga, gobj) (List.mem_append_right _ hpi)).1
        refine wpAny_pure ⟨plainId_quiet F.plain_any_loop _, ih (s₁.setGen gn gs') (hgo _ hpin) hat.inv.nolimit ⟨gs', setGen_at hsz1, ?_⟩⟩
        exact hk hnx _ rfl rfl (allBare_setGen (allBare_setGen hat.inv.bare hbare) rfl) hb
      | true =>
        refine wpAny_bind (wpAny_holding (wpAny_truthy_bool ?_))
        refine wpAny_bind (wpAny_letGo ?_)
        simp only [if_true]
        refine wpAny_bind (wpAny_rule (wpAny_pure ?_))
        exact hno s₁ H i hat.inv hnx hb _ rfl (allBare_setGen hat.inv.bare hbare) rfl
    · intro hsz
      obtain ⟨H, I1, hP⟩ := hp
      refine wpAny_bind (wpAny_rule (wpAny_pure ?_))
      exact hend s₁ H I1 hP _ rfl (allBare_setGen I1.bare rfl) hk
end
/-- all(e for x in xs): wi what is walked, i the place of x, te the element; behind it the def's table may have grown -/
def tAnyG (P : Addr) (wi : TI) (i : Nat) (te : TE) (vs : List Nat) : TE := fun σ H Q => wi σ H fun J H1 => GxR.TabG H1 P ∧ ∀ H2, GxR.Tabbed P H1 H2 →
  ∃ (n : Nat) (b : Nat → Bool) (Pv Nx : Nat → Hp → Prop), Pv 0 H2 ∧
    (∀ k H, k < n → Pv k H → J.go k H ∧ ∀ x H', J.yld k H x H' → gName i x (wipe σ vs) H' fun σ2 H3 => wipe σ2 vs = wipe σ vs ∧ te σ2 H3 fun y H4 => y = .bl (b k) ∧ Nx k H4) ∧
    (∀ k H, Nx k H → b k = false → Pv (k + 1) H) ∧ (∀ k H, Nx k H → b k = true → Q (.bl true) H) ∧ (∀ H, Pv n H → J.stop n H ∧ Q (.bl false) H)
section
variable {X : Cx}
/-- what the walk over the made generator asks -/
def Asks (σ : L2.St) (Q : VK) (i : Nat) (te : TE) (vs : List Nat) (J : It) (H2 : Hp) : Prop :=
  ∃ (n : Nat) (b : Nat → Bool) (Pv Nx : Nat → Hp → Prop), Pv 0 H2 ∧
    (∀ k H, k < n → Pv k H → J.go k H ∧ ∀ x H', J.yld k H x H' → gName i x (wipe σ vs) H' fun σ2 H3 => wipe σ2 vs = wipe σ vs ∧ te σ2 H3 fun y H4 => y = .bl (b k) ∧ Nx k H4) ∧
    (∀ k H, Nx k H → b k = false → Pv (k + 1) H) ∧ (∀ k H, Nx k H → b k = true → Q (.bl true) H) ∧ (∀ H, Pv n H → J.stop n H ∧ Q (.bl false) H)
theorem gy_go {k i : Nat} {elt iter : Expr} {x : Str} {px gpos : Pos} {scope : Scope} {own : List (Str × Nat)} {te : TE} {pins : List (Addr × Obj)} {σ : L2.St} {Q : VK} {H3 : Hp} {s3 : Shared} {it : Addr} {fp : List Addr} {tn : Nat → Heap → Prop} {J : It} {code : Value} {h' : Heap} {gobj : Obj} {tk : Nat}
    (hr : Room (k + 1) X.A) (S : GxR.GenS X.env scope x) (hN : X.N.Nodup) (ok : BlkOk X.N X.env.scope scope own)
    (hgn : ∀ (A : Around) (s : Shared) (H : Hp) (cl : List (Str × Addr)) (C : Addr) (code : Value) (fp : List Addr), PG (gxC X A s H (genEnv scope cl C code builtinsNs X.env) fp) (.Name x px) (gName i))
    (hel : ∀ (A : Around) (s : Shared) (H : Hp) (cl : List (Str × Addr)) (C : Addr) (code : Value) (fp : List Addr), Room k A → PE (gxC X A s H (genEnv scope cl C code builtinsNs X.env) fp) elt te)
    (I : Inv X pins σ H3 s3) (T : Turn X.prog X.w X.K (.Name x px) J fp it tn) (st : tn 0 s3.heap) (hfp : ∀ b ∈ fp, FpOk X pins H3 b) (q : Asks σ Q i te (own.map (·.2)) J H3)
    (hn : h'.Ns s3.heap.objs.size (fun y => if y = ".0" then some (.ref it) else none)) (hs : Heap.SameBut s3.heap.objs.size (s3.heap.push { cls := .type "frame", data := .dict #[] }) h')
    (hgo : ∀ h : Heap, h.get? h'.objs.size = some gobj → h.IsGen h'.objs.size s3.gens.size) (hgl : gobj.isFreed = false) (hgd : ∀ v, gobj.data ≠ .cell v) (E : Value → Shared → Prop) :
    wpAny (model X.prog X.w) X.A (call (.builtin "any") [.ref h'.objs.size]) (EP X pins σ Q) E
      { s3 with gens := s3.gens.push (.fresh (.compStart (genE elt (.Name x px) iter scope gpos) 0 (.ref it) .none (genEnv scope (cloFrom X.env.cells scope.names []) s3.heap.objs.size code builtinsNs X.env))), toks := tk, heap := h'.push gobj } := by
  generalize hce : genEnv scope (cloFrom X.env.cells scope.names []) s3.heap.objs.size code builtinsNs X.env = cenv
  have hsz : h'.objs.size = s3.heap.objs.size + 1 := by rw [hs.1, Heap.size_push]
  have keep' : ∀ b o, s3.heap.get? b = some o → h'.get? b = some o := fun b o e => hs.extBut b o (Nat.ne_of_lt (Heap.lt_size e)) (Heap.get?_push_of_some _ e)
  have lt3 : ∀ b ∈ fp, b < s3.heap.objs.size := fun b hb => by
    obtain ⟨o, e, _⟩ := T.obj _ _ st b hb
    exact Heap.lt_size e
  have hfr : (X.A.in1.in1.over (.compLoop (genE elt (.Name x px) iter scope gpos) 0 (.ref it) .none cenv) []).frames = some (cenv :: X.stack) := by
    have e := I.ok.frames
    show (X.A.frames).map _ = _
    rw [e] <;> rfl
  have rk : Room k (X.A.in1.in1.over (.compLoop (genE elt (.Name x px) iter scope gpos) 0 (.ref it) .none cenv) []) := by
    refine ⟨hr.hd, ?_, ?_⟩
    · have := hr.dp
      show X.A.depth + 0 + 1 + 3 * k + 5 < _
      omega
    · have := hr.un
      show X.A.units + 1 + 1 + 0 + 3 + 16 * k + 200 < _
      omega
  have I5 := gx_start (own := own) (x := x) (A' := X.A.in1.in1.over (.compLoop (genE elt (.Name x px) iter scope gpos) 0 (.ref it) .none cenv) []) (code := code) (gs := .fresh (.compStart (genE elt (.Name x px) iter scope gpos) 0 (.ref it) .none cenv)) (tk := tk)
    I S ok hN (fun b hb => ⟨hfp b hb, lt3 b hb⟩) (by rw [hce]; exact hfr) hr.hd hn keep' hsz rfl hgl hgd
  rw [hce] at I5
  have pe := hel _ s3 H3 (cloFrom X.env.cells scope.names []) s3.heap.objs.size code fp rk
  have pg := hgn (X.A.in1.in1.over (.compLoop (genE elt (.Name x px) iter scope gpos) 0 (.ref it) .none cenv) []) s3 H3 (cloFrom X.env.cells scope.names []) s3.heap.objs.size code fp
  rw [hce] at pe pg
  have ltp : ∀ c o, s3.heap.get? c = some o → (h'.push gobj).get? c = some o := fun c o e => Heap.get?_push_of_some _ (keep' c o e)
  have hgp : (h'.push gobj).IsGen h'.objs.size s3.gens.size := hgo _ (Heap.get?_push_size _ hgl)
  generalize hst : ({ s3 with gens := s3.gens.push (.fresh (.compStart (genE elt (.Name x px) iter scope gpos) 0 (.ref it) .none cenv)), toks := tk, heap := h'.push gobj } : Shared) = st0 at I5 ⊢
  have hst1 : st0.heap = h'.push gobj := by rw [← hst]
  have hst2 : st0.gens = s3.gens.push (.fresh (.compStart (genE elt (.Name x px) iter scope gpos) 0 (.ref it) .none cenv)) := by rw [← hst]
  have hst3 : st0.os = s3.os := by rw [← hst]
  obtain ⟨n, b, Pv, Nx, p0, turn, goon, qno, qyes⟩ := q
  have fin : ∀ (v : Bool) (s' : Shared) (H' : Hp), Inv (gxC X (X.A.in1.in1.over (.compLoop (genE elt (.Name x px) iter scope gpos) 0 (.ref it) .none cenv) []) s3 H3 cenv fp) [(h'.objs.size, gobj)] (wipe σ (own.map (·.2))) H' s' → Q (.bl v) H' →
      ∀ s'' : Shared, s''.os = s'.os → AllBare s''.gens → (∀ c o, s'.heap.get? c = some o → s''.heap.get? c = some o) → EP X pins σ Q (.bool v) s'' := fun v s' H' J hq s'' e1 e2 e3 => by
    refine ⟨.bl v, H', I.call' (ch := fp) (e1.trans J.os) (J.base.trans (Un.kept e3)) (J.hok.kept e3) e2 (fun c hc => ?_), rfl, hq⟩
    obtain ⟨f1, f2, f3, f4, f5, f6⟩ := hfp c hc
    exact ⟨f4, f2, f5, f6⟩
  have hh1 : X.A.in1.handled = none := hr.hd
  refine call_function_tree F.kind_any F.plain_any F.entry_any (F.args_any1 _) ?_
  unfold Builtin.«any»
  refine wpAny_bind (m := oneArg "any" _) (wpAny_pure ?_)
  refine wpAny_bind (wpAny_pyIter_gen (s := st0) (by rw [hst1]; exact hgp) ?_)
  refine wpAny_pure ⟨plainId_quiet F.plain_any_loop _, ?_⟩
  refine any_loop (Z := gxC X (X.A.in1.in1.over (.compLoop (genE elt (.Name x px) iter scope gpos) 0 (.ref it) .none cenv) []) s3 H3 cenv fp) (pins := [(h'.objs.size, gobj)]) (fp := fp) (tn := tn) (σ := wipe σ (own.map (·.2))) (n := n) (b := b) (Nx := Nx) (Pv := Pv)
    (gobj := gobj) hr.hd (by have := hr.dp; omega) hgo (List.mem_singleton.mpr rfl) goon (fun s' H' J hp s'' e1 e2 e3 => fin false s' H' J (qyes H' hp).2 s'' e1 e2 e3) (fun s' H' j J hn hb s'' e1 e2 e3 => fin true s' H' J (qno j H' hn hb) s'' e1 e2 (fun c o e => by rw [e3]; exact e))
    n st0 (by rw [hst1]; exact hgp) I5.nolimit ⟨.fresh (.compStart (genE elt (.Name x px) iter scope gpos) 0 (.ref it) .none cenv), by rw [hst2]; exact Array.getElem?_push_size, ?_⟩
  refine ⟨rfl, ?_⟩
  have I6 := inv_swap (s' := st0.setGen s3.gens.size .running) I5 rfl rfl (allBare_setGen I5.bare rfl)
  have loop := gy_loop (Z := gxC X (X.A.in1.in1.over (.compLoop (genE elt (.Name x px) iter scope gpos) 0 (.ref it) .none cenv) []) s3 H3 cenv fp) (pins := [(h'.objs.size, gobj)]) (fp := fp) (tn := tn) (σ := wipe σ (own.map (·.2))) (n := n) (b := b) (Nx := Nx) (Pv := Pv)
    (B := X.A.in1.in1) (elt := elt) (tg := .Name x px) (iter := iter) (scope := scope) (pos := gpos) (it := it) (vs := own.map (·.2)) rfl rfl rfl rfl rfl (by rw [← hce]; exact S.co) (fun p hp hm => by
      rw [List.mem_singleton.mp hp] at hm
      have := lt3 _ hm
      have h2 : h'.objs.size < s3.heap.objs.size := this
      omega) T pg pe turn goon (fun H' hp => (qyes H' hp).1) n 0 (st0.setGen s3.gens.size .running) (st0.setGen s3.gens.size .running) H3 (Nat.sub_zero _) (Nat.zero_le _) p0
    ⟨I6, T.keep _ _ _ st fun c hc o e => (by show st0.heap.get? c = some o; rw [hst1]; exact ltp c o e), fun c hc => (hfp c hc).1⟩
  show Seg _ X.A.in1.in1 _ _ _ _ _ ((compStart (genE elt (.Name x px) iter scope gpos) 0 (.ref it) .none cenv).onRaise (leaving cenv)) [] _
  unfold compStart
  rw [Sem.onRaise_eq_wrap]
  show Seg _ X.A.in1.in1 _ _ _ _ _ ((ask >>= _).wrap _ _ _ _) [] _
  refine seg_bind_wrap (wpAny_askSetting ?_)
  have hself : ∀ A' : Around, ∀ (Q' : Value → Shared → Prop) (E' : Value → Shared → Prop), Q' (.ref it) (st0.setGen s3.gens.size .running) → wpAny (model X.prog X.w) A' (pyIter (.ref it)) Q' E' (st0.setGen s3.gens.size .running) := fun A' Q' E' hq =>
    T.self A' 0 _ Q' E' (T.keep _ _ _ st fun c hc o e => (by show st0.heap.get? c = some o; rw [hst1]; exact ltp c o e)) hq
  split
  · exact seg_again rfl loop
  · first
      | exact seg_bind_wrap (wpAny_rule (seg_bind_wrap (wpAny_standAt (seg_bind_wrap (hself _ _ _ (seg_again rfl loop))))))
      | (refine seg_bind_wrap (wpAny_rule ?_); show Seg _ X.A.in1.in1 _ _ _ _ _ ((standAt iter.pos >>= _).wrap _ _ _ _) [] _; exact seg_bind_wrap (wpAny_standAt (seg_bind_wrap (hself _ _ _ (seg_again rfl loop)))))
/-- all(e for x in it) -/
theorem pe_anyG {c P : Addr} {k i : Nat} {elt iter : Expr} {x : Str} {px p pos gpos : Pos} {scope : Scope} {own : List (Str × Nat)} {wi : TI} {te : TE}
    (hr : Room (k + 1) X.A) (hg : Gl X "any") (hm : X.mg "any" = none) (hb : bootBuiltins "any" = some (.builtin "any")) (TB : GxR.TabB X.base X.mg c P) (hcode : X.env.code = .ref c) (S : GxR.GenS X.env scope x) (hN : X.N.Nodup) (hx : X.N[i]? = some x) (ok : BlkOk X.N X.env.scope scope own)
    (hi : PI X (.Name x px) iter wi)
    (hel : ∀ (A : Around) (s : Shared) (H : Hp) (cl : List (Str × Addr)) (C : Addr) (code : Value) (fp : List Addr), Room k A → PE (gxC X A s H (genEnv scope cl C code builtinsNs X.env) fp) elt te)
    (hs : ∀ v, genFold iter X.env v = pure v)
    (he : starEach [genE elt (.Name x px) iter scope gpos] X.env = (false, eval (genE elt (.Name x px) iter scope gpos) X.env) :: starEach [] X.env := by rfl) :
    PE X (.Call (.Name "any" p) [genE elt (.Name x px) iter scope gpos] [] pos) (tAnyG P wi i te (own.map (·.2))) := by
  refine ⟨fun pins s σ H Q I h => ?_⟩
  refine wpAny_Call_Name_kw (ld_blt I hg hm hb ?_)
  refine PyProof.Rows.callWith_builtin1 ?_ he (by rfl)
  rw [he]
  show wpAny _ _ (spliced ((false, eval (genE elt (.Name x px) iter scope gpos) X.env) :: backTo pos (starEach [] X.env))) _ _ s
  refine Calls.spliced_cons ?_
  refine wpAny_GeneratorExp_make S.co (closure_ok S.free) S.cell S.dot S.kind (by have := hr.dp; omega) ?_ hs
  refine thn (hi.run pins s σ H _ I h) fun xv s1 h1 => thn h1 fun itv s2 h2 => ?_
  obtain ⟨it, fp, tn, J, H1, rfl, I2, T, st, hfp, ⟨ps, hP, ht⟩, ask⟩ := h2
  have hPs : s2.heap.get? P = some { cls := .none, data := .fields ps } := I2.hok P _ hP
  have hPlt : P < s2.heap.objs.size := Heap.lt_size hPs
  have cd : PySem.W.CodeHd s2.heap c P := TB.code.keeps I2.bk
  have nP : ∀ b ∈ fp, b ≠ P := fun b hb z => by
    have := (hfp b hb).1
    rw [z, hP] at this
    cases this
  have cont : ∀ (code : Value) (h3 : Heap) (tk : Nat) (more : Array Value), Heap.ExtBut P s2.heap h3 → s2.heap.objs.size ≤ h3.objs.size → h3.get? P = some { cls := .none, data := .fields (ps ++ more) } → TriplesOk (ps ++ more).toList →
      wpAny (model X.prog X.w) X.A (builtinsFor X.env.globals X.env.builtins) (fun bi s₄ =>
        ∀ h', h'.Ns s₄.heap.objs.size (fun y => if y = ".0" then some (.ref it) else none) → Heap.SameBut s₄.heap.objs.size (s₄.heap.push { cls := .type "frame", data := .dict #[] }) h' →
          wpAny (model X.prog X.w) X.A (spliced (backTo pos (starEach [] X.env))) (fun us s5 => wpAny (model X.prog X.w) X.A (call (.builtin "any") (.ref h'.objs.size :: us)) (EP X pins σ Q) X.xe s5) X.xe { s₄ with
            gens := s₄.gens.push (.fresh (.compStart (genE elt (.Name x px) iter scope gpos) 0 (.ref it) .none (genEnv scope (cloFrom X.env.cells scope.names []) s₄.heap.objs.size code bi X.env))),
            toks := s₄.toks + 1 + 1 + 1,
            heap := h'.push { cls := .type "generator", data := .fields #[.int s₄.gens.size 0, .str "<genexpr>" (s₄.toks + 1), .str (X.env.qual ++ "<genexpr>") (s₄.toks + 1 + 1)] } }) X.xe { s2 with heap := h3, toks := tk } := by
    intro code h3 tk more hxt hsz hP3 ht3
    obtain ⟨bm, ob, e1, e2, e3, e4, e5, e6, e7, e8⟩ := TB.bm
    refine wpAny_builtinsFor (m := X.mg) (by rw [I2.ok.glob]; exact (I2.mod.glob.keeps I2.bk).extBut hxt TB.gP) e1 e2 (hxt _ _ e4 (I2.bk _ _ e5)) e6 e7 e8 ?_
    have I3 : Inv X pins σ (upd H1 P (.tbl (ps ++ more))) { s2 with heap := h3, toks := tk } := GxR.inv_tab (more := more) (h' := h3) (g' := s2.gens) (d' := s2.drawn) (t' := tk) I2 hP (fun b u hb e => hxt b u hb e) hP3 I2.bare
    have st3 : tn 0 h3 := T.keep _ _ _ st fun b hb o e => hxt b o (nP b hb) e
    have hfp3 : ∀ b ∈ fp, FpOk X pins (upd H1 P (.tbl (ps ++ more))) b := fun b hb => by
      obtain ⟨f0, f⟩ := hfp b hb
      exact ⟨by rw [upd_ne (nP b hb)]; exact f0, f⟩
    intro h' hn' hs'
    refine Calls.spliced_nil ?_
    exact gy_go (tn := tn) (T := T) (k := k) (i := i) (s3 := { s2 with heap := h3, toks := tk }) (H3 := upd H1 P (.tbl (ps ++ more))) hr S hN ok (fun A s H cl C code fp => pg_name hN hx (.inl S.loc) (.inr S.loc)) hel I3 st3 hfp3
      (ask _ ⟨⟨ps ++ more, upd_same, ht3⟩, fun b hb => upd_ne hb⟩) hn' hs' (fun h e => ⟨_, _, _, e, rfl, rfl, rfl⟩) rfl (fun v e => by cases e) X.xe
  refine ⟨I2.nolimit, ?_⟩
  cases hf : codeAmong gpos ps.toList with
  | none =>
    refine wpAny_genexprCodeX hcode (cd.code hPs ht) (cd.tab hPs) hf fun c' h' tk hx hge hlt hco' _ htab' _ => ?_
    obtain ⟨o1, vs, f1, tf, fl, tg, inF, tx, tt, op, _, _, _, _, _, _, _, _, _, htr, _⟩ := hco'
    exact cont _ h' tk _ hx (Nat.le_trans hge (Nat.le_of_lt hlt)) htab'.2 htr
  | some cv =>
    refine wpAny_genexprCode_hit hcode (cd.code hPs ht) hf ?_
    exact cont cv s2.heap s2.toks #[] (Heap.ExtBut.refl _ _) (Nat.le_refl _) (by simpa using hPs) (by simpa using ht)
end
end Gy
/-! ### any(e for x in xs) -/
namespace Vm
open PySem PySem.Spec PyProof.Rows L2 Ky
section
variable {X : Cx} {c : Cn} {W : WX} {fx : List Nat}
/-! any(e for x in xs) -/
def anyL (i : Nat) (vs : List Nat) (fe : M R) : List D → Env → Option (Bool × Env)
  | [], ρ => some (false, ρ)
  | d :: ds, ρ => match fe (ρ.set i (some (.dat d))) with
    | some (.ok (.dat (.bool false)), ρ3) => anyL i vs fe ds (kill ρ3 vs)
    | some (.ok (.dat (.bool true)), ρ3) => some (true, kill ρ3 vs)
    | _ => none
def xAnyG (i : Nat) (vs : List Nat) (fi : M IR) (fe : M R) : M R := fi.bind fun r => fun ρ => (anyL i vs fe r.ds (kill (pinE r.ps ρ) vs)).map fun q => (.ok (.dat (.bool q.1)), unpinE r.ps ρ (kill q.2 vs))
/-- the state ahead of turn k -/
def anyS (i : Nat) (vs : List Nat) (fe : M R) (ds : List D) (ρ : Env) : Nat → Option Env
  | 0 => some ρ
  | k + 1 => (anyS i vs fe ds ρ k).bind fun ρ1 => (ds[k]?).bind fun d => match fe (ρ1.set i (some (.dat d))) with
    | some (.ok (.dat (.bool false)), ρ3) => some (kill ρ3 vs)
    | _ => none
def anyB (i : Nat) (vs : List Nat) (fe : M R) (ds : List D) (ρ : Env) (k : Nat) : Bool := match (anyS i vs fe ds ρ k).bind fun ρ1 => (ds[k]?).bind fun d => fe (ρ1.set i (some (.dat d))) with
  | some (.ok (.dat (.bool b)), _) => b
  | _ => true
theorem Vt.anyG {x : Str} {i : Nat} {vs : List Nat} {wi : TI} {te : TE} {fi : M IR} {fe : M R} (hx : x ∈ c.tf) (hi : i ∈ vs) (vi : VIt c W wi fi) (ve : VEt c W0 te fe) : VEt c W (Gy.tAnyG (tA c.K x) wi i te vs) (xAnyG i vs fi fe) := by
  intro σ H S ρ res ρ' Q p e G
  rcases M.bind_some e with ⟨r, ρ1, e1, e2⟩ | ⟨x, e1, rfl⟩
  · obtain ⟨⟨bb, ρe⟩, e3, e4⟩ := Option.map_eq_some_iff.mp e2
    cases e4
    refine vi σ H S ρ (.ok r) ρ1 _ p e1 fun J H1 S1 p1 q1 w => ⟨p1.tabs x hx, fun H2 tb => ?_⟩
    have g2 := Gro.tab (p1.tabs x hx) tb
    have pw := (p1.pin (ps := r.ps)).wipe vs
    let ρw := kill (pinE r.ps ρ1) vs
    have done : ∀ b H3, (∃ S3, Rep c (L2.wipe σ vs) H3 S3 ρe ∧ Stq [] (L2.wipe σ vs) ρw S1 H1 (L2.wipe σ vs) ρe S3 H3 ∧ b = bb) → Q (.bl b) H3 := fun b H3 ⟨S3, p3, q3, eb⟩ => by
      subst eb
      exact G _ H3 S3 p3.unwipe.unpin (q1.trans (Stq.unpin q3.outOf)) (Rp.bl _)
    refine ⟨r.ds.length, anyB i vs fe r.ds ρw, fun k H3 => ∃ S3 ρ3, anyS i vs fe r.ds ρw k = some ρ3 ∧ Rep c (L2.wipe σ vs) H3 S3 ρ3 ∧ Stq [] (L2.wipe σ vs) ρw S1 H1 (L2.wipe σ vs) ρ3 S3 H3 ∧ anyL i vs fe (r.ds.drop k) ρ3 = some (bb, ρe),
      fun k H3 => ∃ S3 ρ3, Rep c (L2.wipe σ vs) H3 S3 ρ3 ∧ Stq [] (L2.wipe σ vs) ρw S1 H1 (L2.wipe σ vs) ρ3 S3 H3 ∧ (anyB i vs fe r.ds ρw k = false → anyS i vs fe r.ds ρw (k + 1) = some ρ3 ∧ anyL i vs fe (r.ds.drop (k + 1)) ρ3 = some (bb, ρe)) ∧ (anyB i vs fe r.ds ρw k = true → bb = true ∧ ρ3 = ρe),
      ⟨S1, _, rfl, pw.gro g2, stq_gro g2, e3⟩, ?_, ?_, ?_, ?_⟩
    · rintro k H3 hk ⟨S3, ρ3, es, p3, q3, run⟩
      obtain ⟨w1, w2⟩ := w k H3 S3 σ _ p3.unwipe q3.outOf
      obtain ⟨go, wy⟩ := w1 hk
      refine ⟨go, fun y H4 hy => ?_⟩
      obtain ⟨g4, d, ed, rd⟩ := wy y H4 hy
      have ed' : r.ds.drop k = d :: r.ds.drop (k + 1) := by
        rw [List.drop_eq_getElem_cons hk]
        rw [List.getElem?_eq_getElem hk] at ed
        cases ed; rfl
      rw [ed'] at run
      have on : Only [i] (L2.wipe σ vs) ((L2.wipe σ vs).set i (some y)) := ⟨List.length_set .., fun j hj => List.getElem?_set_ne (fun z => hj (by rw [z]; exact List.mem_cons_self))⟩
      have hs : ∀ j ∈ [i], j ∈ vs := fun j hj => by rw [List.mem_singleton.mp hj]; exact hi
      refine ⟨by rw [wipe_only hs on, wipe_wipe], ?_⟩
      have p4 := (p3.gro g4).put (i := i) rd
      have q4 : Stq [] (L2.wipe σ vs) ρw S1 H1 ((L2.wipe σ vs).set i (some y)) (ρ3.set i (some (.dat d))) S3 H4 := (q3.trans (stq_gro g4)).trans (Stq.put (List.not_mem_nil))
      unfold anyL at run
      have fin : ∀ b ρ5, fe (ρ3.set i (some (.dat d))) = some (.ok (.dat (.bool b)), ρ5) → (b = false → anyL i vs fe (r.ds.drop (k + 1)) (kill ρ5 vs) = some (bb, ρe)) → (b = true → bb = true ∧ kill ρ5 vs = ρe) →
          te ((L2.wipe σ vs).set i (some y)) H4 fun z H5 => z = .bl (anyB i vs fe r.ds ρw k) ∧ ∃ S3 ρ3, Rep c (L2.wipe σ vs) H5 S3 ρ3 ∧ Stq [] (L2.wipe σ vs) ρw S1 H1 (L2.wipe σ vs) ρ3 S3 H5 ∧ (anyB i vs fe r.ds ρw k = false → anyS i vs fe r.ds ρw (k + 1) = some ρ3 ∧ anyL i vs fe (r.ds.drop (k + 1)) ρ3 = some (bb, ρe)) ∧ (anyB i vs fe r.ds ρw k = true → bb = true ∧ ρ3 = ρe) := fun b ρ5 e5 h1 h2 => by
        have hb : anyB i vs fe r.ds ρw k = b := by
          unfold anyB
          rw [es, ed]
          simp only [Option.bind_some]
          rw [e5]
        refine ve _ H4 S3 _ (.ok (.dat (.bool b))) ρ5 _ p4 e5 fun v H5 S5 p5 q5 r5 => ?_
        cases r5
        rw [hb]
        refine ⟨rfl, S5, kill ρ5 vs, Rep.turn hs on p5, Stq.turn hs on (q4.trans q5), fun eb => ⟨?_, h1 eb⟩, fun eb => h2 eb⟩
        subst eb
        unfold anyS
        rw [es, ed]
        simp only [Option.bind_some]
        rw [e5]
      split at run
      · rename_i ρ5 e5
        exact fin false ρ5 e5 (fun _ => run) (fun z => nomatch z)
      · rename_i ρ5 e5
        cases run
        exact fin true ρ5 e5 (fun z => nomatch z) (fun _ => ⟨rfl, rfl⟩)
      · cases run
    · rintro k H3 ⟨S3, ρ3, p3, q3, h1, _⟩ eb
      obtain ⟨h2, h3⟩ := h1 eb
      exact ⟨S3, ρ3, h2, p3, q3, h3⟩
    · rintro k H3 ⟨S3, ρ3, p3, q3, _, h1⟩ eb
      obtain ⟨h2, h3⟩ := h1 eb
      subst h3
      exact done true H3 ⟨S3, p3, q3, h2.symm⟩
    · rintro H3 ⟨S3, ρ3, es, p3, q3, run⟩
      obtain ⟨w1, w2⟩ := w r.ds.length H3 S3 σ _ p3.unwipe q3.outOf
      rw [List.drop_length] at run
      cases run
      exact ⟨w2 rfl, done false H3 ⟨S3, p3, q3, rfl⟩⟩
  · exact vi σ H S ρ (.error x) ρ' _ p e1 G
theorem VE.anyG {cA' : Addr} {kk i : Nat} {dx : Str} {elt iter : Expr} {x : Str} {px p pos gpos : Pos} {scope : Scope} {own : List (Str × Nat)} {wi : TI} {te : TE} {fi : M IR} {fe : M R} (hx : dx ∈ c.tf) (hio : i ∈ own.map (·.2))
    (hr : Room (kk + 1) X.A) (hg : Gl X "any") (hm : X.mg "any" = none) (hb : bootBuiltins "any" = some (.builtin "any")) (TB : GxR.TabB X.base X.mg cA' (tA c.K dx)) (hcode : X.env.code = .ref cA') (S : GxR.GenS X.env scope x) (hN : X.N.Nodup) (hxi : X.N[i]? = some x) (ok : BlkOk X.N X.env.scope scope own)
    (hi : VI X c W (.Name x px) iter wi fi)
    (hel : ∀ (A : Around) (s : Shared) (H : Hp) (cl : List (Str × Addr)) (C : Addr) (code : Value) (fp : List Addr), Room kk A → VE (Gx.gxC X A s H (genEnv scope cl C code builtinsNs X.env) fp) c W0 elt te fe) (A0 : Around) (r0 : Room kk A0)
    (hs : ∀ v, genFold iter X.env v = pure v)
    (he : starEach [Gx.genE elt (.Name x px) iter scope gpos] X.env = (false, eval (Gx.genE elt (.Name x px) iter scope gpos) X.env) :: starEach [] X.env := by rfl) :
    VE X c W (.Call (.Name "any" p) [Gx.genE elt (.Name x px) iter scope gpos] [] pos) (Gy.tAnyG (tA c.K dx) wi i te (own.map (·.2))) (xAnyG i (own.map (·.2)) fi fe) :=
  ⟨Gy.pe_anyG hr hg hm hb TB hcode S hN hxi ok hi.pe (fun A s H cl C code fp r => (hel A s H cl C code fp r).pe) hs he, Vt.anyG hx hio hi.vt (hel A0 X.s_0 X.H_0 [] 0 .none [] r0).vt⟩
end
end Vm
/-! ### xs.index(x), a list of flat data -/
namespace Vm
open PySem PySem.Spec PyProof.Rows L2 Ky
section
variable {X : Cx} {c : Cn} {W : WX}
def xIndex (fo fa : M R) : M R := fo.bind fun a => fa.bind fun b => fun ρ => match look ρ a, look ρ b with
  | some (.list ds), some d => if flatD d && ds.all flatD then (ds.findIdx? fun z => PyData.eqv z d).map fun j => (.ok (.dat (.int (j : Nat))), ρ) else none
  | _, _ => none
/-- the receiver gives a list -/
def lstR (fo : M R) : M R := fo.bind fun a => fun ρ => match look ρ a with
  | some (.list _) => some (.ok a, ρ)
  | _ => none
theorem VE.index {o e : Expr} {apos cpos : Pos} {to ta : TE} {fo fa : M R} (k : Fit X c) (ho : VE X c W o to fo) (ha : VE X c W e ta fa)
    (hbase : attributeBase o "index" X.env (eval o X.env) = eval o X.env := by rfl) (hfew : ((backTo cpos (starEach [e] X.env)).all (fun x => !x.1) && (backToKw cpos (keywordEach [] X.env)).all (fun x => x.1.isSome)
    && decide (([e] : List Expr).length + ([] : List Keyword).length + (if ([] : List Keyword).isEmpty then 0 else 1) < 30)) = true := by rfl)
    (hline : (apos.endLine == cpos.line) = true := by rfl) (hs : starEach [e] X.env = (false, eval e X.env) :: starEach [] X.env := by rfl) (hplain : (backTo cpos (starEach [] X.env)).any (·.1) = false := by rfl) :
    VE X c W (.Call (.Attribute o "index" apos) [e] [] cpos) (tBM c.K "list" (rIndex c.K) to (tCons ta tNil)) (xIndex (lstR fo) fa) := by
  refine ⟨by rw [← k.K]; exact pe_bm PySem.F.plainAttrs_list PySem.F.slot_list_index PySem.F.type_list_index mt_index ho.pe (pa_cons ha.pe pa_nil hs) hbase hfew hline hs hplain, ?_⟩
  intro σ H S ρ res ρ' Q p e1 G
  rcases M.bind_some e1 with ⟨a, ρ1, e2, e3⟩ | ⟨x, e2, rfl⟩
  · rcases M.bind_some e2 with ⟨a', ρ0, f1, f2⟩ | ⟨x, f1, z⟩
    · split at f2
      · rename_i ds0 g1
        cases f2
        refine ho.vt σ H S ρ (.ok a) ρ1 _ p f1 fun v H1 S1 p1 q1 r1 => ?_
        have l1 := look_ok p1 r1 g1
        obtain ⟨b, vs, rfl, s1, t1⟩ := l1.lst_
        refine ⟨.inl ⟨rfl, vs, s1⟩, ?_⟩
        rcases M.bind_some e3 with ⟨d, ρ2, e4, e5⟩ | ⟨x, e4, rfl⟩
        · refine ha.vt σ H1 S1 ρ1 (.ok d) ρ2 _ p1 e4 fun y H2 S2 p2 q2 r2 => ?_
          split at e5
          · rename_i ds dd g2 g3
            split at e5
            · rename_i hf
              obtain ⟨j, g4, g5⟩ := Option.map_eq_some_iff.mp e5
              cases g5
              obtain ⟨hf1, hf2⟩ := Bool.and_eq_true_iff.mp hf
              have l2 := look_ok p2 (RR.step p1 q2 r1) g2
              obtain ⟨b', ws, eb, s2, t2⟩ := l2.lst_
              cases eb
              have hy := look_ok p2 r2 g3
              have hyr : Rp c.K H2 S2 y dd := by
                cases hy with
                | of h => exact h
                | lst _ _ => cases hf1
                | dK _ _ => cases hf1
                | st _ _ => cases hf1
              obtain ⟨hj, h1, h2⟩ := List.findIdx?_eq_some_iff_getElem.mp g4
              obtain ⟨w, ew, rw_⟩ := t2.get (List.getElem?_eq_getElem hj)
              refine ⟨b, ws, y, j, w, rfl, rfl, s2, hyr.flat hf1, flat_all t2 hf2, ew, ?_, fun m z' hm ez => ?_, G _ H2 S2 p2 (q1.trans q2) (.int _)⟩
              · rw [rw_.eqV hyr (List.all_eq_true.mp hf2 _ (List.getElem_mem hj)) hf1]
                exact h1
              · have hml : m < ds.length := by omega
                obtain ⟨w2, ew2, rw2⟩ := t2.get (List.getElem?_eq_getElem hml)
                rw [ez] at ew2
                cases ew2
                rw [rw2.eqV hyr (List.all_eq_true.mp hf2 _ (List.getElem_mem hml)) hf1]
                have := h2 m hm
                simpa using this
            · cases e5
          · cases e5
        · exact ha.vt σ H1 S1 ρ1 (.error x) ρ' _ p1 e4 fun C d H' S' v' m1 m2 m3 p3 q3 => G C d H' S' v' m1 m2 m3 p3 (q1.trans q3)
      · cases f2
    · cases z
  · rcases M.bind_some e2 with ⟨a', ρ0, f1, f2⟩ | ⟨x', f1, z⟩
    · split at f2 <;> cases f2
    · cases z
      exact ho.vt σ H S ρ (.error _) ρ' _ p f1 G
end
end Vm
/-! ### raise C(value = e); isinstance of an exception that a slot holds; C(e).value -/
namespace Vm
open PySem PySem.Spec PyProof.Rows L2 Ky
section
variable {X : Cx} {c : Cn} {W : WX} {fx : List Nat}
theorem VS.raiseK {x : Str} {C fI : Addr} {fd : FuncData} {e : Expr} {ta : TE} {fa : M R} {p pos pos2 kp : Pos} (k : Fit X c) (hc : X.calm = true) (tk : Takes X W) (T : ErrC X.K C fI) (F : FnOk X.prog X.w X.K X.mg X.base CX0 1 fI fd ["self", "value"] (spInitV X.K))
    (bK : ∀ (s : Shared) (u0 u1 : Value), BindsTo s fd ⟨[u0], [(("value" : Str), u1)]⟩ ((["self", "value"] : List Str).zip [u0, u1]))
    {j : Nat} (hr : Room j X.A) (hj : 2 ≤ j) (hg : Gl X x) (hm : X.mg x = some (.ref C)) (ha : VE X c W e ta fa) (hdb : (x == ("__debug__" : Str)) = false := by decide)
    (hall : (backToKw pos (keywordEach [⟨some "value", e, kp⟩] X.env)).all (·.1.isSome) = true := by rfl) (hks : (backToKw pos (keywordEach [⟨some "value", e, kp⟩] X.env)).filterMap (·.1) = [("value" : Str)] := by rfl)
    (hpl : ((backTo pos (starEach [] X.env)).any (·.1) || (backToKw pos (keywordEach [⟨some "value", e, kp⟩] X.env)).any (·.1.isNone)) = false := by rfl) :
    VS X c W fx (.Raise (some (.Call (.Name x p) [] [⟨some "value", e, kp⟩] pos)) none pos2) (fun _ σ H => tMkOK C (spInitV X.K) (tCons ta tNil) σ H fun cls d H' => W cls d σ H') (sRaise x fa) := by
  refine ⟨ps_errK hc tk T F bK (hr.mono hj) hg hm (pk_cons ha.pe pk_nil) hall hks hdb hpl, ?_⟩
  intro σ H S ρ fl ρ' D q e1 G
  unfold sRaise at e1
  split at e1
  · rename_i r ρ1 e2
    obtain ⟨⟨d, ρ2⟩, e3, e4⟩ := Option.map_eq_some_iff.mp e1
    cases e4
    refine ha.vt σ H S ρ (.ok r) ρ1 _ q e2 fun v H1 S1 p1 q1 r1 => ?_
    obtain ⟨S2, p2, q2, r2, _, _⟩ := keep_ok q1 p1 r1.w e3
    have hh := err_in (Q := fun cls d' H' => W cls d' σ H') (H := H1) (y := v) T fun dd hn => by
      have g : Gro H1 (upd H1 dd (.xd [((("value" : Str)), v)])) := gro_new hn
      exact G C dd σ _ S2 v (by rw [← k.mg]; exact hm) upd_same (r2.keep (Gro.kp g) fun _ z => z) (p2.gro g) (q2.any.trans (stq_gro g))
    exact hh
  · rename_i x1 ρ1 e2
    cases e1
    exact ha.vt σ H S ρ (.error x1) _ _ q e2 (goodE_ex (D := D) G)
  · cases e1
/-! isinstance of an exception -/
def xIsC (tbl : Str → Option Bool) (i : Nat) : M R := fun ρ => match ρ[i]? with
  | some (some (.own (.exc cls _))) => (tbl cls).map fun b => (.ok (.dat (.bool b)), ρ)
  | _ => none
theorem Vt.isC {tbl : Str → Option Bool} {i : Nat} {cv : V} {u : Value} (ru : ∀ w, RelV cv w → w = u) (hL : ∀ cls C b, tbl cls = some b → c.mg cls = some (.ref C) → PySem.W.kitOne c.K (.ref C) u = some b ∧ ExcC c.K C) :
    VEt c W (tCB (rIsK c.K) (tCons (tVar i) (tCons (tC cv) tNil))) (xIsC tbl i) := by
  intro σ H S ρ res ρ' Q p e G
  unfold xIsC at e
  split at e
  · rename_i cls val e1
    obtain ⟨b, e2, e3⟩ := Option.map_eq_some_iff.mp e
    cases e3
    obtain ⟨a, e4, ⟨C, d, v, m1, m2, m3, r⟩, _⟩ := p.liv i _ _ e1 rfl
    obtain ⟨k1, k2⟩ := hL cls C b e2 m1
    exact ⟨.ref a, e4, a, C, d, _, cv, u, b, rfl, m2, m3, k2, ru, k1, G (.bl b) H S p .refl (.bl b)⟩
  · cases e
theorem VE.isC {tbl : Str → Option Bool} {i : Nat} {T : Str} {D : Addr} {e : Expr} {p p2 pos : Pos} (k : Fit X c) (he : PE X e (tVar i)) (hg : Gl X "isinstance") (hm : X.mg "isinstance" = none) (hgT : Gl X T) (hmT : X.mg T = some (.ref D))
    (hL : ∀ cls C b, tbl cls = some b → c.mg cls = some (.ref C) → PySem.W.kitOne c.K (.ref C) (.ref D) = some b ∧ ExcC c.K C) (hdb : (T == ("__debug__" : Str)) = false := by decide)
    (h1 : starEach [e, .Name T p2] X.env = (false, eval e X.env) :: starEach [.Name T p2] X.env := by rfl) (h2 : starEach [.Name T p2] X.env = (false, eval (.Name T p2) X.env) :: starEach [] X.env := by rfl) (hpl : (backTo pos (starEach [.Name T p2] X.env)).any (·.1) = false := by rfl) :
    VE X c W (.Call (.Name "isinstance" p) [e, .Name T p2] [] pos) (tCB (rIsK c.K) (tCons (tVar i) (tCons (tC (.ref D)) tNil))) (xIsC tbl i) :=
  ⟨pe_callB (by rw [← k.K]; exact call_isK) hg hm (by decide +kernel) (pa_cons he (pa_cons (pe_glob (v := .ref D) hgT hmT rfl hdb) pa_nil h2) h1) (he := h1) (hpl := hpl), Vt.isC (fun w r => r) hL⟩
theorem VE.isCV {tbl : Str → Option Bool} {i : Nat} {T : Str} {n : String} {e : Expr} {p p2 pos : Pos} (k : Fit X c) (he : PE X e (tVar i)) (hg : Gl X "isinstance") (hm : X.mg "isinstance" = none) (hgT : Gl X T) (hmT : X.mg T = none) (hT : bootBuiltins T = some (.type n))
    (hL : ∀ cls C b, tbl cls = some b → c.mg cls = some (.ref C) → PySem.W.kitOne c.K (.ref C) (.type n) = some b ∧ ExcC c.K C) (hn : T ≠ "__name__" := by decide) (hdb : (T == ("__debug__" : Str)) = false := by decide)
    (h1 : starEach [e, .Name T p2] X.env = (false, eval e X.env) :: starEach [.Name T p2] X.env := by rfl) (h2 : starEach [.Name T p2] X.env = (false, eval (.Name T p2) X.env) :: starEach [] X.env := by rfl) (hpl : (backTo pos (starEach [.Name T p2] X.env)).any (·.1) = false := by rfl) :
    VE X c W (.Call (.Name "isinstance" p) [e, .Name T p2] [] pos) (tCB (rIsK c.K) (tCons (tVar i) (tCons (tC (.ty n)) tNil))) (xIsC tbl i) :=
  ⟨pe_callB (by rw [← k.K]; exact call_isK) hg hm (by decide +kernel) (pa_cons he (pa_cons (pe_bltn (v := .ty n) hgT hmT hT rfl hn hdb) pa_nil h2) h1) (he := h1) (hpl := hpl), Vt.isC (fun w r => r) hL⟩
/-! x is None, in a test -/
theorem VT.isX {i : Nat} {e : Expr} {pos : Pos} (ce : Expr) (he : PE X e (tVar i)) (hc : VE X c W ce (tC .non) (xC .none)) (hm : behindInMarks .Is ce = false) : VT X c W (.Compare e [.Is] [ce] pos) (tTest (tOp rIsN (tVar i) (tC .non))) (xB (xIsX false i)) :=
  ⟨(VT.cmp (W := W) o_is (VE.var he) hc hm).pe, Vt.bl (VE.isX (pos := pos) ce he hc hm).vt⟩
theorem VT.isntX {i : Nat} {e : Expr} {pos : Pos} (ce : Expr) (he : PE X e (tVar i)) (hc : VE X c W ce (tC .non) (xC .none)) (hm : behindInMarks .IsNot ce = false) : VT X c W (.Compare e [.IsNot] [ce] pos) (tTest (tOp rNotN (tVar i) (tC .non))) (xB (xIsX true i)) :=
  ⟨(VT.cmp (W := W) o_isnot (VE.var he) hc hm).pe, Vt.bl (VE.isntX (pos := pos) ce he hc hm).vt⟩
/-! C(e).value -/
def xErrV (fa : M R) : M R := fun ρ => match fa ρ with
  | some (.ok (.dat d), ρ1) => some (.ok (.dat d), ρ1)
  | _ => none
theorem VE.errV {x : Str} {C fI : Addr} {fd : FuncData} {e : Expr} {ta : TE} {fa : M R} {p pos pos2 : Pos} (k : Fit X c) (T : ErrC X.K C fI) (F : FnOk X.prog X.w X.K X.mg X.base CX0 1 fI fd ["self", "value"] (spInitV X.K)) (b : Binds X.K fd ["self", "value"] [])
    {j : Nat} (hr : Room j X.A) (hj : 2 ≤ j) (hg : Gl X x) (hm : X.mg x = some (.ref C)) (ha : VE X c W e ta fa) (hdb : (x == ("__debug__" : Str)) = false := by decide) (h1 : starEach (e :: []) X.env = (false, eval e X.env) :: starEach [] X.env := by rfl)
    (h2 : (backTo pos (starEach [] X.env)).any (·.1) = false := by rfl) (hb : attributeBase (.Call (.Name x p) [e] [] pos) "value" X.env (eval (.Call (.Name x p) [e] [] pos) X.env) = eval (.Call (.Name x p) [e] [] pos) X.env := by rfl) :
    VE X c W (.Attribute (.Call (.Name x p) [e] [] pos) "value" pos2) (tXk X.K "value" (tErrV C (tCons ta tNil))) (xErrV fa) := by
  refine ⟨pe_xk (pe_errV T F b (hr.mono hj) hg hm (pa_cons ha.pe pa_nil h1) hdb h1 h2) hb, ?_⟩
  intro σ H S ρ res ρ' Q q e1 G
  unfold xErrV at e1
  split at e1
  · rename_i d ρ1 e2
    cases e1
    refine ha.vt σ H S ρ (.ok (.dat d)) _ _ q e2 fun v H1 S1 p1 q1 r1 => ?_
    refine ⟨v, rfl, fun a dd na nd ne => ?_⟩
    have g1 : Gro H1 (upd H1 dd (.xd [((("value" : Str)), v)])) := gro_new nd
    have g2 : Gro (upd H1 dd (.xd [((("value" : Str)), v)])) (upd (upd H1 dd (.xd [((("value" : Str)), v)])) a (KeptE (.ref C) (some dd) a)) := gro_new (by rw [upd_ne (Ne.symm ne)]; exact na)
    have g := g1.trans g2
    exact ⟨a, C, dd, _, v, rfl, upd_same, T.x, T.noV, by rw [upd_ne ne, upd_same], rfl, G v _ S1 (p1.gro g) (q1.trans (stq_gro g)) (RR.step p1 (stq_gro g) r1)⟩
  · cases e1
end
/-! tables of isinstance -/
def kitOf (rs : List Str) (kin : List (Str × Str)) (h : Str) : Str → Option Bool := fun a => if a ∈ rs then some (decide ((a, h) ∈ kin)) else none
def kitV (rs : List Str) : Str → Option Bool := fun a => if a ∈ rs then some true else none
theorem kitOf_ok {K : PySem.W.Frag} {mg : Str → Option Value} {rs hs : List Str} {kin : List (Str × Str)} {fI : Addr} (glo : ∀ x ∈ rs, mg x = some (.ref (He.ga K x))) (err : ∀ x ∈ rs, ErrC K (He.ga K x) fI)
    (kit : ∀ a ∈ rs, ∀ h ∈ hs, PySem.W.kitOne K (.ref (He.ga K a)) (.ref (He.ga K h)) = some (decide ((a, h) ∈ kin))) {h : Str} (hh : h ∈ hs) :
    ∀ cls C b, kitOf rs kin h cls = some b → mg cls = some (.ref C) → PySem.W.kitOne K (.ref C) (.ref (He.ga K h)) = some b ∧ ExcC K C := by
  intro cls C b e m
  unfold kitOf at e
  split at e
  · rename_i hc
    cases e
    rw [glo cls hc] at m
    cases m
    exact ⟨kit cls hc h hh, (err cls hc).i⟩
  · cases e
theorem kitV_ok {K : PySem.W.Frag} {mg : Str → Option Value} {rs : List Str} {fI : Addr} (glo : ∀ x ∈ rs, mg x = some (.ref (He.ga K x))) (err : ∀ x ∈ rs, ErrC K (He.ga K x) fI)
    (kit : ∀ a ∈ rs, PySem.W.kitOne K (.ref (He.ga K a)) (.type "ValueError") = some true) :
    ∀ cls C b, kitV rs cls = some b → mg cls = some (.ref C) → PySem.W.kitOne K (.ref C) (.type "ValueError") = some b ∧ ExcC K C := by
  intro cls C b e m
  unfold kitV at e
  split at e
  · rename_i hc
    cases e
    rw [glo cls hc] at m
    cases m
    exact ⟨kit cls hc, (err cls hc).i⟩
  · cases e
end Vm
namespace K00
open PySem PySem.Spec PyProof.Rows L2 Ky Vm
abbrev rcl : List Str := ["TellError", "InvalidBook", "InvalidWord", "InvalidNumber", "InvalidKey", "InvalidCell", "InvalidRow", "InvalidLot", "InvalidTable", "InvalidValues", "InvalidRoad", "InvalidSeats", "NotFree", "NoTable", "NoSeats", "InvalidPlacing", "InvalidChain", "InvalidMixing", "InvalidFilter", "InvalidName", "HasCore", "NotGood", "UnknownName", "NothingToUndo", "Unreadable", "Unorderly"]
abbrev kcl : List Str := ["InvalidBook", "InvalidWord", "InvalidNumber", "InvalidKey", "InvalidCell", "InvalidRow", "InvalidLot", "InvalidTable", "InvalidValues", "InvalidRoad", "InvalidSeats", "NotFree", "NoTable", "NoSeats", "InvalidPlacing", "InvalidChain", "InvalidMixing", "InvalidFilter", "InvalidName", "HasCore", "NotGood", "UnknownName", "NothingToUndo", "Unreadable", "Unorderly"]
abbrev kinK : List (Str × Str) := [("InvalidBook", "InvalidBook"), ("InvalidWord", "InvalidWord"), ("InvalidNumber", "InvalidNumber"), ("InvalidKey", "InvalidKey"), ("InvalidCell", "InvalidCell"), ("InvalidRow", "InvalidRow"), ("InvalidLot", "InvalidLot"), ("InvalidTable", "InvalidTable"), ("InvalidValues", "InvalidValues"), ("InvalidRoad", "InvalidRoad"), ("InvalidSeats", "InvalidSeats"), ("NotFree", "NotFree"), ("NoTable", "NoTable"), ("NoSeats", "NoSeats"), ("InvalidPlacing", "InvalidPlacing"), ("InvalidChain", "InvalidChain"), ("InvalidMixing", "InvalidMixing"), ("InvalidFilter", "InvalidFilter"), ("InvalidName", "InvalidName"), ("HasCore", "HasCore"), ("NotGood", "NotGood"), ("UnknownName", "UnknownName"), ("NothingToUndo", "NothingToUndo"), ("Unreadable", "Unreadable"), ("Unorderly", "Unorderly")]
noncomputable def m_law_deck : Fn := fnP 2 4 none
  (sSeq (sSet 2 (xC (.int 0)))
  (sSeq (sIf (xB (xOp2 (dLt) (xVar 1) (xOpN dLen (xCons (xVar 0) xNil))))
  (sSet 2 (xOp2 dIx (xVar 0) (xVar 1)))
  sNext)
  (sSeq (sSet 3 (xOp2 dMod (xOpN dIntOf (xCons (xOp2 dAdd (xOp2 dAdd (xVar 2) (xOp2 dMulI (xC (.int 7919)) (xVar 1))) (xC (.int 104729))) xNil)) (xC (.int 2305843009213693951))))
  (sSeq (sSet 3 (xOp2 dMod (xOpN dIntOf (xCons (xOp2 dAdd (xOp2 dAdd (xOp2 dMulI (xOp2 dMulI (xVar 3) (xVar 3)) (xVar 3)) (xOp2 dMulI (xC (.int 31)) (xVar 1))) (xC (.int 7))) xNil)) (xC (.int 2305843009213693951))))
  (sSeq (sIf (xB (xOp2 (dLt) (xVar 2) (xOp2 dPow (xC (.int 10)) (xC (.int 18)))))
  (sRet (xLst (xCons (xC (.int 0)) (xCons (xVar 3) xNil))))
  sNext)
  (sRet (xLst (xCons (xOp2 dSub (xVar 2) (xOp2 dPow (xC (.int 10)) (xC (.int 18)))) (xCons (xVar 3) xNil)))))))))
noncomputable def m_law_take : Fn := fnP 2 3 (some 0)
  (sSeq (sIf (xB (xOp2 (dGt) (xOp2 dIx (xVar 0) (xC (.int 0))) (xC (.int 0))))
  (sSeq (sSet 2 (xOp2 dMod (xOpN dIntOf (xCons (xOp2 dIx (xVar 0) (xC (.int 0))) xNil)) (xVar 1)))
  (sSeq (sPut 0 (xC (.int 0)) (xOp2 dDiv (xOp2 dIx (xVar 0) (xC (.int 0))) (xVar 1)))
  (sRet (xVar 2))))
  sNext)
  (sSeq (sPut 0 (xC (.int 1)) (xOp2 dMod (xOpN dIntOf (xCons (xOp2 dAdd (xOp2 dMulI (xOp2 dIx (xVar 0) (xC (.int 1))) (xC (.int 6364136223846793005))) (xC (.int 1442695040888963407))) xNil)) (xOp2 dPow (xC (.int 2)) (xC (.int 64)))))
  (sRet (xOp2 dMod (xOp2 dDiv (xOp2 dIx (xVar 0) (xC (.int 1))) (xOp2 dPow (xC (.int 2)) (xC (.int 25)))) (xVar 1)))))
noncomputable def b_law_same : Nat → XS
  | 0 => sNever
  | k_ + 1 => (sSeq (sIf (xTru (xIsi ["tuple", "list"] (xVar 1)))
  (sSeq (sIf (bOr (xB (xOp2 (dEq true) (xIsi ["tuple"] (xVar 0)) (xIsi ["tuple"] (xVar 1)))) (xB (xOp2 (dEq true) (xIsi ["list"] (xVar 0)) (xIsi ["list"] (xVar 1)))))
  (sRet (xC (.bool false)))
  sNext)
  (sSeq (sIf (xB (xOp2 (dEq true) (xOpN dLen (xCons (xVar 0) xNil)) (xOpN dLen (xCons (xVar 1) xNil))))
  (sRet (xC (.bool false)))
  sNext)
  (sRet (xOp2 (dEq false) (xLc [2] (iRg1 (xOpN dLen (xCons (xVar 1) xNil))) (tName 2) (bNot (xTru (xCall none (fnP 2 3 none (b_law_same k_)) (xCons (xOp2 dIx (xVar 0) (xVar 2)) (xCons (xOp2 dIx (xVar 1) (xVar 2)) xNil))))) (xVar 2)) (xLst xNil)))))
  sNext)
  (sSeq (sIf (xB (xOp2 (dIs false) (xVar 1) (xC .none)))
  (sRet (xOp2 (dIs false) (xVar 0) (xC .none)))
  sNext)
  (sSeq (sIf (xTru (xIsi ["str"] (xVar 1)))
  (sRet (xAnd (xIsi ["str"] (xVar 0)) (xOp2 (dEq false) (xVar 0) (xVar 1))))
  sNext)
  (sSeq (sIf (bOr (xTru (xIsi ["bool"] (xVar 1))) (xTru (xIsi ["bool"] (xVar 0))))
  (sRet (xAnd (xIsi ["bool"] (xVar 1)) (xAnd (xIsi ["bool"] (xVar 0)) (xOp2 (dEq false) (xVar 0) (xVar 1)))))
  sNext)
  (sRet (xAnd (xIsi ["int"] (xVar 0)) (xOp2 (dEq false) (xVar 0) (xVar 1))))))))
noncomputable def m_law_same (k_ : Nat) : Fn := fnP 2 3 none (b_law_same k_)
noncomputable def m_law_raise_first : Fn := fnN 2 2 none
  (sSeq (sIf (xB (xOp2 (dEq false) (xVar 0) (xC (.int 0))))
  (sRaise "InvalidBook" (xVar 1))
  sNext)
  (sSeq (sIf (xB (xOp2 (dEq false) (xVar 0) (xC (.int 1))))
  (sRaise "InvalidWord" (xVar 1))
  sNext)
  (sSeq (sIf (xB (xOp2 (dEq false) (xVar 0) (xC (.int 2))))
  (sRaise "InvalidNumber" (xVar 1))
  sNext)
  (sSeq (sIf (xB (xOp2 (dEq false) (xVar 0) (xC (.int 3))))
  (sRaise "InvalidKey" (xVar 1))
  sNext)
  (sSeq (sIf (xB (xOp2 (dEq false) (xVar 0) (xC (.int 4))))
  (sRaise "InvalidCell" (xVar 1))
  sNext)
  (sSeq (sIf (xB (xOp2 (dEq false) (xVar 0) (xC (.int 5))))
  (sRaise "InvalidRow" (xVar 1))
  sNext)
  (sSeq (sIf (xB (xOp2 (dEq false) (xVar 0) (xC (.int 6))))
  (sRaise "InvalidLot" (xVar 1))
  sNext)
  (sSeq (sIf (xB (xOp2 (dEq false) (xVar 0) (xC (.int 7))))
  (sRaise "InvalidTable" (xVar 1))
  sNext)
  (sSeq (sIf (xB (xOp2 (dEq false) (xVar 0) (xC (.int 8))))
  (sRaise "InvalidValues" (xVar 1))
  sNext)
  (sSeq (sIf (xB (xOp2 (dEq false) (xVar 0) (xC (.int 9))))
  (sRaise "InvalidRoad" (xVar 1))
  sNext)
  (sSeq (sIf (xB (xOp2 (dEq false) (xVar 0) (xC (.int 10))))
  (sRaise "InvalidSeats" (xVar 1))
  sNext)
  (sSeq (sIf (xB (xOp2 (dEq false) (xVar 0) (xC (.int 11))))
  (sRaise "NotFree" (xVar 1))
  sNext)
  (sRaise "NoTable" (xVar 1))))))))))))))
noncomputable def m_law_raise_second : Fn := fnN 2 2 none
  (sSeq (sIf (xB (xOp2 (dEq false) (xVar 0) (xC (.int 13))))
  (sRaise "NoSeats" (xVar 1))
  sNext)
  (sSeq (sIf (xB (xOp2 (dEq false) (xVar 0) (xC (.int 14))))
  (sRaise "InvalidPlacing" (xVar 1))
  sNext)
  (sSeq (sIf (xB (xOp2 (dEq false) (xVar 0) (xC (.int 15))))
  (sRaise "InvalidChain" (xVar 1))
  sNext)
  (sSeq (sIf (xB (xOp2 (dEq false) (xVar 0) (xC (.int 16))))
  (sRaise "InvalidMixing" (xVar 1))
  sNext)
  (sSeq (sIf (xB (xOp2 (dEq false) (xVar 0) (xC (.int 17))))
  (sRaise "InvalidFilter" (xVar 1))
  sNext)
  (sSeq (sIf (xB (xOp2 (dEq false) (xVar 0) (xC (.int 18))))
  (sRaise "InvalidName" (xVar 1))
  sNext)
  (sSeq (sIf (xB (xOp2 (dEq false) (xVar 0) (xC (.int 19))))
  (sRaise "HasCore" (xVar 1))
  sNext)
  (sSeq (sIf (xB (xOp2 (dEq false) (xVar 0) (xC (.int 20))))
  (sRaise "NotGood" (xVar 1))
  sNext)
  (sSeq (sIf (xB (xOp2 (dEq false) (xVar 0) (xC (.int 21))))
  (sRaise "UnknownName" (xVar 1))
  sNext)
  (sSeq (sIf (xB (xOp2 (dEq false) (xVar 0) (xC (.int 22))))
  (sRaise "NothingToUndo" (xVar 1))
  sNext)
  (sSeq (sIf (xB (xOp2 (dEq false) (xVar 0) (xC (.int 23))))
  (sRaise "Unreadable" (xVar 1))
  sNext)
  (sRaise "Unorderly" (xVar 1)))))))))))))
noncomputable def m_law_raise_named_first : Fn := fnN 2 2 none
  (sSeq (sIf (xB (xOp2 (dEq false) (xVar 0) (xC (.int 0))))
  (sRaise "InvalidBook" (xVar 1))
  sNext)
  (sSeq (sIf (xB (xOp2 (dEq false) (xVar 0) (xC (.int 1))))
  (sRaise "InvalidWord" (xVar 1))
  sNext)
  (sSeq (sIf (xB (xOp2 (dEq false) (xVar 0) (xC (.int 2))))
  (sRaise "InvalidNumber" (xVar 1))
  sNext)
  (sSeq (sIf (xB (xOp2 (dEq false) (xVar 0) (xC (.int 3))))
  (sRaise "InvalidKey" (xVar 1))
  sNext)
  (sSeq (sIf (xB (xOp2 (dEq false) (xVar 0) (xC (.int 4))))
  (sRaise "InvalidCell" (xVar 1))
  sNext)
  (sSeq (sIf (xB (xOp2 (dEq false) (xVar 0) (xC (.int 5))))
  (sRaise "InvalidRow" (xVar 1))
  sNext)
  (sSeq (sIf (xB (xOp2 (dEq false) (xVar 0) (xC (.int 6))))
  (sRaise "InvalidLot" (xVar 1))
  sNext)
  (sSeq (sIf (xB (xOp2 (dEq false) (xVar 0) (xC (.int 7))))
  (sRaise "InvalidTable" (xVar 1))
  sNext)
  (sSeq (sIf (xB (xOp2 (dEq false) (xVar 0) (xC (.int 8))))
  (sRaise "InvalidValues" (xVar 1))
  sNext)
  (sSeq (sIf (xB (xOp2 (dEq false) (xVar 0) (xC (.int 9))))
  (sRaise "InvalidRoad" (xVar 1))
  sNext)
  (sSeq (sIf (xB (xOp2 (dEq false) (xVar 0) (xC (.int 10))))
  (sRaise "InvalidSeats" (xVar 1))
  sNext)
  (sSeq (sIf (xB (xOp2 (dEq false) (xVar 0) (xC (.int 11))))
  (sRaise "NotFree" (xVar 1))
  sNext)
  (sRaise "NoTable" (xVar 1))))))))))))))
noncomputable def m_law_raise_named_second : Fn := fnN 2 2 none
  (sSeq (sIf (xB (xOp2 (dEq false) (xVar 0) (xC (.int 13))))
  (sRaise "NoSeats" (xVar 1))
  sNext)
  (sSeq (sIf (xB (xOp2 (dEq false) (xVar 0) (xC (.int 14))))
  (sRaise "InvalidPlacing" (xVar 1))
  sNext)
  (sSeq (sIf (xB (xOp2 (dEq false) (xVar 0) (xC (.int 15))))
  (sRaise "InvalidChain" (xVar 1))
  sNext)
  (sSeq (sIf (xB (xOp2 (dEq false) (xVar 0) (xC (.int 16))))
  (sRaise "InvalidMixing" (xVar 1))
  sNext)
  (sSeq (sIf (xB (xOp2 (dEq false) (xVar 0) (xC (.int 17))))
  (sRaise "InvalidFilter" (xVar 1))
  sNext)
  (sSeq (sIf (xB (xOp2 (dEq false) (xVar 0) (xC (.int 18))))
  (sRaise "InvalidName" (xVar 1))
  sNext)
  (sSeq (sIf (xB (xOp2 (dEq false) (xVar 0) (xC (.int 19))))
  (sRaise "HasCore" (xVar 1))
  sNext)
  (sSeq (sIf (xB (xOp2 (dEq false) (xVar 0) (xC (.int 20))))
  (sRaise "NotGood" (xVar 1))
  sNext)
  (sSeq (sIf (xB (xOp2 (dEq false) (xVar 0) (xC (.int 21))))
  (sRaise "UnknownName" (xVar 1))
  sNext)
  (sSeq (sIf (xB (xOp2 (dEq false) (xVar 0) (xC (.int 22))))
  (sRaise "NothingToUndo" (xVar 1))
  sNext)
  (sSeq (sIf (xB (xOp2 (dEq false) (xVar 0) (xC (.int 23))))
  (sRaise "Unreadable" (xVar 1))
  sNext)
  (sRaise "Unorderly" (xVar 1)))))))))))))
noncomputable def m_law_raised : Fn := fnN 3 3 none
  (sIf (bAnd (xB (xOp2 (dLt) (xVar 0) (xC (.int 13)))) (xTru (xVar 2)))
  (sExpr (xCall none m_law_raise_named_first (xCons (xVar 0) (xCons (xVar 1) xNil))))
  (sIf (xB (xOp2 (dLt) (xVar 0) (xC (.int 13))))
  (sExpr (xCall none m_law_raise_first (xCons (xVar 0) (xCons (xVar 1) xNil))))
  (sIf (xTru (xVar 2))
  (sExpr (xCall none m_law_raise_named_second (xCons (xVar 0) (xCons (xVar 1) xNil))))
  (sExpr (xCall none m_law_raise_second (xCons (xVar 0) (xCons (xVar 1) xNil)))))))
noncomputable def m_law_kinds : Fn := fnP 1 2 (some 0)
  (sSeq (sSet 1 (xLst (xCons (xIsC (kitOf rcl kinK "InvalidBook") 0) (xCons (xIsC (kitOf rcl kinK "InvalidWord") 0) (xCons (xIsC (kitOf rcl kinK "InvalidNumber") 0) xNil)))))
  (sSeq (sSet 1 (xOp2 dAdd (xVar 1) (xLst (xCons (xIsC (kitOf rcl kinK "InvalidKey") 0) (xCons (xIsC (kitOf rcl kinK "InvalidCell") 0) (xCons (xIsC (kitOf rcl kinK "InvalidRow") 0) xNil))))))
  (sSeq (sSet 1 (xOp2 dAdd (xVar 1) (xLst (xCons (xIsC (kitOf rcl kinK "InvalidLot") 0) (xCons (xIsC (kitOf rcl kinK "InvalidTable") 0) (xCons (xIsC (kitOf rcl kinK "InvalidValues") 0) xNil))))))
  (sSeq (sSet 1 (xOp2 dAdd (xVar 1) (xLst (xCons (xIsC (kitOf rcl kinK "InvalidRoad") 0) (xCons (xIsC (kitOf rcl kinK "InvalidSeats") 0) (xCons (xIsC (kitOf rcl kinK "NotFree") 0) xNil))))))
  (sSeq (sSet 1 (xOp2 dAdd (xVar 1) (xLst (xCons (xIsC (kitOf rcl kinK "NoTable") 0) (xCons (xIsC (kitOf rcl kinK "NoSeats") 0) (xCons (xIsC (kitOf rcl kinK "InvalidPlacing") 0) xNil))))))
  (sSeq (sSet 1 (xOp2 dAdd (xVar 1) (xLst (xCons (xIsC (kitOf rcl kinK "InvalidChain") 0) (xCons (xIsC (kitOf rcl kinK "InvalidMixing") 0) (xCons (xIsC (kitOf rcl kinK "InvalidFilter") 0) xNil))))))
  (sSeq (sSet 1 (xOp2 dAdd (xVar 1) (xLst (xCons (xIsC (kitOf rcl kinK "InvalidName") 0) (xCons (xIsC (kitOf rcl kinK "HasCore") 0) (xCons (xIsC (kitOf rcl kinK "NotGood") 0) xNil))))))
  (sSeq (sSet 1 (xOp2 dAdd (xVar 1) (xLst (xCons (xIsC (kitOf rcl kinK "UnknownName") 0) (xCons (xIsC (kitOf rcl kinK "NothingToUndo") 0) (xCons (xIsC (kitOf rcl kinK "Unreadable") 0) xNil))))))
  (sRet (xOp2 dAdd (xVar 1) (xLst (xCons (xIsC (kitOf rcl kinK "Unorderly") 0) xNil))))))))))))
noncomputable def m_law_given : Fn := fnP 1 3 (some 0)
  (sSeq (sSet 1 (xOp2 dSub (xCall (some 0) m_law_take (xCons (xVar 0) (xCons (xOp2 dPow (xC (.int 10)) (xC (.int 30))) xNil))) (xOp2 dPow (xC (.int 10)) (xC (.int 29)))))
  (sSeq (sSet 2 (xLst (xCons (xVar 1) (xCons (xCall (some 0) m_law_take (xCons (xVar 0) (xCons (xC (.int 9)) xNil))) (xCons (xC (.str "")) (xCons (xC (.str "a b")) (xCons (xC .none) (xCons (xC (.bool true)) (xCons (xC (.bool false)) (xCons (xTup xNil) (xCons (xTup (xCons (xVar 1) (xCons (xC (.int 1)) xNil))) (xCons (xLst (xCons (xVar 1) (xCons (xC (.str "x")) xNil))) (xCons (xTup (xCons (xTup (xCons (xC (.int 1)) (xCons (xC (.int 2)) xNil))) (xCons (xTup (xCons (xC (.str "a")) (xCons (xTup xNil) xNil))) xNil))) (xCons (xLst xNil) xNil))))))))))))))
  (sSeq (sSet 2 (xOp2 dAdd (xVar 2) (xLst (xCons (xOp1 dNeg (xC (.int 1))) (xCons (xC (.int 0)) xNil)))))
  (sRet (xOp2 dIx (xVar 2) (xCall (some 0) m_law_take (xCons (xVar 0) (xCons (xC (.int 14)) xNil))))))))
noncomputable def m_law_right : Fn := fnP 3 6 none
  (sSeq (sSet 3 (xC .none))
  (sSeq (sTry (tblOf ["TellError", "InvalidBook", "InvalidWord", "InvalidNumber", "InvalidKey", "InvalidCell", "InvalidRow", "InvalidLot", "InvalidTable", "InvalidValues", "InvalidRoad", "InvalidSeats", "NotFree", "NoTable", "NoSeats", "InvalidPlacing", "InvalidChain", "InvalidMixing", "InvalidFilter", "InvalidName", "HasCore", "NotGood", "UnknownName", "NothingToUndo", "Unreadable", "Unorderly"] ["TellError"] [("TellError", "TellError"), ("InvalidBook", "TellError"), ("InvalidWord", "TellError"), ("InvalidNumber", "TellError"), ("InvalidKey", "TellError"), ("InvalidCell", "TellError"), ("InvalidRow", "TellError"), ("InvalidLot", "TellError"), ("InvalidTable", "TellError"), ("InvalidValues", "TellError"), ("InvalidRoad", "TellError"), ("InvalidSeats", "TellError"), ("NotFree", "TellError"), ("NoTable", "TellError"), ("NoSeats", "TellError"), ("InvalidPlacing", "TellError"), ("InvalidChain", "TellError"), ("InvalidMixing", "TellError"), ("InvalidFilter", "TellError"), ("InvalidName", "TellError"), ("HasCore", "TellError"), ("NotGood", "TellError"), ("UnknownName", "TellError"), ("NothingToUndo", "TellError"), ("Unreadable", "TellError"), ("Unorderly", "TellError")])
  (sExpr (xCall none m_law_raised (xCons (xVar 0) (xCons (xVar 1) (xCons (xVar 2) xNil)))))
  [("TellError", some 4, (sMove 3 4))])
  (sSeq (sIf (bOr (xB (xIsX false 3)) (bNot (xTru (xIsC (kitV rcl) 3))))
  (sRet (xC (.bool false)))
  sNext)
  (sRet (xAnd (xOp2 (dEq false) (xCall (some 0) m_law_kinds (xCons (xVar 3) xNil)) (xLc [5] (iRg1 (xC (.int 25))) (tName 5) xYes (xOp2 (dEq false) (xVar 5) (xVar 0)))) (xCall none (m_law_same 12) (xCons (xXval ["TellError", "InvalidBook", "InvalidWord", "InvalidNumber", "InvalidKey", "InvalidCell", "InvalidRow", "InvalidLot", "InvalidTable", "InvalidValues", "InvalidRoad", "InvalidSeats", "NotFree", "NoTable", "NoSeats", "InvalidPlacing", "InvalidChain", "InvalidMixing", "InvalidFilter", "InvalidName", "HasCore", "NotGood", "UnknownName", "NothingToUndo", "Unreadable", "Unorderly"] 3) (xCons (xVar 1) xNil))))))))
noncomputable def m_law_base_right : Fn := fnP 1 3 none
  (sSeq (sSet 1 (xC .none))
  (sSeq (sTry (tblOf ["TellError", "InvalidBook", "InvalidWord", "InvalidNumber", "InvalidKey", "InvalidCell", "InvalidRow", "InvalidLot", "InvalidTable", "InvalidValues", "InvalidRoad", "InvalidSeats", "NotFree", "NoTable", "NoSeats", "InvalidPlacing", "InvalidChain", "InvalidMixing", "InvalidFilter", "InvalidName", "HasCore", "NotGood", "UnknownName", "NothingToUndo", "Unreadable", "Unorderly"] ["TellError"] [("TellError", "TellError"), ("InvalidBook", "TellError"), ("InvalidWord", "TellError"), ("InvalidNumber", "TellError"), ("InvalidKey", "TellError"), ("InvalidCell", "TellError"), ("InvalidRow", "TellError"), ("InvalidLot", "TellError"), ("InvalidTable", "TellError"), ("InvalidValues", "TellError"), ("InvalidRoad", "TellError"), ("InvalidSeats", "TellError"), ("NotFree", "TellError"), ("NoTable", "TellError"), ("NoSeats", "TellError"), ("InvalidPlacing", "TellError"), ("InvalidChain", "TellError"), ("InvalidMixing", "TellError"), ("InvalidFilter", "TellError"), ("InvalidName", "TellError"), ("HasCore", "TellError"), ("NotGood", "TellError"), ("UnknownName", "TellError"), ("NothingToUndo", "TellError"), ("Unreadable", "TellError"), ("Unorderly", "TellError")])
  (sRaise "TellError" (xVar 0))
  [("TellError", some 2, (sMove 1 2))])
  (sSeq (sIf (bOr (bNot (xTru (xIsC (kitV rcl) 1))) (xB (xOp2 (dIn false) (xC (.bool true)) (xCall (some 0) m_law_kinds (xCons (xVar 1) xNil)))))
  (sRet (xC (.bool false)))
  sNext)
  (sRet (xAnd (xCall none (m_law_same 12) (xCons (xXval ["TellError", "InvalidBook", "InvalidWord", "InvalidNumber", "InvalidKey", "InvalidCell", "InvalidRow", "InvalidLot", "InvalidTable", "InvalidValues", "InvalidRoad", "InvalidSeats", "NotFree", "NoTable", "NoSeats", "InvalidPlacing", "InvalidChain", "InvalidMixing", "InvalidFilter", "InvalidName", "HasCore", "NotGood", "UnknownName", "NothingToUndo", "Unreadable", "Unorderly"] 1) (xCons (xVar 0) xNil))) (xCall none (m_law_same 12) (xCons (xErrV (xVar 0)) (xCons (xVar 0) xNil))))))))
noncomputable def m_law : Fn := fnP 1 10 none
  (sSeq (asg (tTupN 2 (tsCons (tName 1) (tsCons (tName 2) tsNil))) (xTup (xCons (xC .none) (xCons (xC .none) xNil))))
  (sSeq (sFor (iRg1 (xOpN dMax (xCons (xC (.int 1)) (xCons (xOpN dMin (xCons (xOpN dLen (xCons (xVar 0) xNil)) (xCons (xC (.int 40)) xNil))) xNil)))) (tName 3)
  (sSeq (sSet 4 (xCall none m_law_deck (xCons (xVar 0) (xCons (xVar 3) xNil))))
  (sSeq (sPar2 5 6 (xCall (some 0) m_law_take (xCons (xVar 4) (xCons (xC (.int 25)) xNil))) (xOp2 (dEq false) (xCall (some 0) m_law_take (xCons (xVar 4) (xCons (xC (.int 2)) xNil))) (xC (.int 1))))
  (sSeq (sPar2 7 8 (xCall (some 0) m_law_given (xCons (xVar 4) xNil)) (xCall (some 0) m_law_given (xCons (xVar 4) xNil)))
  (sSeq (sIf (bOr (bNot (xTru (xCall none m_law_right (xCons (xVar 5) (xCons (xVar 7) (xCons (xVar 6) xNil)))))) (bOr (bNot (xTru (xCall none m_law_right (xCons (xVar 5) (xCons (xVar 8) (xCons (xNot (xVar 6)) xNil)))))) (bNot (xTru (xCall none m_law_base_right (xCons (xVar 8) xNil))))))
  (sRet (xC (.bool false)))
  sNext)
  (sSeq (sTry (tblOf ["TellError", "InvalidBook", "InvalidWord", "InvalidNumber", "InvalidKey", "InvalidCell", "InvalidRow", "InvalidLot", "InvalidTable", "InvalidValues", "InvalidRoad", "InvalidSeats", "NotFree", "NoTable", "NoSeats", "InvalidPlacing", "InvalidChain", "InvalidMixing", "InvalidFilter", "InvalidName", "HasCore", "NotGood", "UnknownName", "NothingToUndo", "Unreadable", "Unorderly"] ["TellError"] [("TellError", "TellError"), ("InvalidBook", "TellError"), ("InvalidWord", "TellError"), ("InvalidNumber", "TellError"), ("InvalidKey", "TellError"), ("InvalidCell", "TellError"), ("InvalidRow", "TellError"), ("InvalidLot", "TellError"), ("InvalidTable", "TellError"), ("InvalidValues", "TellError"), ("InvalidRoad", "TellError"), ("InvalidSeats", "TellError"), ("NotFree", "TellError"), ("NoTable", "TellError"), ("NoSeats", "TellError"), ("InvalidPlacing", "TellError"), ("InvalidChain", "TellError"), ("InvalidMixing", "TellError"), ("InvalidFilter", "TellError"), ("InvalidName", "TellError"), ("HasCore", "TellError"), ("NotGood", "TellError"), ("UnknownName", "TellError"), ("NothingToUndo", "TellError"), ("Unreadable", "TellError"), ("Unorderly", "TellError")])
  (sExpr (xCall none m_law_raised (xCons (xVar 5) (xCons (xVar 7) (xCons (xVar 6) xNil)))))
  [("TellError", some 9, (sMove 1 9))])
  (sSeq (sTry (tblOf ["TellError", "InvalidBook", "InvalidWord", "InvalidNumber", "InvalidKey", "InvalidCell", "InvalidRow", "InvalidLot", "InvalidTable", "InvalidValues", "InvalidRoad", "InvalidSeats", "NotFree", "NoTable", "NoSeats", "InvalidPlacing", "InvalidChain", "InvalidMixing", "InvalidFilter", "InvalidName", "HasCore", "NotGood", "UnknownName", "NothingToUndo", "Unreadable", "Unorderly"] ["TellError"] [("TellError", "TellError"), ("InvalidBook", "TellError"), ("InvalidWord", "TellError"), ("InvalidNumber", "TellError"), ("InvalidKey", "TellError"), ("InvalidCell", "TellError"), ("InvalidRow", "TellError"), ("InvalidLot", "TellError"), ("InvalidTable", "TellError"), ("InvalidValues", "TellError"), ("InvalidRoad", "TellError"), ("InvalidSeats", "TellError"), ("NotFree", "TellError"), ("NoTable", "TellError"), ("NoSeats", "TellError"), ("InvalidPlacing", "TellError"), ("InvalidChain", "TellError"), ("InvalidMixing", "TellError"), ("InvalidFilter", "TellError"), ("InvalidName", "TellError"), ("HasCore", "TellError"), ("NotGood", "TellError"), ("UnknownName", "TellError"), ("NothingToUndo", "TellError"), ("Unreadable", "TellError"), ("Unorderly", "TellError")])
  (sExpr (xCall none m_law_raised (xCons (xVar 5) (xCons (xVar 8) (xCons (xVar 6) xNil)))))
  [("TellError", some 9, (sMove 2 9))])
  (sIf (bOr (bNot (xTru (xCall none (m_law_same 12) (xCons (xXval ["TellError", "InvalidBook", "InvalidWord", "InvalidNumber", "InvalidKey", "InvalidCell", "InvalidRow", "InvalidLot", "InvalidTable", "InvalidValues", "InvalidRoad", "InvalidSeats", "NotFree", "NoTable", "NoSeats", "InvalidPlacing", "InvalidChain", "InvalidMixing", "InvalidFilter", "InvalidName", "HasCore", "NotGood", "UnknownName", "NothingToUndo", "Unreadable", "Unorderly"] 1) (xCons (xVar 7) xNil))))) (bNot (xTru (xCall none (m_law_same 12) (xCons (xXval ["TellError", "InvalidBook", "InvalidWord", "InvalidNumber", "InvalidKey", "InvalidCell", "InvalidRow", "InvalidLot", "InvalidTable", "InvalidValues", "InvalidRoad", "InvalidSeats", "NotFree", "NoTable", "NoSeats", "InvalidPlacing", "InvalidChain", "InvalidMixing", "InvalidFilter", "InvalidName", "HasCore", "NotGood", "UnknownName", "NothingToUndo", "Unreadable", "Unorderly"] 2) (xCons (xVar 8) xNil))))))
  (sRet (xC (.bool false)))
  sNext))))))))
  (sSeq (sFor (iRg1 (xC (.int 25))) (tName 5)
  (sIf (bOr (bNot (xTru (xCall none m_law_right (xCons (xVar 5) (xCons (xVar 5) (xCons (xC (.bool false)) xNil)))))) (bNot (xTru (xCall none m_law_right (xCons (xVar 5) (xCons (xC (.str "a")) (xCons (xC (.bool true)) xNil)))))))
  (sRet (xC (.bool false)))
  sNext))
  (sRet (xC (.bool true))))))
end K00
/-! ### reckoning with the functions of defs -/
namespace Vm
open PySem PySem.Spec PyProof.Rows L2 Ky
theorem append_ok {xs : List D} {d : D} (h : xs.length < sizeLine) : gAppend xs [d] = some (.none, xs ++ [d]) := by show (if xs.length < sizeLine then _ else _) = _; rw [if_pos h]
theorem len_small {α : Type} {xs : List α} (h : xs.length < 10000) : xs.length < sizeLine := by rw [sizeLine_eq]; omega
theorem cMul_of {i j : Int} (h : Builtin.Int.intBits i + Builtin.Int.intBits j ≤ 134217728) : cMul i j = true := by
  unfold cMul
  rw [decide_eq_true (by omega)]
  rfl
theorem cMul_small {i j : Int} (h : -(2 ^ 64) < j) (h2 : j < 2 ^ 64) : cMul i j = true := by
  unfold cMul
  rw [decide_eq_true h, decide_eq_true h2, Bool.and_self, Bool.or_true, Bool.or_true]
theorem bits_of {i : Int} {k : Nat} (h : i.natAbs < 2 ^ k) : Builtin.Int.intBits i ≤ k := PyProof.Rows.intBits_le h
theorem cPow_of {i : Int} {j : Nat} {k : Nat} (h : i.natAbs < 2 ^ k) (h2 : k * j ≤ 134217728) : cPow i (j : Int) = true := by
  have b := bits_of h
  unfold cPow
  have e : (2 : Int) ^ 27 = 134217728 := by decide
  rw [e]
  have h3 : (Builtin.Int.intBits i : Int) * (j : Int) ≤ 134217728 := by
    have : Builtin.Int.intBits i * j ≤ k * j := Nat.mul_le_mul_right j b
    have h4 : Builtin.Int.intBits i * j ≤ 134217728 := by omega
    have h5 : ((Builtin.Int.intBits i * j : Nat) : Int) ≤ ((134217728 : Nat) : Int) := Int.ofNat_le.mpr h4
    rw [Int.natCast_mul] at h5
    exact h5
  rw [decide_eq_true (Int.natCast_nonneg j), decide_eq_true h3]; rfl
section
variable {tgt : XG} {body : XS} {d : D} {ds : List D} {ρ ρ1 ρ2 ρ3 : Env} {r : R} {q : Fl × Env}
theorem sPar2_own {i j : Nat} {f1 f2 : M R} {o1 o2 : Ob} (e : f1 ρ = some (.ok (.own o1), ρ1)) (e2 : f2 ρ1 = some (.ok (.own o2), ρ2)) : sPar2 i j f1 f2 ρ = some (.nx, (ρ2.set i (some (.own o1))).set j (some (.own o2))) := by
  simp [sPar2, e, e2, thw, setR]
theorem xLst_nil : xLst xNil ρ = some (.ok (.own (.lst [])), ρ) := by simp [xLst, M.bind, xNil, M.pure, keepAll]
theorem xTup_nil : xTup xNil ρ = some (.ok (.dat (.tuple [])), ρ) := by simp [xTup, M.bind, xNil, M.pure, keepAll]
theorem forL_nx (h : tgt d ρ = some ρ1) (h2 : body ρ1 = some (.nx, ρ2)) : forL tgt body (d :: ds) ρ = forL tgt body ds ρ2 := by
  simp [forL, h, h2]
theorem forL_rt (h : tgt d ρ = some ρ1) (h2 : body ρ1 = some (.rt r, ρ2)) : forL tgt body (d :: ds) ρ = some (.rt r, ρ2) := by
  simp [forL, h, h2]
theorem forL_bk (h : tgt d ρ = some ρ1) (h2 : body ρ1 = some (.bk, ρ2)) : forL tgt body (d :: ds) ρ = some (.nx, ρ2) := by
  simp [forL, h, h2]
theorem loop_from {P : Nat → Env → Prop} : ∀ (ds : List D) (i : Nat) (ρ : Env), (∀ j (h : j < ds.length) ρ, P (i + j) ρ → ∃ ρ1 ρ2, tgt ds[j] ρ = some ρ1 ∧ body ρ1 = some (.nx, ρ2) ∧ P (i + j + 1) ρ2) → P i ρ → ∃ ρ', forL tgt body ds ρ = some (.nx, ρ') ∧ P (i + ds.length) ρ'
  | [], i, ρ, _, p => ⟨ρ, rfl, p⟩
  | d :: ds, i, ρ, hs, p => by
    obtain ⟨ρ1, ρ2, e1, e2, p2⟩ := hs 0 (by simp) ρ p
    have e1 : tgt d ρ = some ρ1 := e1
    obtain ⟨ρ', e3, p3⟩ := loop_from ds (i + 1) ρ2 (fun j h ρ q => by
      have := hs (j + 1) (by simpa using h) ρ (by rw [show i + (j + 1) = i + 1 + j by omega]; exact q)
      rw [show i + (j + 1) + 1 = i + 1 + j + 1 by omega] at this
      exact this) p2
    exact ⟨ρ', by rw [forL_nx e1 e2]; exact e3, by rw [List.length_cons, show i + (ds.length + 1) = i + 1 + ds.length by omega]; exact p3⟩
/-- a loop that goes to its end -/
theorem loop_inv {P : Nat → Env → Prop} (ds : List D) {ρ : Env} (h0 : P 0 ρ) (hs : ∀ j (h : j < ds.length) ρ, P j ρ → ∃ ρ1 ρ2, tgt ds[j] ρ = some ρ1 ∧ body ρ1 = some (.nx, ρ2) ∧ P (j + 1) ρ2) : ∃ ρ', forL tgt body ds ρ = some (.nx, ρ') ∧ P ds.length ρ' := by
  have := loop_from (tgt := tgt) (body := body) (P := P) ds 0 ρ (fun j h ρ p => by rw [Nat.zero_add] at p ⊢; exact hs j h ρ p) h0
  rw [Nat.zero_add] at this
  exact this
theorem lc_from {vs : List Nat} {fe : M R} {P : Nat → Env → Prop} {Qd : D → Prop} : ∀ (ds : List D) (i : Nat) (ρ : Env), (∀ j (h : j < ds.length) ρ, P (i + j) ρ → ∃ ρ1 d ρ3, tgt ds[j] ρ = some ρ1 ∧ fe ρ1 = some (.ok (.dat d), ρ3) ∧ Qd d ∧ P (i + j + 1) (kill ρ3 vs)) → P i ρ →
    ∃ out ρ', lcL vs tgt xYes fe ds ρ = some (out, ρ') ∧ P (i + ds.length) ρ' ∧ out.length = ds.length ∧ ∀ d ∈ out, Qd d
  | [], i, ρ, _, p => ⟨[], ρ, rfl, p, rfl, fun _ z => by cases z⟩
  | d :: ds, i, ρ, hs, p => by
    obtain ⟨ρ1, d', ρ3, e1, e2, qd, p2⟩ := hs 0 (by simp) ρ p
    have e1 : tgt d ρ = some ρ1 := e1
    obtain ⟨out, ρ', e3, p3, hl, hq⟩ := lc_from (vs := vs) (fe := fe) (Qd := Qd) ds (i + 1) (kill ρ3 vs) (fun j h ρ q => by
      have := hs (j + 1) (by simpa using h) ρ (by rw [show i + (j + 1) = i + 1 + j by omega]; exact q)
      rw [show i + (j + 1) + 1 = i + 1 + j + 1 by omega] at this
      exact this) p2
    refine ⟨d' :: out, ρ', ?_, by rw [List.length_cons, show i + (ds.length + 1) = i + 1 + ds.length by omega]; exact p3, by rw [List.length_cons, List.length_cons, hl], fun x hx => ?_⟩
    · have ey : ∀ ρ, xYes ρ = some (.ok true, ρ) := fun _ => rfl
      simp [lcL, e1, ey, e2, keepR, e3]
    · rcases List.mem_cons.mp hx with rfl | h
      · exact qd
      · exact hq x h
theorem lc_inv {vs : List Nat} {fe : M R} {fi : M IR} {P : Nat → Env → Prop} {Qd : D → Prop} {ds : List D} (e : fi ρ = some (.ok ⟨ds, none⟩, ρ1)) (hz : ds.length < 10000) (h0 : P 0 (kill ρ1 vs)) (hs : ∀ j (h : j < ds.length) ρ, P j ρ → ∃ ρ1 d ρ3, tgt ds[j] ρ = some ρ1 ∧ fe ρ1 = some (.ok (.dat d), ρ3) ∧ Qd d ∧ P (j + 1) (kill ρ3 vs)) :
    ∃ out ρ', xLc vs fi tgt xYes fe ρ = some (.ok (.own (.lst out)), kill ρ' vs) ∧ P ds.length ρ' ∧ out.length = ds.length ∧ ∀ d ∈ out, Qd d := by
  obtain ⟨out, ρ', e2, p, hl, hq⟩ := lc_from (tgt := tgt) (fe := fe) (P := P) (Qd := Qd) ds 0 (kill ρ1 vs) (fun j h ρ p => by rw [Nat.zero_add] at p ⊢; exact hs j h ρ p) h0
  rw [Nat.zero_add] at p
  have small : out.length ≤ sizeLine := by rw [hl, sizeLine_eq]; omega
  have e3 : lcL vs tgt xYes fe ds (kill (pinE none ρ1) vs) = some (out, ρ') := e2
  refine ⟨out, ρ', ?_, p, hl, hq⟩
  simp [xLc, M.bind, e, e3, small, unpinE]
theorem lc_invP {vs : List Nat} {fe : M R} {fi : M IR} {ps : Option Nat} {P : Nat → Env → Prop} {Qd : D → Prop} {ds : List D} (e : fi ρ = some (.ok ⟨ds, ps⟩, ρ1)) (hz : ds.length < 10000) (h0 : P 0 (kill (pinE ps ρ1) vs)) (hs : ∀ j (h : j < ds.length) ρ, P j ρ → ∃ ρ1 d ρ3, tgt ds[j] ρ = some ρ1 ∧ fe ρ1 = some (.ok (.dat d), ρ3) ∧ Qd d ∧ P (j + 1) (kill ρ3 vs)) :
    ∃ out ρ', xLc vs fi tgt xYes fe ρ = some (.ok (.own (.lst out)), unpinE ps ρ1 (kill ρ' vs)) ∧ P ds.length ρ' ∧ out.length = ds.length ∧ ∀ d ∈ out, Qd d := by
  obtain ⟨out, ρ', e2, p, hl, hq⟩ := lc_from (tgt := tgt) (fe := fe) (P := P) (Qd := Qd) ds 0 (kill (pinE ps ρ1) vs) (fun j h ρ p => by rw [Nat.zero_add] at p ⊢; exact hs j h ρ p) h0
  rw [Nat.zero_add] at p
  have small : out.length ≤ sizeLine := by rw [hl, sizeLine_eq]; omega
  refine ⟨out, ρ', ?_, p, hl, hq⟩
  simp [xLc, M.bind, e, e2, small]
/-- a list made item by item, by tests, nothing else changed -/
theorem lcL_pure {vs : List Nat} {ft : M Bool} {fe : M R} {b : D → Bool} {h : D → D} : ∀ {ds : List D} {ρ0 : Env}, (∀ d ∈ ds, ∃ ρ1 ρ2, tgt d ρ0 = some ρ1 ∧ ft ρ1 = some (.ok (b d), ρ2) ∧ (b d = true → ∃ ρ3, fe ρ2 = some (.ok (.dat (h d)), ρ3) ∧ kill ρ3 vs = ρ0) ∧ (b d = false → kill ρ2 vs = ρ0)) →
    lcL vs tgt ft fe ds ρ0 = some ((ds.filter b).map h, ρ0)
  | [], ρ0, _ => rfl
  | d :: ds, ρ0, hs => by
    obtain ⟨ρ1, ρ2, e1, e2, e3, e4⟩ := hs d List.mem_cons_self
    have ih := lcL_pure (vs := vs) (ft := ft) (fe := fe) (b := b) (h := h) (ds := ds) (ρ0 := ρ0) fun x hx => hs x (List.mem_cons_of_mem _ hx)
    cases hb : b d with
    | true =>
      obtain ⟨ρ3, e5, e6⟩ := e3 hb
      rw [hb] at e2
      simp [lcL, e1, e2, e5, keepR, e6, ih, hb]
    | false =>
      have e5 := e4 hb
      rw [hb] at e2
      simp [lcL, e1, e2, e5, ih, hb]
theorem lc_pure {vs : List Nat} {ft : M Bool} {fe : M R} {fi : M IR} {ps : Option Nat} {b : D → Bool} {h : D → D} (e : fi ρ = some (.ok ⟨ds, ps⟩, ρ1)) (hz : ds.length < 10000) (hs : ∀ d ∈ ds, ∃ ρ2 ρ3, tgt d (kill (pinE ps ρ1) vs) = some ρ2 ∧ ft ρ2 = some (.ok (b d), ρ3) ∧ (b d = true → ∃ ρ4, fe ρ3 = some (.ok (.dat (h d)), ρ4) ∧ kill ρ4 vs = kill (pinE ps ρ1) vs) ∧ (b d = false → kill ρ3 vs = kill (pinE ps ρ1) vs)) :
    xLc vs fi tgt ft fe ρ = some (.ok (.own (.lst ((ds.filter b).map h))), unpinE ps ρ1 (kill (kill (pinE ps ρ1) vs) vs)) := by
  have k := lcL_pure (vs := vs) (tgt := tgt) (ft := ft) (fe := fe) (b := b) (h := h) hs
  have small : ((ds.filter b).map h).length ≤ sizeLine := by
    have := List.length_filter_le b ds
    rw [List.length_map, sizeLine_eq]; omega
  have small' : (ds.filter b).length ≤ sizeLine := by simpa using small
  simp [xLc, M.bind, e, k, small']
theorem lc_map {vs : List Nat} {fe : M R} {fi : M IR} {ps : Option Nat} {h : D → D} (e : fi ρ = some (.ok ⟨ds, ps⟩, ρ1)) (hz : ds.length < 10000) (hs : ∀ d ∈ ds, ∃ ρ2 ρ4, tgt d (kill (pinE ps ρ1) vs) = some ρ2 ∧ fe ρ2 = some (.ok (.dat (h d)), ρ4) ∧ kill ρ4 vs = kill (pinE ps ρ1) vs) :
    xLc vs fi tgt xYes fe ρ = some (.ok (.own (.lst (ds.map h))), unpinE ps ρ1 (kill (kill (pinE ps ρ1) vs) vs)) := by
  have := lc_pure (vs := vs) (tgt := tgt) (ft := xYes) (fe := fe) (b := fun _ => true) (h := h) e hz (fun d hd => by
    obtain ⟨ρ2, ρ4, e1, e2, e3⟩ := hs d hd
    exact ⟨ρ2, ρ2, e1, rfl, fun _ => ⟨ρ4, e2, e3⟩, fun z => by cases z⟩)
  have f : ds.filter (fun _ => true) = ds := List.filter_eq_self.mpr fun _ _ => rfl
  rw [f] at this
  exact this
theorem sSeq_nx {g h : XS} (e : g ρ = some (.nx, ρ1)) : sSeq g h ρ = h ρ1 := by unfold sSeq; rw [e]
theorem sSeq_rt {g h : XS} (e : g ρ = some (.rt r, ρ1)) : sSeq g h ρ = some (.rt r, ρ1) := by unfold sSeq; rw [e]
theorem sFor_eq {fi : M IR} {ps : Option Nat} (e : fi ρ = some (.ok ⟨ds, ps⟩, ρ1)) (e2 : forL tgt body ds (pinE ps ρ1) = some q) : sFor fi tgt body ρ = some (q.1, unpinE ps ρ1 q.2) := by
  simp [sFor, e, e2]
theorem sIf_t {ft : M Bool} {g h : XS} (e : ft ρ = some (.ok true, ρ1)) : sIf ft g h ρ = g ρ1 := by simp [sIf, e]
theorem sIf_f {ft : M Bool} {g h : XS} (e : ft ρ = some (.ok false, ρ1)) : sIf ft g h ρ = h ρ1 := by simp [sIf, e]
theorem sSet_dat {fa : M R} {i : Nat} (e : fa ρ = some (.ok (.dat d), ρ1)) : sSet i fa ρ = some (.nx, ρ1.set i (some (.dat d))) := by unfold sSet; rw [e]; rfl
theorem sSet_own {fa : M R} {i : Nat} {o : Ob} (e : fa ρ = some (.ok (.own o), ρ1)) : sSet i fa ρ = some (.nx, ρ1.set i (some (.own o))) := by unfold sSet; rw [e]; rfl
theorem sRet_eq {fa : M R} (e : fa ρ = some (.ok r, ρ1)) : sRet fa ρ = some (.rt r, ρ1) := by unfold sRet; rw [e]
theorem sExpr_eq {fa : M R} (e : fa ρ = some (.ok r, ρ1)) : sExpr fa ρ = some (.nx, ρ1) := by unfold sExpr; rw [e]
theorem fnP_eq {n m : Nat} {rf : Rf} {g : XS} {cs : List C} {res : R} {ob : Option Ob} (hn : cs.length = n) (e : g (cs.map some ++ List.replicate (m - cs.length) none) = some q) (f : finF rf q = some (.ok res, ob)) : fnP n m rf g cs = some (.ok res, ob) := by
  unfold fnP okF fnN
  rw [if_pos hn]
  unfold fnOf
  rw [e]
  show ((finF rf q).bind _) = _
  rw [f]
  rfl
/-- one argument, the next -/
theorem xCons_eq {fa : M R} {fr : M (List R)} {rs : List R} (e : fa ρ = some (.ok r, ρ1)) (e2 : fr ρ1 = some (.ok rs, ρ2)) : xCons fa fr ρ = some (.ok (r :: rs), ρ2) := by
  simp [xCons, M.bind, M.pure, e, e2]
theorem xNil_eq : xNil ρ = some (.ok [], ρ) := rfl
theorem xCall_eq {rf : Rf} {f : Fn} {fr : M (List R)} {rs : List R} {cs : List C} {ob : Option Ob} (e : fr ρ = some (.ok rs, ρ1)) (a : argsC rf ρ1 0 rs = some cs) (h : f cs = some (.ok r, ob))
    (hs : (slotsC ρ1 rs).Nodup ∧ ((slotsC ρ1 rs).length ≤ (if rf.isSome then 1 else 0) ∨ (immX (.ok r) && immO ob) = true)) : xCall rf f fr ρ = some (.ok r, putOb rf rs ob ρ1) := by
  have h2 : callK rf f rs ρ1 = some (.ok r, putOb rf rs ob ρ1) := by
    unfold callK
    rw [a]
    show ((f cs).bind _) = _
    rw [h]
    show (if _ then _ else _) = _
    rw [if_pos hs]
  simp [xCall, M.bind, e, h2]
theorem xVar_own {i : Nat} {o : Ob} (h : ρ[i]? = some (some (.own o))) : xVar i ρ = some (.ok (.slot i), ρ) := by unfold xVar; rw [h]
theorem look_own {i : Nat} {o : Ob} (h : ρ[i]? = some (some (.own o))) : look ρ (.slot i) = o.view := by show obAt ρ i = _; unfold obAt; rw [h]
/-- T(deck, d), the deck in slot 0 -/
theorem call1_eq {T : Fn} {o o1 : Ob} {fa : M R} {d : D} (h0 : ρ[0]? = some (some (.own o))) (e : fa ρ = some (.ok (.dat d), ρ)) (k : T [.own o, .dat d] = some (.ok r, some o1)) :
    xCall (some 0) T (xCons (xVar 0) (xCons fa xNil)) ρ = some (.ok r, ρ.set 0 (some (.own o1))) := by
  have := xCall_eq (rf := some 0) (f := T) (cs := [.own o, .dat d]) (ob := some o1) (r := r) (xCons_eq (xVar_own h0) (xCons_eq e xNil_eq)) (by simp [argsC, h0, kd]) k (by simp [slotsC, h0])
  exact this
theorem call2_eq {T : Fn} {o o1 : Ob} {fa fb : M R} {d d2 : D} (h0 : ρ[0]? = some (some (.own o))) (e : fa ρ = some (.ok (.dat d), ρ)) (e2 : fb ρ = some (.ok (.dat d2), ρ)) (k : T [.own o, .dat d, .dat d2] = some (.ok r, some o1)) :
    xCall (some 0) T (xCons (xVar 0) (xCons fa (xCons fb xNil))) ρ = some (.ok r, ρ.set 0 (some (.own o1))) := by
  have := xCall_eq (rf := some 0) (f := T) (cs := [.own o, .dat d, .dat d2]) (ob := some o1) (r := r) (xCons_eq (xVar_own h0) (xCons_eq e (xCons_eq e2 xNil_eq))) (by simp [argsC, h0, kd]) k (by simp [slotsC, h0])
  exact this
theorem len_own {j : Nat} {xs : List D} (h : ρ[j]? = some (some (.own (.lst xs)))) : xOpN dLen (xCons (xVar j) xNil) ρ = some (.ok (.dat (.int xs.length)), ρ) := by
  have h2 := look_own h
  simp [xOpN, M.bind, xCons, xNil, M.pure, xVar_own h, opN, looks, h2, Ob.view, dLen]
theorem meth1_eq {gP : List D → List D → Option (D × List D)} {j : Nat} {ys xs xs' : List D} {e d' : D} {fa : M R} (h : ρ[j]? = some (some (.own (.lst ys)))) (ea : fa ρ = some (.ok (.dat e), ρ1)) (h1 : ρ1[j]? = some (some (.own (.lst xs)))) (g : gP xs [e] = some (d', xs')) :
    xMeth j gP (xCons fa xNil) ρ = some (.ok (.dat d'), ρ1.set j (some (.own (.lst xs')))) := by
  simp [xMeth, h, xMethB, M.bind, xCons, xNil, M.pure, ea, keepAll, keepR, h1, g]
/-- T(deck, x), x a new list -/
theorem call1_own {T : Fn} {o o1 : Ob} {fa : M R} {xs : List D} (h0 : ρ[0]? = some (some (.own o))) (e : fa ρ = some (.ok (.own (.lst xs)), ρ)) (k : T [.own o, .dat (.list xs)] = some (.ok r, some o1)) :
    xCall (some 0) T (xCons (xVar 0) (xCons fa xNil)) ρ = some (.ok r, ρ.set 0 (some (.own o1))) := by
  have := xCall_eq (rf := some 0) (f := T) (cs := [.own o, .dat (.list xs)]) (ob := some o1) (r := r) (xCons_eq (xVar_own h0) (xCons_eq e xNil_eq)) (by simp [argsC, h0, kd, Ob.toD]) k (by simp [slotsC, h0])
  exact this
/-- T(deck, x), x the list of another slot, which is data from then on only in the call -/
theorem call1_own' {T : Fn} {o o1 : Ob} {j : Nat} {xs : List D} {r : R} (h0 : ρ[0]? = some (some (.own o))) (hj : ρ[j]? = some (some (.own (.lst xs)))) (n : j ≠ 0) (k : T [.own o, .dat (.list xs)] = some (.ok r, some o1)) (im : (immX (.ok r) && immO (some o1)) = true := by rfl) :
    xCall (some 0) T (xCons (xVar 0) (xCons (xVar j) xNil)) ρ = some (.ok r, ρ.set 0 (some (.own o1))) := by
  have := xCall_eq (rf := some 0) (f := T) (cs := [.own o, .dat (.list xs)]) (ob := some o1) (r := r) (xCons_eq (xVar_own h0) (xCons_eq (xVar_own hj) xNil_eq)) (by simp [argsC, h0, hj, kd, Ob.toD]) k (by simp [slotsC, h0, hj]; exact ⟨fun z => n z.symm, by simpa using im⟩)
  exact this
theorem call2_own {T : Fn} {o o1 : Ob} {fa fb : M R} {xs : List D} {d2 : D} (h0 : ρ[0]? = some (some (.own o))) (e : fa ρ = some (.ok (.own (.lst xs)), ρ)) (e2 : fb ρ = some (.ok (.dat d2), ρ)) (k : T [.own o, .dat (.list xs), .dat d2] = some (.ok r, some o1)) :
    xCall (some 0) T (xCons (xVar 0) (xCons fa (xCons fb xNil))) ρ = some (.ok r, ρ.set 0 (some (.own o1))) := by
  have := xCall_eq (rf := some 0) (f := T) (cs := [.own o, .dat (.list xs), .dat d2]) (ob := some o1) (r := r) (xCons_eq (xVar_own h0) (xCons_eq e (xCons_eq e2 xNil_eq))) (by simp [argsC, h0, kd, Ob.toD]) k (by simp [slotsC, h0])
  exact this
theorem xOp1_eq {g : D → Option R} {fa : M R} {d1 : D} (e : fa ρ = some (.ok (.dat d1), ρ1)) (h : g d1 = some r) : xOp1 g fa ρ = some (.ok r, ρ1) := by
  simp [xOp1, M.bind, e, op1, look, h]
theorem dListR1_int (j : Int) : dListR1 (.int j) = if cL 0 j then some (.own (.lst (rngD 0 j))) else none := rfl
theorem listRg_eq {fa : M R} {n : Nat} (e : fa ρ = some (.ok (.dat (.int n)), ρ1)) (h : n < 100000) : xListRg1 fa ρ = some (.ok (.own (.lst (rngD 0 n))), ρ1) := by
  have c : cL 0 (n : Int) = true := by
    unfold cL cR
    rw [decide_eq_true (by omega), decide_eq_true (by omega), decide_eq_true (by omega), decide_eq_true (by omega), decide_eq_true (by omega)]
    rfl
  have h2 : dListR1 (.int (n : Int)) = some (.own (.lst (rngD 0 n))) := by
    rw [dListR1_int, if_pos c]
  exact xOp1_eq e h2
theorem rngD_len (n : Nat) : (rngD 0 (n : Int)).length = n := by unfold rngD; simp
theorem rngD_at {n j : Nat} (h : j < (rngD 0 (n : Int)).length) : (rngD 0 (n : Int))[j] = .int j := by unfold rngD; simp
theorem rngD_ints (n : Nat) : rngD 0 (n : Int) = ((List.range n).map fun k : Nat => (k : Int)).map .int := by
  unfold rngD
  rw [List.map_map]
  simp
theorem cut_take {α : Type} {xs : List α} {k : Nat} : cut xs none (some (k : Int)) = xs.take k := by
  unfold cut
  rw [HT.sIx_none, HT.sIx_nat]
  simp
theorem atI_nat' {α : Type} {xs : List α} {k : Nat} (h : k < xs.length) : L2.atI xs (k : Int) = some xs[k] := by
  rw [L2.atI_nat (v := xs[k]) (by simp [h])]
theorem ix_own {j i : Nat} {xs : List D} {fa : M R} (h : ρ[j]? = some (some (.own (.lst xs)))) (e : fa ρ = some (.ok (.dat (.int (i : Nat))), ρ1)) (h1 : ρ1[j]? = some (some (.own (.lst xs)))) (hi : i < xs.length) : xOp2 dIx (xVar j) fa ρ = some (.ok (.dat xs[i]), ρ1) := by
  have h2 := look_own h1
  have h3 := atI_nat' hi
  have h4 : dIx (.list xs) (.int (i : Int)) = some (.dat xs[i]) := by
    show (L2.atI xs (i : Int)).map _ = _
    rw [h3]; rfl
  have h5 : look ρ1 (.dat (.int (i : Int))) = some (.int (i : Int)) := rfl
  simp [xOp2, M.bind, xVar_own h, e, op2, h2, h5, Ob.view, h4]
theorem xIf_t {ft : M Bool} {fa fb : M R} (e : ft ρ = some (.ok true, ρ1)) : xIf ft fa fb ρ = fa ρ1 := by simp [xIf, M.bind, e]
theorem xIf_f {ft : M Bool} {fa fb : M R} (e : ft ρ = some (.ok false, ρ1)) : xIf ft fa fb ρ = fb ρ1 := by simp [xIf, M.bind, e]
theorem bAnd_t {ft fs : M Bool} (e : ft ρ = some (.ok true, ρ1)) : bAnd ft fs ρ = fs ρ1 := by simp [bAnd, M.bind, e]
theorem bAnd_f {ft fs : M Bool} (e : ft ρ = some (.ok false, ρ1)) : bAnd ft fs ρ = some (.ok false, ρ1) := by simp [bAnd, M.bind, M.pure, e]
theorem bOr_f {ft fs : M Bool} (e : ft ρ = some (.ok false, ρ1)) : bOr ft fs ρ = fs ρ1 := by simp [bOr, M.bind, e]
theorem bOr_t {ft fs : M Bool} (e : ft ρ = some (.ok true, ρ1)) : bOr ft fs ρ = some (.ok true, ρ1) := by simp [bOr, M.bind, M.pure, e]
theorem xVar_dat {i : Nat} {d : D} (h : ρ[i]? = some (some (.dat d))) : xVar i ρ = some (.ok (.dat d), ρ) := by unfold xVar; rw [h]
theorem sorted_tup {fa : M R} {ns : List Int} (e : fa ρ = some (.ok (.dat (.tuple (ns.map .int))), ρ1)) : xOpN dSort (xCons fa xNil) ρ = some (.ok (.own (.lst ((srt ns).map .int))), ρ1) := by
  simp [xOpN, M.bind, xCons, xNil, M.pure, e, opN, looks, look, dSort, toInts_map]
theorem xOp2_eq {g : D → D → Option R} {fa fb : M R} {d1 d2 : D} (e : fa ρ = some (.ok (.dat d1), ρ1)) (e2 : fb ρ1 = some (.ok (.dat d2), ρ2)) (h : g d1 d2 = some r) : xOp2 g fa fb ρ = some (.ok r, ρ2) := by
  simp [xOp2, M.bind, e, e2, op2, look, h]
theorem ix_new {i : Nat} {xs : List D} {fa fb : M R} (h : fa ρ = some (.ok (.own (.lst xs)), ρ1)) (e : fb ρ1 = some (.ok (.dat (.int (i : Nat))), ρ2)) (hi : i < xs.length) : xOp2 dIx fa fb ρ = some (.ok (.dat xs[i]), ρ2) := by
  have h3 := atI_nat' hi
  have h4 : dIx (.list xs) (.int (i : Int)) = some (.dat xs[i]) := by
    show (L2.atI xs (i : Int)).map _ = _
    rw [h3]; rfl
  have h5 : look ρ2 (.dat (.int (i : Int))) = some (.int (i : Int)) := rfl
  have h6 : look ρ2 (.own (.lst xs)) = some (.list xs) := rfl
  simp [xOp2, M.bind, h, e, op2, h5, h6, h4]
theorem xLst_dats {fr : M (List R)} {ds : List D} (e : fr ρ = some (.ok (ds.map .dat), ρ1)) (h : ds.length < 10000) : xLst fr ρ = some (.ok (.own (.lst ds)), ρ1) := by
  have k : ∀ ds : List D, keepAll (ds.map R.dat) ρ1 = some (ds, ρ1) := fun ds => by
    induction ds with
    | nil => rfl
    | cons d ds ih => simp [keepAll, keepR, ih]
  have small : ds.length ≤ sizeLine := by rw [sizeLine_eq]; omega
  simp [xLst, M.bind, e, k, small]
theorem xTup_dats {fr : M (List R)} {ds : List D} (e : fr ρ = some (.ok (ds.map .dat), ρ1)) (h : ds.length < 10000) : xTup fr ρ = some (.ok (.dat (.tuple ds)), ρ1) := by
  have k : ∀ ds : List D, keepAll (ds.map R.dat) ρ1 = some (ds, ρ1) := fun ds => by
    induction ds with
    | nil => rfl
    | cons d ds ih => simp [keepAll, keepR, ih]
  have small : ds.length ≤ sizeLine := by rw [sizeLine_eq]; omega
  simp [xTup, M.bind, e, k, small]
theorem asg_eq {tgt : XG} {fa : M R} {d : D} (e : fa ρ = some (.ok (.dat d), ρ1)) (h : tgt d ρ1 = some ρ2) : asg tgt fa ρ = some (.nx, ρ2) := by
  simp [asg, e, keepR, h]
theorem dEq_int (a b : Int) : dEq false (.int a) (.int b) = some (.dat (.bool (decide (a = b)))) := by
  have : PyData.eqv (.int a) (.int b) = decide (a = b) := by
    simp [PyData.eqv]
    exact Bool.eq_iff_iff.mpr (by simp)
  unfold dEq
  rw [this]
  rfl
theorem xSl_own {fa : M R} {k : Nat} {fk : M R} {xs : List D} (e : fa ρ = some (.ok (.own (.lst xs)), ρ1)) (e2 : fk ρ1 = some (.ok (.dat (.int k)), ρ2)) : xSl fa xNoPart (xPart fk) ρ = some (.ok (.own (.lst (xs.take k))), ρ2) := by
  have h : dSl (.list xs) none (some (k : Int)) = some (.own (.lst (cut xs none (some (k : Int))))) := rfl
  rw [cut_take] at h
  have h5 : look ρ2 (.dat (.int (k : Int))) = some (.int (k : Int)) := rfl
  have h6 : look ρ2 (.own (.lst xs)) = some (.list xs) := rfl
  simp [xSl, xNoPart, xPart, M.bind, M.pure, e, e2, h5, h6, h]
theorem dAdd_lst {xs ys : List D} (h : xs.length + ys.length ≤ sizeLine) : dAdd (.list xs) (.list ys) = some (.own (.lst (xs ++ ys))) := by
  have : dAdd (.list xs) (.list ys) = if xs.length + ys.length ≤ sizeLine then some (.own (.lst (xs ++ ys))) else none := rfl
  rw [this, if_pos h]
theorem add_slots {i j : Nat} {xs ys : List D} (h : ρ[i]? = some (some (.own (.lst xs)))) (h2 : ρ[j]? = some (some (.own (.lst ys)))) (hz : xs.length + ys.length < 10000) : xOp2 dAdd (xVar i) (xVar j) ρ = some (.ok (.own (.lst (xs ++ ys))), ρ) := by
  have k := dAdd_lst (xs := xs) (ys := ys) (by rw [sizeLine_eq]; omega)
  simp [xOp2, M.bind, xVar_own h, xVar_own h2, op2, look_own h, look_own h2, Ob.view, k]
theorem iSq_own {j : Nat} {xs : List D} (h : ρ[j]? = some (some (.own (.lst xs)))) : iSq (xVar j) ρ = some (.ok ⟨xs, some j⟩, ρ) := by
  simp [iSq, M.bind, xVar_own h, look_own h, Ob.view, pinOf]
theorem set_of {fa : M R} {xs : List Int} (e : fa ρ = some (.ok (.own (.lst (xs.map .int))), ρ1)) (hz : xs.length ≤ 60) : xOpN dSet (xCons fa xNil) ρ = some (.ok (.own (.set (asc xs))), ρ1) := by
  have k : dSet [.list (xs.map .int)] = some (.own (.set (asc xs))) := by
    show (toInts (xs.map .int)).bind _ = _
    rw [toInts_map]
    show (if xs.length ≤ 1000 then _ else _) = _
    rw [if_pos (by omega)]
  have h6 : look ρ1 (.own (.lst (xs.map .int))) = some (.list (xs.map .int)) := rfl
  simp [xOpN, M.bind, xCons, xNil, M.pure, e, opN, looks, h6, k]
theorem sorted_set {fa : M R} {xs : List Int} (e : fa ρ = some (.ok (.own (.set xs)), ρ1)) (hz : xs.length < 64) : xOpN dSort (xCons fa xNil) ρ = some (.ok (.own (.lst (xs.map .int))), ρ1) := by
  have k : dSort [setD xs] = some (.own (.lst (xs.map .int))) := by
    have h64 : (xs.map PyData.int).length < 64 := by simpa using hz
    simp only [setD, dSort, dSorted, isSet_setD, Option.bind_some]
    rw [if_pos h64]
  have h6 : look ρ1 (.own (.set xs)) = some (setD xs) := rfl
  simp [xOpN, M.bind, xCons, xNil, M.pure, e, opN, looks, h6, k]
theorem xVar_pin {i : Nat} {o : Ob} (h : ρ[i]? = some (some (.pin o))) : xVar i ρ = some (.ok (.slot i), ρ) := by unfold xVar; rw [h]
theorem look_pin {i : Nat} {o : Ob} (h : ρ[i]? = some (some (.pin o))) : look ρ (.slot i) = o.view := by show obAt ρ i = _; unfold obAt; rw [h]
theorem ix_pin {j i : Nat} {xs : List D} {fa : M R} (h : ρ[j]? = some (some (.pin (.lst xs)))) (e : fa ρ = some (.ok (.dat (.int (i : Nat))), ρ1)) (h1 : ρ1[j]? = some (some (.pin (.lst xs)))) (hi : i < xs.length) : xOp2 dIx (xVar j) fa ρ = some (.ok (.dat xs[i]), ρ1) := by
  have h2 := look_pin h1
  have h3 := atI_nat' hi
  have h4 : dIx (.list xs) (.int (i : Int)) = some (.dat xs[i]) := by
    show (L2.atI xs (i : Int)).map _ = _
    rw [h3]; rfl
  have h5 : look ρ1 (.dat (.int (i : Int))) = some (.int (i : Int)) := rfl
  simp [xOp2, M.bind, xVar_pin h, e, op2, h2, h5, Ob.view, h4]
theorem dMod_eq {a b : Int} (h : 0 < b) : dMod (.int a) (.int b) = some (.dat (.int (a % b))) := by
  have : dMod (.int a) (.int b) = if cPos a b then some (.dat (.int (a % b))) else none := rfl
  rw [this, if_pos]
  exact decide_eq_true h
theorem xSl_tup {fa : M R} {k : Nat} {fk : M R} {xs : List D} (e : fa ρ = some (.ok (.dat (.tuple xs)), ρ1)) (e2 : fk ρ1 = some (.ok (.dat (.int k)), ρ2)) : xSl fa xNoPart (xPart fk) ρ = some (.ok (.dat (.tuple (xs.take k))), ρ2) := by
  have h : dSl (.tuple xs) none (some (k : Int)) = some (.dat (.tuple (cut xs none (some (k : Int))))) := rfl
  rw [cut_take] at h
  have h5 : look ρ2 (.dat (.int (k : Int))) = some (.int (k : Int)) := rfl
  have h6 : look ρ2 (.dat (.tuple xs)) = some (.tuple xs) := rfl
  simp [xSl, xNoPart, xPart, M.bind, M.pure, e, e2, h5, h6, h]
theorem cut_drop {α : Type} {xs : List α} {k : Nat} : cut xs (some (k : Int)) none = xs.drop k := by
  unfold cut
  rw [HT.sIx_none, HT.sIx_nat]
  by_cases h : k ≤ xs.length
  · rw [Nat.min_eq_left h, List.take_of_length_le (by simp)]
  · rw [Nat.min_eq_right (by omega)]
    simp
    omega
theorem xSl_dropT {fa : M R} {k : Nat} {fk : M R} {xs : List D} (e : fa ρ = some (.ok (.dat (.tuple xs)), ρ1)) (e2 : fk ρ1 = some (.ok (.dat (.int k)), ρ2)) : xSl fa (xPart fk) xNoPart ρ = some (.ok (.dat (.tuple (xs.drop k))), ρ2) := by
  have h : dSl (.tuple xs) (some (k : Int)) none = some (.dat (.tuple (cut xs (some (k : Int)) none))) := rfl
  rw [cut_drop] at h
  have h5 : look ρ2 (.dat (.int (k : Int))) = some (.int (k : Int)) := rfl
  have h6 : look ρ2 (.dat (.tuple xs)) = some (.tuple xs) := rfl
  simp [xSl, xNoPart, xPart, M.bind, M.pure, e, e2, h5, h6, h]
theorem dTupR1_int (j : Int) : dTupR1 (.int j) = if cL 0 j then some (.dat (.tuple (rngD 0 j))) else none := rfl
theorem cL_of {n : Nat} (h : n < 100000) : cL 0 (n : Int) = true := by
  unfold cL cR
  rw [decide_eq_true (by omega), decide_eq_true (by omega), decide_eq_true (by omega), decide_eq_true (by omega), decide_eq_true (by omega)]
  rfl
theorem tupRg_eq {fa : M R} {n : Nat} (e : fa ρ = some (.ok (.dat (.int n)), ρ1)) (h : n < 100000) : xTupleRg1 fa ρ = some (.ok (.dat (.tuple (rngD 0 n))), ρ1) := by
  have h2 : dTupR1 (.int (n : Int)) = some (.dat (.tuple (rngD 0 n))) := by
    rw [dTupR1_int, if_pos (cL_of h)]
  exact xOp1_eq e h2
theorem callN1 {T : Fn} {fa : M R} {d : D} (e : fa ρ = some (.ok (.dat d), ρ1)) (k : T [.dat d] = some (.ok r, none)) : xCall none T (xCons fa xNil) ρ = some (.ok r, ρ1) := by
  have := xCall_eq (rf := none) (f := T) (cs := [.dat d]) (ob := none) (r := r) (xCons_eq e xNil_eq) (by simp [argsC, kd]) k (by simp [slotsC])
  exact this
theorem callN2 {T : Fn} {fa fb : M R} {d d2 : D} (e : fa ρ = some (.ok (.dat d), ρ1)) (e2 : fb ρ1 = some (.ok (.dat d2), ρ2)) (k : T [.dat d, .dat d2] = some (.ok r, none)) : xCall none T (xCons fa (xCons fb xNil)) ρ = some (.ok r, ρ2) := by
  have := xCall_eq (rf := none) (f := T) (cs := [.dat d, .dat d2]) (ob := none) (r := r) (xCons_eq e (xCons_eq e2 xNil_eq)) (by simp [argsC, kd]) k (by simp [slotsC])
  exact this
theorem iSq_tup {fa : M R} {xs : List D} (e : fa ρ = some (.ok (.dat (.tuple xs)), ρ1)) : iSq fa ρ = some (.ok ⟨xs, none⟩, ρ1) := by
  have h6 : look ρ1 (.dat (.tuple xs)) = some (.tuple xs) := rfl
  simp [iSq, M.bind, e, h6]
theorem iSq_lst {fa : M R} {xs : List D} (e : fa ρ = some (.ok (.dat (.list xs)), ρ1)) : iSq fa ρ = some (.ok ⟨xs, none⟩, ρ1) := by
  have h6 : look ρ1 (.dat (.list xs)) = some (.list xs) := rfl
  simp [iSq, M.bind, e, h6, pinOf]
theorem xTru_b {fa : M R} {b : Bool} (e : fa ρ = some (.ok (.dat (.bool b)), ρ1)) : xTru fa ρ = some (.ok b, ρ1) := by
  have h6 : look ρ1 (.dat (.bool b)) = some (.bool b) := rfl
  simp [xTru, M.bind, e, h6, tru]
theorem bNot_eq {ft : M Bool} {b : Bool} (e : ft ρ = some (.ok b, ρ1)) : bNot ft ρ = some (.ok (!b), ρ1) := by simp [bNot, M.bind, M.pure, e]
theorem ix_dT {fa fb : M R} {i : Nat} {xs : List D} (e : fa ρ = some (.ok (.dat (.tuple xs)), ρ1)) (e2 : fb ρ1 = some (.ok (.dat (.int (i : Nat))), ρ2)) (hi : i < xs.length) : xOp2 dIx fa fb ρ = some (.ok (.dat xs[i]), ρ2) := by
  have h3 := atI_nat' hi
  have h4 : dIx (.tuple xs) (.int (i : Int)) = some (.dat xs[i]) := by
    show (L2.atI xs (i : Int)).map _ = _
    rw [h3]; rfl
  exact xOp2_eq e e2 h4
theorem ix_dL {fa fb : M R} {i : Nat} {xs : List D} (e : fa ρ = some (.ok (.dat (.list xs)), ρ1)) (e2 : fb ρ1 = some (.ok (.dat (.int (i : Nat))), ρ2)) (hi : i < xs.length) : xOp2 dIx fa fb ρ = some (.ok (.dat xs[i]), ρ2) := by
  have h3 := atI_nat' hi
  have h4 : dIx (.list xs) (.int (i : Int)) = some (.dat xs[i]) := by
    show (L2.atI xs (i : Int)).map _ = _
    rw [h3]; rfl
  exact xOp2_eq e e2 h4
theorem allL_true {i : Nat} {vs : List Nat} {fe : M R} : ∀ {ds : List D} {ρ : Env}, (∀ d ∈ ds, ∃ ρ3, fe (ρ.set i (some (.dat d))) = some (.ok (.dat (.bool true)), ρ3) ∧ kill ρ3 vs = ρ) → allL i vs fe ds ρ = some (true, ρ)
  | [], ρ, _ => rfl
  | d :: ds, ρ, h => by
    obtain ⟨ρ3, e1, e2⟩ := h d List.mem_cons_self
    have ih := allL_true (i := i) (vs := vs) (fe := fe) (ds := ds) (ρ := ρ) fun x hx => h x (List.mem_cons_of_mem _ hx)
    simp [allL, e1, e2, ih]
theorem xAllG_true {i : Nat} {vs : List Nat} {fi : M IR} {fe : M R} (e : fi ρ = some (.ok ⟨ds, none⟩, ρ1)) (h : ∀ d ∈ ds, ∃ ρ3, fe ((kill ρ1 vs).set i (some (.dat d))) = some (.ok (.dat (.bool true)), ρ3) ∧ kill ρ3 vs = kill ρ1 vs) : xAllG i vs fi fe ρ = some (.ok (.dat (.bool true)), kill (kill ρ1 vs) vs) := by
  have k := allL_true (i := i) (vs := vs) (fe := fe) h
  simp [xAllG, M.bind, e, pinE, unpinE, k]
theorem xAnd_t {fa fb : M R} (e : fa ρ = some (.ok (.dat (.bool true)), ρ1)) : xAnd fa fb ρ = fb ρ1 := by
  have h6 : look ρ1 (.dat (.bool true)) = some (.bool true) := rfl
  simp [xAnd, M.bind, e, h6, tru]
theorem len_dT {fa : M R} {xs : List D} (e : fa ρ = some (.ok (.dat (.tuple xs)), ρ1)) : xOpN dLen (xCons fa xNil) ρ = some (.ok (.dat (.int xs.length)), ρ1) := by
  have h6 : look ρ1 (.dat (.tuple xs)) = some (.tuple xs) := rfl
  simp [xOpN, M.bind, xCons, xNil, M.pure, e, opN, looks, h6, dLen]
theorem len_dL {fa : M R} {xs : List D} (e : fa ρ = some (.ok (.dat (.list xs)), ρ1)) : xOpN dLen (xCons fa xNil) ρ = some (.ok (.dat (.int xs.length)), ρ1) := by
  have h6 : look ρ1 (.dat (.list xs)) = some (.list xs) := rfl
  simp [xOpN, M.bind, xCons, xNil, M.pure, e, opN, looks, h6, dLen]
theorem bitOr_nat (a b : Nat) : Builtin.bitOr (a : Int) (b : Int) = ((a ||| b : Nat) : Int) := by
  rw [L2.bitOr_nn (by omega) (by omega)]; simp
theorem bitAnd_nat (a b : Nat) : Builtin.bitAnd (a : Int) (b : Int) = ((a &&& b : Nat) : Int) := by
  rw [PyProof.Rows.bitAnd_pp (by omega) (by omega)]; simp
theorem dOr_nat (a b : Nat) : dOr (.int a) (.int b) = some (.dat (.int ((a ||| b : Nat) : Int))) := by rw [← bitOr_nat]; rfl
theorem dAnd_nat (a b : Nat) : dAnd (.int a) (.int b) = some (.dat (.int ((a &&& b : Nat) : Int))) := by rw [← bitAnd_nat]; rfl
theorem dXor_nat (a b : Nat) : dXor (.int a) (.int b) = some (.dat (.int ((a ^^^ b : Nat) : Int))) := by rw [← bitXor_nat]; rfl
theorem dShl_one (c : Int) (h : 0 ≤ c) (h2 : c < 1000) : dShl (.int 1) (.int c) = some (.dat (.int ((2 ^ c.toNat : Nat) : Int))) := by
  have k : cShl 1 c = true := by
    have b := bits_of (i := 1) (k := 1) (by decide)
    have e : (2 : Int) ^ 27 = 134217728 := by decide
    unfold cShl
    rw [e, decide_eq_true h, decide_eq_true (by omega)]
    rfl
  have : dShl (.int 1) (.int c) = if cShl 1 c then some (.dat (.int (1 * 2 ^ c.toNat))) else none := rfl
  rw [this, if_pos k, Int.one_mul, Int.natCast_pow]
  rfl
theorem while_t {ft : M Bool} {body : XS} {n : Nat} (e : ft ρ = some (.ok true, ρ1)) (e2 : body ρ1 = some (.nx, ρ2)) : whileL ft body (n + 1) ρ = whileL ft body n ρ2 := by simp [whileL, e, e2]
theorem while_f {ft : M Bool} {body : XS} {n : Nat} (e : ft ρ = some (.ok false, ρ1)) : whileL ft body (n + 1) ρ = some (.nx, ρ1) := by simp [whileL, e]
theorem isNot_eq {fa : M R} {d : D} (e : fa ρ = some (.ok (.dat d), ρ1)) : xB (xOp2 (dIs true) fa (xC .none)) ρ = some (.ok (!isNon d), ρ1) := by
  have h : xOp2 (dIs true) fa (xC .none) ρ = some (.ok (.dat (.bool (!isNon d))), ρ1) := xOp2_eq e rfl rfl
  simp [xB, M.bind, h]
/-- T(x, y), both the lists of other slots, immutable what comes -/
theorem callN2_slots {T : Fn} {i j : Nat} {xs ys : List D} {r : R} (hi : ρ[i]? = some (some (.own (.lst xs)))) (hj : ρ[j]? = some (some (.own (.lst ys)))) (n : i ≠ j) (k : T [.dat (.list xs), .dat (.list ys)] = some (.ok r, none)) (im : immX (.ok r) = true) :
    xCall none T (xCons (xVar i) (xCons (xVar j) xNil)) ρ = some (.ok r, ρ) := by
  have := xCall_eq (rf := none) (f := T) (cs := [.dat (.list xs), .dat (.list ys)]) (ob := none) (r := r) (xCons_eq (xVar_own hi) (xCons_eq (xVar_own hj) xNil_eq)) (by simp [argsC, hi, hj, kd, Ob.toD]) k (by simp [slotsC, hi, hj, im, immO, n])
  exact this
theorem tuple_slot {i : Nat} {xs : List D} (h : ρ[i]? = some (some (.own (.lst xs)))) : xOpN dTuple (xCons (xVar i) xNil) ρ = some (.ok (.dat (.tuple xs)), ρ) := by
  have h2 := look_own h
  simp [xOpN, M.bind, xCons, xNil, M.pure, xVar_own h, opN, looks, h2, Ob.view, dTuple]
theorem xB_eq {fa : M R} {b : Bool} (e : fa ρ = some (.ok (.dat (.bool b)), ρ1)) : xB fa ρ = some (.ok b, ρ1) := by simp [xB, M.bind, e]
theorem sorted_own {j : Nat} {ns : List Int} (h : ρ[j]? = some (some (.own (.lst (ns.map .int))))) : xOpN dSort (xCons (xVar j) xNil) ρ = some (.ok (.own (.lst ((srt ns).map .int))), ρ) := by
  have h2 := look_own h
  simp [xOpN, M.bind, xCons, xNil, M.pure, xVar_own h, opN, looks, h2, Ob.view, dSort, dSorted, toInts_map]
theorem tuple_of {xs : List D} {fa : M R} (e : fa ρ = some (.ok (.own (.lst xs)), ρ1)) : xOpN dTuple (xCons fa xNil) ρ = some (.ok (.dat (.tuple xs)), ρ1) := by
  simp [xOpN, M.bind, xCons, xNil, M.pure, e, opN, looks, look, Ob.view, dTuple]
end
def toI : D → Int
  | .int i => i
  | _ => 0
theorem perm_ints {ds : List D} {ns : List Int} (h : ds.Perm (ns.map .int)) : ds = (ds.map toI).map .int ∧ (ds.map toI).Perm ns := by
  constructor
  · rw [List.map_map]
    refine (List.map_id ds).symm.trans (List.map_congr_left fun d hd => ?_)
    obtain ⟨i, _, rfl⟩ := List.mem_map.mp (h.mem_iff.mp hd)
    rfl
  · have := h.map toI
    rw [List.map_map] at this
    have e : ns.map (toI ∘ PyData.int) = ns := (List.map_congr_left fun i _ => rfl).trans (List.map_id ns)
    rw [e] at this
    exact this
theorem strict_of {ns : List Int} (h : ns.Pairwise (· ≤ ·)) (n : ns.Nodup) : ns.Pairwise (· < ·) := by
  have := List.Pairwise.and h n
  exact this.imp fun z => by omega
/-! data of known depth, to be compared -/
structure Sh (k : Nat) (d : D) : Prop where
  lay : d.canLay0 = true
  dep : d.depth ≤ k
theorem Sh.int (i : Int) : Sh 1 (.int i) := ⟨rfl, by simp [PyData.depth]⟩
theorem Sh.bool (i : Bool) : Sh 1 (.bool i) := ⟨rfl, by simp [PyData.depth]⟩
theorem Sh.non : Sh 1 .none := ⟨rfl, by simp [PyData.depth]⟩
theorem Sh.mono {k j : Nat} {d : D} (h : Sh k d) (l : k ≤ j) : Sh j d := ⟨h.lay, Nat.le_trans h.dep l⟩
theorem sh_all {k : Nat} : ∀ {ds : List D}, (∀ d ∈ ds, Sh k d) → PyData.canLayAll0 ds = true ∧ PyData.depthAll ds ≤ k
  | [], _ => ⟨rfl, by simp [PyData.depthAll]⟩
  | d :: ds, h => by
    obtain ⟨h1, h2⟩ := sh_all fun x hx => h x (List.mem_cons_of_mem _ hx)
    obtain ⟨h3, h4⟩ := h d List.mem_cons_self
    refine ⟨?_, ?_⟩
    · simp [PyData.canLayAll0, h1, h3]
    · simp only [PyData.depthAll]; omega
theorem Sh.tup {k : Nat} {ds : List D} (h : ∀ d ∈ ds, Sh k d) : Sh (k + 1) (.tuple ds) := by
  obtain ⟨h1, h2⟩ := sh_all h
  exact ⟨by simp only [PyData.canLay0]; exact h1, by simp only [PyData.depth]; omega⟩
theorem Sh.lst {k : Nat} {ds : List D} (h : ∀ d ∈ ds, Sh k d) : Sh (k + 1) (.list ds) := by
  obtain ⟨h1, h2⟩ := sh_all h
  exact ⟨by simp only [PyData.canLay0]; exact h1, by simp only [PyData.depth]; omega⟩
theorem Sh.shaped {k : Nat} {d : D} (h : Sh k d) (l : k ≤ 64) : SeqAt.shaped d = true := by
  show (d.canLay0 && decide (d.depth ≤ 64)) = true
  rw [Bool.and_eq_true]
  exact ⟨h.lay, decide_eq_true (Nat.le_trans h.dep l)⟩
theorem Sh.ints (xs : List Int) : ∀ d ∈ xs.map PyData.int, Sh 1 d := fun d hd => by
  obtain ⟨i, _, rfl⟩ := List.mem_map.mp hd
  exact .int i
theorem dEq_sh {neg : Bool} {k j : Nat} {d e : D} (h : Sh k d) (h2 : Sh j e) (l : k ≤ 64) (l2 : j ≤ 64) : dEq neg d e = some (.dat (.bool (if neg then !PyData.eqv d e else PyData.eqv d e))) := by
  unfold dEq
  rw [h.shaped l, h2.shaped l2]
  rfl
theorem eqv_nil (xs : List D) : PyData.eqv (.list xs) (.list []) = xs.isEmpty := by
  cases xs with
  | nil => simp [PyData.eqv, PyData.eqvAll]
  | cons x xs => simp [PyData.eqv, PyData.eqvAll]
theorem eqv_nilT (xs : List D) : PyData.eqv (.tuple xs) (.tuple []) = xs.isEmpty := by
  cases xs with
  | nil => simp [PyData.eqv, PyData.eqvAll]
  | cons x xs => simp [PyData.eqv, PyData.eqvAll]
theorem neT_eq {ρ ρ1 : Env} {fa : M R} {k : Nat} {xs : List D} (e : fa ρ = some (.ok (.dat (.tuple xs)), ρ1)) (s : Sh k (.tuple xs)) (l : k ≤ 64) : xOp2 (dEq true) fa (xTup xNil) ρ = some (.ok (.dat (.bool (!xs.isEmpty))), ρ1) := by
  have e2 : dEq true (.tuple xs) (.tuple []) = some (.dat (.bool (!xs.isEmpty))) := by
    rw [dEq_sh s (Sh.tup (k := 1) (fun _ z => by cases z)) l (by decide), eqv_nilT]; rfl
  exact xOp2_eq e xTup_nil e2
theorem ne_nil_eq {ρ : Env} {j k : Nat} {xs : List D} (h : ρ[j]? = some (some (.own (.lst xs)))) (s : Sh k (.list xs)) (l : k ≤ 64) : xOp2 (dEq true) (xVar j) (xLst xNil) ρ = some (.ok (.dat (.bool (!xs.isEmpty))), ρ) := by
  have e : dEq true (.list xs) (.list []) = some (.dat (.bool (!xs.isEmpty))) := by
    rw [dEq_sh s (Sh.lst (k := 1) (fun _ z => by cases z)) l (by decide), eqv_nil]; rfl
  have h6 : look ρ (.own (.lst [])) = some (.list []) := rfl
  simp [xOp2, M.bind, xVar_own h, xLst_nil, op2, look_own h, h6, Ob.view, e]
theorem eq_nil_eq {ρ : Env} {j k : Nat} {xs : List D} (h : ρ[j]? = some (some (.own (.lst xs)))) (s : Sh k (.list xs)) (l : k ≤ 64) : xOp2 (dEq false) (xVar j) (xLst xNil) ρ = some (.ok (.dat (.bool xs.isEmpty)), ρ) := by
  have e : dEq false (.list xs) (.list []) = some (.dat (.bool xs.isEmpty)) := by
    rw [dEq_sh s (Sh.lst (k := 1) (fun _ z => by cases z)) l (by decide), eqv_nil]; rfl
  have h6 : look ρ (.own (.lst [])) = some (.list []) := rfl
  simp [xOp2, M.bind, xVar_own h, xLst_nil, op2, look_own h, h6, Ob.view, e]
end Vm
/-! k00: lemmas of use -/
namespace K00
open PySem PySem.Spec PyProof.Rows L2 Ky Vm
def kD (k : Nat) : D := .int (k : Int)
section
variable {ρ ρ1 ρ2 ρ3 : Vm.Env} {r : R}
theorem bind_err {α β : Type} {m : M α} {k : α → M β} {x : Ex} (e : m ρ = some (.error x, ρ1)) : (m.bind k) ρ = some (.error x, ρ1) := by
  unfold M.bind
  rw [e]
theorem fnN_eq {n m : Nat} {rf : Rf} {g : XS} {cs : List C} {q : Fl × Vm.Env} {out : Except Ex R × Option Ob} (hn : cs.length = n) (e : g (cs.map some ++ List.replicate (m - cs.length) none) = some q) (f : finF rf q = some out) : fnN n m rf g cs = some out := by
  show (if cs.length = n then fnOf m rf g cs else none) = _
  rw [if_pos hn]
  show (g _).bind _ = _
  rw [e]
  exact f
theorem sSeq_ex {x : Ex} {g h : XS} (e : g ρ = some (.ex x, ρ1)) : sSeq g h ρ = some (.ex x, ρ1) := by unfold sSeq; rw [e]
theorem sExpr_ex {x : Ex} {fa : M R} (e : fa ρ = some (.error x, ρ1)) : sExpr fa ρ = some (.ex x, ρ1) := by unfold sExpr; rw [e]
theorem lt_eq {fa fb : M R} {a b : Int} (e : fa ρ = some (.ok (.dat (.int a)), ρ1)) (e2 : fb ρ1 = some (.ok (.dat (.int b)), ρ2)) : xB (xOp2 dLt fa fb) ρ = some (.ok (decide (a < b)), ρ2) := xB_eq (xOp2_eq e e2 rfl)
theorem eq_eq {fa fb : M R} {a b : Int} (e : fa ρ = some (.ok (.dat (.int a)), ρ1)) (e2 : fb ρ1 = some (.ok (.dat (.int b)), ρ2)) : xB (xOp2 (dEq false) fa fb) ρ = some (.ok (decide (a = b)), ρ2) := xB_eq (xOp2_eq e e2 (dEq_int a b))
theorem add_eq {a b : Int} {fa fb : M R} (e : fa ρ = some (.ok (.dat (.int a)), ρ1)) (e2 : fb ρ1 = some (.ok (.dat (.int b)), ρ2)) : xOp2 dAdd fa fb ρ = some (.ok (.dat (.int (a + b))), ρ2) := xOp2_eq e e2 rfl
theorem mul_eq {a b : Int} {fa fb : M R} (e : fa ρ = some (.ok (.dat (.int a)), ρ1)) (e2 : fb ρ1 = some (.ok (.dat (.int b)), ρ2)) (h : cMul a b = true) : xOp2 dMulI fa fb ρ = some (.ok (.dat (.int (a * b))), ρ2) := by
  refine xOp2_eq e e2 ?_
  have : dMulI (.int a) (.int b) = if cMul a b then some (.dat (.int (a * b))) else none := rfl
  rw [this, if_pos h]
theorem pow_eq {b e k : Nat} (h : b < 2 ^ k) (h2 : k * e ≤ 134217728) : xOp2 dPow (xC (.int b)) (xC (.int (e : Int))) ρ = some (.ok (.dat (.int ((b : Int) ^ e))), ρ) := by
  have c : cPow b (e : Int) = true := cPow_of (i := b) (j := e) (k := k) (by rw [Int.natAbs_natCast]; exact h) h2
  have h2 : dPow (.int b) (.int (e : Int)) = some (.dat (.int ((b : Int) ^ e))) := by
    have : dPow (.int b) (.int (e : Int)) = if cPow b (e : Int) then some (.dat (.int ((b : Int) ^ (e : Int).toNat))) else none := rfl
    rw [this, if_pos c, Int.toNat_natCast]
  exact xOp2_eq rfl rfl h2
theorem xOpN1_eq {g : List D → Option R} {fa : M R} {d : D} (e : fa ρ = some (.ok (.dat d), ρ1)) (h : g [d] = some r) : xOpN g (xCons fa xNil) ρ = some (.ok r, ρ1) := by
  have h2 : look ρ1 (.dat d) = some d := rfl
  simp [xOpN, M.bind, xCons, xNil, M.pure, e, opN, looks, h2, h]
theorem cR_of {n : Nat} (h : n < 100000) : cR (n : Int) = true := by
  unfold cR
  rw [decide_eq_true (by omega), decide_eq_true (by omega)]
  rfl
theorem iRg1_eq {fa : M R} {ρ ρ1 : Vm.Env} {n : Nat} (e : fa ρ = some (.ok (.dat (.int n)), ρ1)) (h : n < 100000) : iRg1 fa ρ = some (.ok ⟨rngD 0 n, none⟩, ρ1) := by
  have c := cR_of h
  simp [iRg1, M.bind, e, look, c]
theorem xOp2_own {g : D → D → Option R} {fa fb : M R} {xs ys : List D} (e : fa ρ = some (.ok (.own (.lst xs)), ρ1)) (e2 : fb ρ1 = some (.ok (.own (.lst ys)), ρ2)) (h : g (.list xs) (.list ys) = some r) : xOp2 g fa fb ρ = some (.ok r, ρ2) := by
  have h2 : look ρ2 (.own (.lst xs)) = some (.list xs) := rfl
  have h3 : look ρ2 (.own (.lst ys)) = some (.list ys) := rfl
  simp [xOp2, M.bind, e, e2, op2, h2, h3, h]
theorem add_slot_new {i : Nat} {xs ys : List D} {fb : M R} (h : ρ[i]? = some (some (.own (.lst xs)))) (e : fb ρ = some (.ok (.own (.lst ys)), ρ1)) (h1 : ρ1[i]? = some (some (.own (.lst xs)))) (hz : xs.length + ys.length < 10000) : xOp2 dAdd (xVar i) fb ρ = some (.ok (.own (.lst (xs ++ ys))), ρ1) := by
  have a := dAdd_lst (xs := xs) (ys := ys) (by rw [sizeLine_eq]; omega)
  have h2 := look_own h1
  have h4 : look ρ1 (.own (.lst ys)) = some (.list ys) := rfl
  simp [xOp2, M.bind, xVar_own h, e, op2, h2, h4, Ob.view, a]
theorem xLst_keep {fr : M (List R)} {rs : List R} {ds : List D} (e : fr ρ = some (.ok rs, ρ1)) (k : keepAll rs ρ1 = some (ds, ρ2)) (h : ds.length < 10000) : xLst fr ρ = some (.ok (.own (.lst ds)), ρ2) := by
  unfold xLst
  rw [M.bind_ok e]
  show (keepAll rs ρ1).bind _ = _
  rw [k]
  show (if ds.length ≤ sizeLine then _ else _) = _
  rw [if_pos (by rw [sizeLine_eq]; omega)]
theorem sPar2_dat {i j : Nat} {f1 f2 : M R} {d1 d2 : D} (e : f1 ρ = some (.ok (.dat d1), ρ1)) (e2 : f2 ρ1 = some (.ok (.dat d2), ρ2)) : sPar2 i j f1 f2 ρ = some (.nx, (ρ2.set i (some (.dat d1))).set j (some (.dat d2))) := by
  simp [sPar2, e, e2, thw, setR]
theorem xNot_eq {fa : M R} {b : Bool} (e : fa ρ = some (.ok (.dat (.bool b)), ρ1)) : xNot fa ρ = some (.ok (.dat (.bool (!b))), ρ1) := by
  have h6 : look ρ1 (.dat (.bool b)) = some (.bool b) := rfl
  simp [xNot, M.bind, e, h6, tru]
/-- T(x, ..), x the object of slot j -/
theorem callB {T : Fn} {o0 o o1 : Ob} {j : Nat} {fr : M (List R)} {ds : List D} (h0 : ρ[j]? = some (some (.own o0))) (e : fr ρ = some (.ok (ds.map .dat), ρ1)) (h1 : ρ1[j]? = some (some (.own o))) (k : T (.own o :: ds.map .dat) = some (.ok r, some o1)) :
    xCall (some 0) T (xCons (xVar j) fr) ρ = some (.ok r, ρ1.set j (some (.own o1))) := by
  have a : ∀ (ds : List D) (i : Nat), 0 < i → argsC (some 0) ρ1 i (ds.map .dat) = some (ds.map .dat) := by
    intro ds
    induction ds with
    | nil => exact fun _ _ => rfl
    | cons d ds ih =>
      intro i hi
      have n : ¬ some 0 = some i := by simp; omega
      show (if some 0 = some i then _ else (kd ρ1 (.dat d)).map C.dat).bind (fun x => (argsC (some 0) ρ1 (i + 1) (ds.map .dat)).map (x :: ·)) = _
      rw [if_neg n, ih (i + 1) (by omega)]
      rfl
  have s : ∀ ds : List D, slotsC ρ1 (ds.map .dat) = [] := fun ds => by
    induction ds with
    | nil => rfl
    | cons d ds ih => exact ih
  have := xCall_eq (rf := some 0) (f := T) (cs := .own o :: ds.map .dat) (ob := some o1) (r := r) (xCons_eq (xVar_own h0) e) (by
    show (if some 0 = some 0 then (match ρ1[j]? with | some (some (.own o)) => some (C.own o) | _ => none) else _).bind (fun x => (argsC (some 0) ρ1 1 (ds.map .dat)).map (x :: ·)) = _
    rw [if_pos rfl, h1, a ds 1 (by decide)]
    rfl) k (by simp [slotsC, h1, s])
  exact this
theorem callN3 {T : Fn} {fa fb fc : M R} {d d2 d3 : D} (e : fa ρ = some (.ok (.dat d), ρ1)) (e2 : fb ρ1 = some (.ok (.dat d2), ρ2)) (e3 : fc ρ2 = some (.ok (.dat d3), ρ3)) (k : T [.dat d, .dat d2, .dat d3] = some (.ok r, none)) : xCall none T (xCons fa (xCons fb (xCons fc xNil))) ρ = some (.ok r, ρ3) := by
  have := xCall_eq (rf := none) (f := T) (cs := [.dat d, .dat d2, .dat d3]) (ob := none) (r := r) (xCons_eq e (xCons_eq e2 (xCons_eq e3 xNil_eq))) (by simp [argsC, kd]) k (by simp [slotsC])
  exact this
theorem callE {T : Fn} {fr : M (List R)} {ds : List D} {x : Ex} (e : fr ρ = some (.ok (ds.map .dat), ρ1)) (k : T (ds.map .dat) = some (.error x, none)) : xCall none T fr ρ = some (.error x, ρ1) := by
  have a : ∀ (ds : List D) (i : Nat), argsC none ρ1 i (ds.map .dat) = some (ds.map .dat) := by
    intro ds
    induction ds with
    | nil => exact fun _ => rfl
    | cons d ds ih =>
      intro i
      show (if none = some i then _ else (kd ρ1 (.dat d)).map C.dat).bind (fun x => (argsC none ρ1 (i + 1) (ds.map .dat)).map (x :: ·)) = _
      rw [if_neg (by simp), ih (i + 1)]
      rfl
  have s : ∀ ds : List D, slotsC ρ1 (ds.map .dat) = [] := fun ds => by
    induction ds with
    | nil => rfl
    | cons d ds ih => exact ih
  have h2 : Vm.callK none T (ds.map .dat) ρ1 = some (.error x, ρ1) := by
    unfold Vm.callK
    rw [a ds 0]
    show ((T (ds.map .dat)).bind _) = _
    rw [k]
    have hs : (slotsC ρ1 (ds.map .dat)).Nodup ∧ ((slotsC ρ1 (ds.map .dat)).length ≤ (if (none : Rf).isSome then 1 else 0) ∨ (immX (.error x) && immO none) = true) := by simp [s]
    exact if_pos (e := (none : Option (Except Ex R × Vm.Env))) hs
  unfold xCall
  rw [M.bind_ok e]
  exact h2
end
theorem eqv_bools (a : List Bool) : PyData.eqv (.list (a.map .bool)) (.list (a.map .bool)) = true := by
  rw [PyData.eqv]
  induction a with
  | nil => rfl
  | cons x a ih =>
    show (PyData.eqv (.bool x) (.bool x) && PyData.eqvAll (a.map .bool) (a.map .bool)) = _
    rw [ih]
    cases x <;> rfl
theorem dNe_int (a b : Int) : dEq true (.int a) (.int b) = some (.dat (.bool (decide (a ≠ b)))) := by
  have := dEq_sh (neg := true) (Sh.int a) (Sh.int b) (by decide) (by decide)
  rw [this]
  have e : PyData.eqv (.int a) (.int b) = decide (a = b) := by
    simp only [PyData.eqv]
    exact Bool.eq_iff_iff.mpr (by simp)
  rw [e, if_pos rfl, decide_not]
theorem eq_str (s : Str) : dEq false (.str s) (.str s) = some (.dat (.bool true)) := by
  unfold dEq
  rw [if_pos (by simp [strs2])]
  simp [PyData.eqv]
end K00
/-! k00: the deck, what is given -/
namespace K00
open PySem PySem.Spec PyProof.Rows L2 Ky Vm
theorem cDiv_of {a m : Int} (h : 0 < m) (h2 : m < 2 ^ 100) : cDiv a m = true := by
  unfold cDiv
  have l : m.natAbs.log2 < 9000 := by
    have : m.natAbs < 2 ^ 100 := by omega
    have := (Nat.log2_lt (by omega)).mpr this
    omega
  rw [decide_eq_true h, decide_eq_true l]
  rfl
structure Dq (o : Ob) : Prop where
  ex : ∃ a b : Int, o = .lst [.int a, .int b] ∧ 0 ≤ b ∧ b < 2 ^ 64
theorem take_a (a b m : Int) (ha : 0 < a) (hm : 0 < m) (hm2 : m < 2 ^ 100) : m_law_take [.own (.lst [.int a, .int b]), .dat (.int m)] = some (.ok (.dat (.int (a % m))), some (.lst [.int (a / m), .int b])) := by
  have hd := cDiv_of (a := a) hm hm2
  unfold m_law_take
  simp [fnP, okF, fnN, fnOf, finF, retR, obRf, sSeq, sSet, setR, sRet, sRetN, sIf, sNext, sExpr, sBreak, sCont, sPut, sPutB, Vm.putAt, xVar, xC, xB, xOp1, xOp2, op1, op2, M.bind, M.pure, look, obAt, Ob.view, Ob.toD, xCons, xNil, xOpN, opN, looks, xTup, xLst, keepAll, keepR, frzAt, xCall, callK, argsC, slotsC, putOb, kd, bAnd, bOr, bNot, xIf, xAnd, xOr, xNot, xTru, tru, asg, tName, tTupN, tsCons, tsNil, xMeth, xMethB, xIsi, dInt, dAdd, dIx, dLen, dMin, dIntOf, dList, dTuple, dIs, thw, sPar2, cPos, cAny, atI, ixN, ha, hm, hd]
theorem put_at {ρ ρ1 : Vm.Env} {i k : Nat} {xs : List D} {d : D} {fk fv : M R} (e : fv ρ = some (.ok (.dat d), ρ1)) (e2 : fk ρ1 = some (.ok (.dat (.int (k : Nat))), ρ1)) (h : ρ1[i]? = some (some (.own (.lst xs)))) (hk : k < xs.length) : sPut i fk fv ρ = some (.nx, ρ1.set i (some (.own (.lst (xs.set k d))))) := by
  have e3 : ixN xs.length ((k : Nat) : Int) = some k := by
    unfold ixN
    rw [if_pos (by omega), if_pos (by omega), Int.toNat_natCast]
  simp [sPut, e, h, sPutB, e2, look, keepR, Vm.putAt, e3]
theorem gt_eq {ρ ρ1 ρ2 : Vm.Env} {fa fb : M R} {a b : Int} (e : fa ρ = some (.ok (.dat (.int a)), ρ1)) (e2 : fb ρ1 = some (.ok (.dat (.int b)), ρ2)) : xB (xOp2 dGt fa fb) ρ = some (.ok (decide (a > b)), ρ2) := xB_eq (xOp2_eq e e2 rfl)
theorem div_eq {ρ ρ1 ρ2 : Vm.Env} {fa fb : M R} {a b : Int} (e : fa ρ = some (.ok (.dat (.int a)), ρ1)) (e2 : fb ρ1 = some (.ok (.dat (.int b)), ρ2)) (h : cDiv a b = true) : xOp2 dDiv fa fb ρ = some (.ok (.dat (.int (a / b))), ρ2) := by
  refine xOp2_eq e e2 ?_
  have : dDiv (.int a) (.int b) = if cDiv a b then some (.dat (.int (a / b))) else none := rfl
  rw [this, if_pos h]
theorem take_0 (a b m : Int) (ha : a ≤ 0) (hb : 0 ≤ b) (hb2 : b < 2 ^ 64) (hm : 0 < m) (hm2 : m < 2 ^ 100) :
    ∃ x n, 0 ≤ x ∧ x < m ∧ 0 ≤ n ∧ n < 2 ^ 64 ∧ m_law_take [.own (.lst [.int a, .int b]), .dat (.int m)] = some (.ok (.dat (.int x)), some (.lst [.int a, .int n])) := by
  generalize hρ : ([some (.own (.lst [.int a, .int b])), some (.dat (.int m)), none] : Vm.Env) = ρ
  have h0 : ρ[0]? = some (some (.own (.lst [.int a, .int b]))) := by rw [← hρ]; rfl
  have i0 : xOp2 dIx (xVar 0) (xC (.int 0)) ρ = some (.ok (.dat (.int a)), ρ) := ix_own (i := 0) (fa := xC (.int 0)) (ρ1 := ρ) h0 rfl h0 (by simp)
  have i1 : xOp2 dIx (xVar 0) (xC (.int 1)) ρ = some (.ok (.dat (.int b)), ρ) := ix_own (i := 1) (fa := xC (.int 1)) (ρ1 := ρ) h0 rfl h0 (by simp)
  have c := gt_eq i0 (fb := xC (.int 0)) (b := 0) rfl
  rw [decide_eq_false (by omega)] at c
  have c1 : cMul b 6364136223846793005 = true := cMul_of (by have := bits_of (i := b) (k := 64) (by omega); have := bits_of (i := 6364136223846793005) (k := 63) (by decide); omega)
  have p1 := pow_eq (b := 2) (e := 64) (k := 2) (ρ := ρ) (by decide) (by decide)
  have e64 : ((2 : Nat) : Int) ^ 64 = 18446744073709551616 := by decide
  rw [e64] at p1
  have a1 := xOp2_eq (g := dMod) (xOpN1_eq (g := dIntOf) (add_eq (mul_eq i1 (fb := xC (.int 6364136223846793005)) rfl c1) (fb := xC (.int 1442695040888963407)) rfl) rfl) p1 (dMod_eq (by decide))
  have g1 := Int.emod_nonneg (b * 6364136223846793005 + 1442695040888963407) (show (18446744073709551616 : Int) ≠ 0 by decide)
  have g2 := Int.emod_lt_of_pos (b * 6364136223846793005 + 1442695040888963407) (show (0 : Int) < 18446744073709551616 by decide)
  generalize (b * 6364136223846793005 + 1442695040888963407) % 18446744073709551616 = n1 at a1 g1 g2
  have s2 := put_at (i := 0) (k := 1) (fk := xC (.int 1)) a1 rfl h0 (by simp)
  generalize hσ : ρ.set 0 (some (.own (.lst ([PyData.int a, PyData.int b].set 1 (.int n1))))) = σ at s2
  have k0 : σ[0]? = some (some (.own (.lst [.int a, .int n1]))) := by rw [← hσ, ← hρ]; rfl
  have k1 : xVar 1 σ = some (.ok (.dat (.int m)), σ) := by rw [← hσ, ← hρ]; rfl
  have j1 : xOp2 dIx (xVar 0) (xC (.int 1)) σ = some (.ok (.dat (.int n1)), σ) := ix_own (i := 1) (fa := xC (.int 1)) (ρ1 := σ) k0 rfl k0 (by simp)
  have p2 := pow_eq (b := 2) (e := 25) (k := 2) (ρ := σ) (by decide) (by decide)
  have e25 : ((2 : Nat) : Int) ^ 25 = 33554432 := by decide
  rw [e25] at p2
  have q := xOp2_eq (g := dMod) (div_eq j1 p2 (cDiv_of (by decide) (by decide))) k1 (dMod_eq hm)
  refine ⟨n1 / 33554432 % m, n1, Int.emod_nonneg _ (by omega), Int.emod_lt_of_pos _ hm, g1, by omega, ?_⟩
  have fin : finF (some 0) (.rt (.dat (.int (n1 / 33554432 % m))), σ) = some (.ok (.dat (.int (n1 / 33554432 % m))), some (.lst [.int a, .int n1])) := by rw [← hσ, ← hρ]; rfl
  unfold m_law_take
  refine fnP_eq rfl (q := (.rt (.dat (.int (n1 / 33554432 % m))), σ)) ?_ fin
  show sSeq _ _ [some (.own (.lst [.int a, .int b])), some (.dat (.int m)), none] = _
  rw [hρ]
  exact (sSeq_nx ((sIf_f c).trans rfl)).trans ((sSeq_nx s2).trans (sRet_eq q))
theorem take_ok {o : Ob} (d : Dq o) {m : Int} (hm : 0 < m) (hm2 : m < 2 ^ 100) :
    ∃ (x : Nat) (o' : Ob), (x : Int) < m ∧ Dq o' ∧ m_law_take [.own o, .dat (.int m)] = some (.ok (.dat (.int x)), some o') := by
  obtain ⟨a, b, rfl, h2, h3⟩ := d.ex
  by_cases ha : 0 < a
  · have e := take_a a b m ha hm hm2
    have g1 := Int.emod_nonneg a (show m ≠ 0 by omega)
    have g2 := Int.emod_lt_of_pos a hm
    exact ⟨(a % m).toNat, .lst [.int (a / m), .int b], by omega, ⟨_, _, rfl, h2, h3⟩, by rw [e, Int.toNat_of_nonneg g1]⟩
  · obtain ⟨x, n, x0, x1, n0, n1, e⟩ := take_0 a b m (by omega) h2 h3 hm hm2
    exact ⟨x.toNat, .lst [.int a, .int n], by omega, ⟨_, _, rfl, n0, n1⟩, by rw [e, Int.toNat_of_nonneg x0]⟩
theorem take_at {o : Ob} {j : Nat} (d : Dq o) {m : Int} (hm : 0 < m) (hm2 : m < 2 ^ 100) {ρ : Vm.Env} {fa : M R} (h0 : ρ[j]? = some (some (.own o))) (e : fa ρ = some (.ok (.dat (.int m)), ρ)) :
    ∃ (x : Nat) (o' : Ob), (x : Int) < m ∧ Dq o' ∧ xCall (some 0) m_law_take (xCons (xVar j) (xCons fa xNil)) ρ = some (.ok (.dat (.int x)), ρ.set j (some (.own o'))) := by
  obtain ⟨x, o', h1, h2, h3⟩ := take_ok d hm hm2
  exact ⟨x, o', h1, h2, callB (ds := [.int m]) h0 (xCons_eq e xNil_eq) h0 h3⟩
theorem deck_ok (ns : List Int) (j : Nat) (hj : j < 1000) : ∃ o, Dq o ∧ m_law_deck [.dat (.list (ns.map .int)), .dat (.int j)] = some (.ok (.own o), none) := by
  generalize hs : PyData.list (ns.map .int) = s
  have s1 : sSet 2 (xC (.int 0)) [some (.dat s), some (.dat (.int j)), none, none] = some (.nx, [some (.dat s), some (.dat (.int j)), some (.dat (.int 0)), none]) := rfl
  have cell : ∃ x : Int, sIf (xB (xOp2 (dLt) (xVar 1) (xOpN dLen (xCons (xVar 0) xNil)))) (sSet 2 (xOp2 dIx (xVar 0) (xVar 1))) sNext [some (.dat s), some (.dat (.int j)), some (.dat (.int 0)), none] = some (.nx, [some (.dat s), some (.dat (.int j)), some (.dat (.int x)), none]) := by
    have ln := len_dL (fa := xVar 0) (xs := ns.map .int) (ρ := [some (.dat s), some (.dat (.int j)), some (.dat (.int 0)), none]) (by rw [hs]; rfl)
    have c1 := lt_eq (fa := xVar 1) (a := j) (ρ := [some (.dat s), some (.dat (.int j)), some (.dat (.int 0)), none]) rfl ln
    by_cases h : (j : Int) < ((ns.map PyData.int).length : Int)
    · rw [decide_eq_true h] at c1
      have hlt : j < (ns.map PyData.int).length := by omega
      have h4 := ix_dL (fa := xVar 0) (fb := xVar 1) (xs := ns.map .int) (ρ := [some (.dat s), some (.dat (.int j)), some (.dat (.int 0)), none]) (by rw [hs]; rfl) rfl hlt
      rw [List.getElem_map] at h4
      exact ⟨_, (sIf_t c1).trans (sSet_dat h4)⟩
    · rw [decide_eq_false h] at c1
      exact ⟨0, (sIf_f c1).trans rfl⟩
  obtain ⟨x, s2⟩ := cell
  generalize hρ : ([some (.dat s), some (.dat (.int j)), some (.dat (.int x)), none] : Vm.Env) = ρ at s2
  have v1 : xVar 1 ρ = some (.ok (.dat (.int j)), ρ) := by rw [← hρ]; rfl
  have v2 : xVar 2 ρ = some (.ok (.dat (.int x)), ρ) := by rw [← hρ]; rfl
  have a1 := add_eq (add_eq v2 (mul_eq (fa := xC (.int 7919)) rfl v1 (cMul_small (by omega) (by omega)))) (fb := xC (.int 104729)) rfl
  have p0 : (0 : Int) < 2305843009213693951 := by decide
  have a2 := xOp2_eq (g := dMod) (xOpN1_eq (g := dIntOf) a1 rfl) (fb := xC (.int 2305843009213693951)) (d2 := .int 2305843009213693951) rfl (dMod_eq p0)
  have s3 := sSet_dat (i := 3) a2
  generalize hy : (x + 7919 * (j : Int) + 104729) % 2305843009213693951 = y at s3
  have y0 : 0 ≤ y := by rw [← hy]; exact Int.emod_nonneg _ (by decide)
  have y1 : y < 2305843009213693951 := by rw [← hy]; exact Int.emod_lt_of_pos _ p0
  generalize hσ : ρ.set 3 (some (.dat (.int y))) = σ at s3
  have w1 : xVar 1 σ = some (.ok (.dat (.int j)), σ) := by rw [← hσ, ← hρ]; rfl
  have w3 : xVar 3 σ = some (.ok (.dat (.int y)), σ) := by rw [← hσ, ← hρ]; rfl
  have by_ := bits_of (i := y) (k := 61) (by omega)
  have yy : y * y < 2 ^ 122 := by
    have := Int.mul_lt_mul (a := y) (b := y) (c := 2 ^ 61) (d := 2 ^ 61)
    have h3 : y * y ≤ 2305843009213693951 * 2305843009213693951 := Int.mul_le_mul (by omega) (by omega) y0 (by omega)
    omega
  have yy0 : 0 ≤ y * y := Int.mul_nonneg y0 y0
  have byy := bits_of (i := y * y) (k := 122) (by omega)
  have m1 := mul_eq (mul_eq w3 w3 (cMul_of (by omega))) w3 (cMul_of (by omega))
  have b1 := add_eq (add_eq m1 (mul_eq (fa := xC (.int 31)) rfl w1 (cMul_small (by omega) (by omega)))) (fb := xC (.int 7)) rfl
  have b2 := xOp2_eq (g := dMod) (xOpN1_eq (g := dIntOf) b1 rfl) (fb := xC (.int 2305843009213693951)) (d2 := .int 2305843009213693951) rfl (dMod_eq p0)
  have s4 := sSet_dat (i := 3) b2
  generalize hz : (y * y * y + 31 * (j : Int) + 7) % 2305843009213693951 = z at s4
  have z0 : 0 ≤ z := by rw [← hz]; exact Int.emod_nonneg _ (by decide)
  have z1 : z < 2305843009213693951 := by rw [← hz]; exact Int.emod_lt_of_pos _ p0
  generalize hτ : σ.set 3 (some (.dat (.int z))) = τ at s4
  have u2 : xVar 2 τ = some (.ok (.dat (.int x)), τ) := by rw [← hτ, ← hσ, ← hρ]; rfl
  have u3 : xVar 3 τ = some (.ok (.dat (.int z)), τ) := by rw [← hτ, ← hσ, ← hρ]; rfl
  have p18 := pow_eq (b := 10) (e := 18) (k := 4) (ρ := τ) (by decide) (by decide)
  have c := lt_eq u2 p18
  by_cases h : x < ((10 : Nat) : Int) ^ 18
  · rw [decide_eq_true h] at c
    have l := xLst_dats (ds := [.int 0, .int z]) (xCons_eq (fa := xC (.int 0)) rfl (xCons_eq u3 xNil_eq)) (by simp)
    refine ⟨.lst [.int 0, .int z], ⟨0, z, rfl, z0, by omega⟩, ?_⟩
    unfold m_law_deck
    exact fnP_eq rfl ((sSeq_nx s1).trans ((sSeq_nx s2).trans ((sSeq_nx s3).trans ((sSeq_nx s4).trans (sSeq_rt ((sIf_t c).trans (sRet_eq l))))))) rfl
  · rw [decide_eq_false h] at c
    have l := xLst_dats (ds := [.int (x - ((10 : Nat) : Int) ^ 18), .int z]) (xCons_eq (xOp2_eq (g := dSub) u2 p18 rfl) (xCons_eq u3 xNil_eq)) (by simp)
    refine ⟨.lst [.int (x - ((10 : Nat) : Int) ^ 18), .int z], ⟨_, z, rfl, z0, by omega⟩, ?_⟩
    unfold m_law_deck
    exact fnP_eq rfl ((sSeq_nx s1).trans ((sSeq_nx s2).trans ((sSeq_nx s3).trans ((sSeq_nx s4).trans ((sSeq_nx ((sIf_f c).trans rfl)).trans (sRet_eq l)))))) rfl
inductive SmN : Nat → D → Prop
  | int (k : Nat) (i : Int) : SmN (k + 1) (.int i)
  | bool (k : Nat) (b : Bool) : SmN (k + 1) (.bool b)
  | str (k : Nat) (x : Str) : SmN (k + 1) (.str x)
  | non (k : Nat) : SmN (k + 1) .none
  | tup {k : Nat} {ds : List D} : ds.length < 10000 → (∀ d ∈ ds, SmN k d) → SmN (k + 1) (.tuple ds)
  | lst {k : Nat} {ds : List D} : ds.length < 10000 → (∀ d ∈ ds, SmN k d) → SmN (k + 1) (.list ds)
theorem SmN.two {k : Nat} {a b : D} (ha : SmN k a) (hb : SmN k b) : ∀ d ∈ [a, b], SmN k d := fun d hd => by
  rcases List.mem_cons.mp hd with rfl | hd
  · exact ha
  · rw [List.mem_singleton.mp hd]; exact hb
theorem SmN.none_ {k : Nat} : ∀ d ∈ ([] : List D), SmN k d := fun d hd => by cases hd
def gv (f n : Int) : List D := [.int f, .int n, .str "", .str "a b", .none, .bool true, .bool false, .tuple [], .tuple [.int f, .int 1], .list [.int f, .str "x"], .tuple [.tuple [.int 1, .int 2], .tuple [.str "a", .tuple []]], .list []] ++ [.int (-1), .int 0]
theorem gv_sm (f n : Int) : ∀ d ∈ gv f n, SmN 12 d := fun d hd => by
  simp only [gv, List.cons_append, List.nil_append, List.mem_cons, List.not_mem_nil, or_false] at hd
  rcases hd with rfl | rfl | rfl | rfl | rfl | rfl | rfl | rfl | rfl | rfl | rfl | rfl | rfl | rfl
  · exact .int _ _
  · exact .int _ _
  · exact .str _ _
  · exact .str _ _
  · exact .non _
  · exact .bool _ _
  · exact .bool _ _
  · exact .tup (by simp) SmN.none_
  · exact .tup (by simp) (SmN.two (.int _ _) (.int _ _))
  · exact .lst (by simp) (SmN.two (.int _ _) (.str _ _))
  · exact .tup (by simp) (SmN.two (.tup (by simp) (SmN.two (.int _ _) (.int _ _))) (.tup (by simp) (SmN.two (.str _ _) (.tup (by simp) SmN.none_))))
  · exact .lst (by simp) SmN.none_
  · exact .int _ _
  · exact .int _ _
theorem given_ok {o : Ob} (dk : Dq o) : ∃ (d : D) (o' : Ob), SmN 12 d ∧ Dq o' ∧ m_law_given [.own o] = some (.ok (.dat d), some o') := by
  have p30 := pow_eq (b := 10) (e := 30) (k := 4) (ρ := [some (.own o), none, none]) (by decide) (by decide)
  obtain ⟨x, o1, x1, d1, e1⟩ := take_at (j := 0) dk (m := ((10 : Nat) : Int) ^ 30) (by decide) (by decide) (ρ := [some (.own o), none, none]) rfl p30
  have p29 := pow_eq (b := 10) (e := 29) (k := 4) (ρ := [some (.own o1), none, none]) (by decide) (by decide)
  have s1 := sSet_dat (i := 1) (xOp2_eq (g := dSub) (r := .dat (.int ((x : Int) - ((10 : Nat) : Int) ^ 29))) e1 p29 rfl)
  generalize hf : (x : Int) - ((10 : Nat) : Int) ^ 29 = f at s1
  obtain ⟨n, o2, n1, d2, e2⟩ := take_at (j := 0) d1 (m := 9) (by decide) (by decide) (ρ := [some (.own o1), some (.dat (.int f)), none]) (fa := xC (.int 9)) rfl rfl
  have t8 := xTup_nil (ρ := [some (.own o2), some (.dat (.int f)), none])
  have t9 := xTup_dats (ds := [.int f, .int 1]) (fr := xCons (xVar 1) (xCons (xC (.int 1)) xNil)) (ρ := [some (.own o2), some (.dat (.int f)), none]) rfl (by simp)
  have t10 := xLst_dats (ds := [.int f, .str "x"]) (fr := xCons (xVar 1) (xCons (xC (.str "x")) xNil)) (ρ := [some (.own o2), some (.dat (.int f)), none]) rfl (by simp)
  have ta := xTup_dats (ds := [.int 1, .int 2]) (fr := xCons (xC (.int 1)) (xCons (xC (.int 2)) xNil)) (ρ := [some (.own o2), some (.dat (.int f)), none]) rfl (by simp)
  have tb := xTup_dats (ds := [.str "a", .tuple []]) (fr := xCons (xC (.str "a")) (xCons (xTup xNil) xNil)) (ρ := [some (.own o2), some (.dat (.int f)), none]) (xCons_eq rfl (xCons_eq t8 xNil_eq)) (by simp)
  have t11 := xTup_dats (ds := [.tuple [.int 1, .int 2], .tuple [.str "a", .tuple []]]) (xCons_eq ta (xCons_eq tb xNil_eq)) (by simp)
  have t12 := xLst_nil (ρ := [some (.own o2), some (.dat (.int f)), none])
  have l := xLst_keep (rs := [.dat (.int f), .dat (.int n), .dat (.str ""), .dat (.str "a b"), .dat .none, .dat (.bool true), .dat (.bool false), .dat (.tuple []), .dat (.tuple [.int f, .int 1]), .own (.lst [.int f, .str "x"]), .dat (.tuple [.tuple [.int 1, .int 2], .tuple [.str "a", .tuple []]]), .own (.lst [])])
    (ds := [.int f, .int n, .str "", .str "a b", .none, .bool true, .bool false, .tuple [], .tuple [.int f, .int 1], .list [.int f, .str "x"], .tuple [.tuple [.int 1, .int 2], .tuple [.str "a", .tuple []]], .list []]) (ρ2 := [some (.own o2), some (.dat (.int f)), none])
    (xCons_eq (fa := xVar 1) (ρ := [some (.own o1), some (.dat (.int f)), none]) (ρ1 := [some (.own o1), some (.dat (.int f)), none]) (r := .dat (.int f)) rfl (xCons_eq e2 (xCons_eq (fa := xC (.str "")) rfl (xCons_eq (fa := xC (.str "a b")) rfl (xCons_eq (fa := xC .none) rfl (xCons_eq (fa := xC (.bool true)) rfl (xCons_eq (fa := xC (.bool false)) rfl (xCons_eq t8 (xCons_eq t9 (xCons_eq t10 (xCons_eq t11 (xCons_eq t12 xNil_eq)))))))))))) rfl (by simp)
  have s2 := sSet_own (i := 2) l
  have l2 := xLst_dats (ds := [.int (-1), .int 0]) (fr := xCons (xOp1 dNeg (xC (.int 1))) (xCons (xC (.int 0)) xNil)) (ρ := [some (.own o2), some (.dat (.int f)), some (.own (.lst [.int f, .int n, .str "", .str "a b", .none, .bool true, .bool false, .tuple [], .tuple [.int f, .int 1], .list [.int f, .str "x"], .tuple [.tuple [.int 1, .int 2], .tuple [.str "a", .tuple []]], .list []]))]) (xCons_eq (xOp1_eq (fa := xC (.int 1)) (d1 := .int 1) rfl rfl) (xCons_eq rfl xNil_eq)) (by simp)
  have s3 := sSet_own (i := 2) (add_slot_new (i := 2) rfl l2 rfl (by simp))
  obtain ⟨y, o3, y1, d3, e3⟩ := take_at (j := 0) d2 (m := 14) (by decide) (by decide) (ρ := [some (.own o2), some (.dat (.int f)), some (.own (.lst (gv f n)))]) (fa := xC (.int 14)) rfl rfl
  have hy : y < (gv f n).length := by show y < 14; omega
  have ix := ix_own (j := 2) (i := y) (xs := gv f n) (ρ := [some (.own o2), some (.dat (.int f)), some (.own (.lst (gv f n)))]) rfl e3 rfl hy
  refine ⟨(gv f n)[y], o3, gv_sm f n _ (List.getElem_mem hy), d3, ?_⟩
  unfold m_law_given
  exact fnP_eq rfl ((sSeq_nx s1).trans ((sSeq_nx s2).trans ((sSeq_nx s3).trans (sRet_eq ix)))) rfl
end K00
/-! k00: what is raised; what kinds it has -/
namespace K00
open PySem PySem.Spec PyProof.Rows L2 Ky Vm
def G2 (w : Nat) (d : D) : Vm.Env := [some (.dat (kD w)), some (.dat d)]
theorem step_f {w : Nat} {d : D} {k : Int} {g h : XS} (n : (w : Int) ≠ k) : sSeq (sIf (xB (xOp2 (dEq false) (xVar 0) (xC (.int k)))) g sNext) h (G2 w d) = h (G2 w d) := by
  have c := eq_eq (fa := xVar 0) (fb := xC (.int k)) (a := w) (b := k) (ρ := G2 w d) rfl rfl
  rw [decide_eq_false n] at c
  exact sSeq_nx ((sIf_f c).trans rfl)
theorem step_t {w : Nat} {d : D} {k : Int} {x : Str} {h : XS} (n : (w : Int) = k) : sSeq (sIf (xB (xOp2 (dEq false) (xVar 0) (xC (.int k)))) (sRaise x (xVar 1)) sNext) h (G2 w d) = some (.ex ⟨x, d⟩, G2 w d) := by
  have c := eq_eq (fa := xVar 0) (fb := xC (.int k)) (a := w) (b := k) (ρ := G2 w d) rfl rfl
  rw [decide_eq_true n] at c
  exact sSeq_ex ((sIf_t c).trans rfl)
theorem step_e {w : Nat} {d : D} {x : Str} : sRaise x (xVar 1) (G2 w d) = some (.ex ⟨x, d⟩, G2 w d) := rfl
def clsN (w : Nat) : Str := kcl.getD w ""
theorem first_ok (d : D) : ∀ w : Nat, w < 13 → m_law_raise_first [.dat (kD w), .dat d] = some (.error ⟨clsN w, d⟩, none) := by
  intro w h
  unfold m_law_raise_first
  refine fnN_eq rfl (q := (.ex ⟨clsN w, d⟩, G2 w d)) ?_ rfl
  show sSeq _ _ (G2 w d) = _
  match w, h with
  | 0, _ => exact step_t (by decide)
  | 1, _ => exact (step_f (by decide)).trans (step_t (by decide))
  | 2, _ => exact (step_f (by decide)).trans ((step_f (by decide)).trans (step_t (by decide)))
  | 3, _ => exact (step_f (by decide)).trans ((step_f (by decide)).trans ((step_f (by decide)).trans (step_t (by decide))))
  | 4, _ => exact (step_f (by decide)).trans ((step_f (by decide)).trans ((step_f (by decide)).trans ((step_f (by decide)).trans (step_t (by decide)))))
  | 5, _ => exact (step_f (by decide)).trans ((step_f (by decide)).trans ((step_f (by decide)).trans ((step_f (by decide)).trans ((step_f (by decide)).trans (step_t (by decide))))))
  | 6, _ => exact (step_f (by decide)).trans ((step_f (by decide)).trans ((step_f (by decide)).trans ((step_f (by decide)).trans ((step_f (by decide)).trans ((step_f (by decide)).trans (step_t (by decide)))))))
  | 7, _ => exact (step_f (by decide)).trans ((step_f (by decide)).trans ((step_f (by decide)).trans ((step_f (by decide)).trans ((step_f (by decide)).trans ((step_f (by decide)).trans ((step_f (by decide)).trans (step_t (by decide))))))))
  | 8, _ => exact (step_f (by decide)).trans ((step_f (by decide)).trans ((step_f (by decide)).trans ((step_f (by decide)).trans ((step_f (by decide)).trans ((step_f (by decide)).trans ((step_f (by decide)).trans ((step_f (by decide)).trans (step_t (by decide)))))))))
  | 9, _ => exact (step_f (by decide)).trans ((step_f (by decide)).trans ((step_f (by decide)).trans ((step_f (by decide)).trans ((step_f (by decide)).trans ((step_f (by decide)).trans ((step_f (by decide)).trans ((step_f (by decide)).trans ((step_f (by decide)).trans (step_t (by decide))))))))))
  | 10, _ => exact (step_f (by decide)).trans ((step_f (by decide)).trans ((step_f (by decide)).trans ((step_f (by decide)).trans ((step_f (by decide)).trans ((step_f (by decide)).trans ((step_f (by decide)).trans ((step_f (by decide)).trans ((step_f (by decide)).trans ((step_f (by decide)).trans (step_t (by decide)))))))))))
  | 11, _ => exact (step_f (by decide)).trans ((step_f (by decide)).trans ((step_f (by decide)).trans ((step_f (by decide)).trans ((step_f (by decide)).trans ((step_f (by decide)).trans ((step_f (by decide)).trans ((step_f (by decide)).trans ((step_f (by decide)).trans ((step_f (by decide)).trans ((step_f (by decide)).trans (step_t (by decide))))))))))))
  | 12, _ => exact (step_f (by decide)).trans ((step_f (by decide)).trans ((step_f (by decide)).trans ((step_f (by decide)).trans ((step_f (by decide)).trans ((step_f (by decide)).trans ((step_f (by decide)).trans ((step_f (by decide)).trans ((step_f (by decide)).trans ((step_f (by decide)).trans ((step_f (by decide)).trans ((step_f (by decide)).trans (step_e))))))))))))
theorem named_first_ok (d : D) : ∀ w : Nat, w < 13 → m_law_raise_named_first [.dat (kD w), .dat d] = some (.error ⟨clsN w, d⟩, none) := first_ok d
theorem second_ok (d : D) : ∀ w : Nat, 13 ≤ w → w < 25 → m_law_raise_second [.dat (kD w), .dat d] = some (.error ⟨clsN w, d⟩, none) := by
  intro w h0 h
  obtain ⟨v, rfl⟩ : ∃ v, w = v + 13 := ⟨w - 13, by omega⟩
  have hv : v < 12 := by omega
  clear h0 h
  unfold m_law_raise_second
  refine fnN_eq rfl (q := (.ex ⟨clsN (v + 13), d⟩, G2 (v + 13) d)) ?_ rfl
  show sSeq _ _ (G2 (v + 13) d) = _
  match v, hv with
  | 0, _ => exact step_t (by decide)
  | 1, _ => exact (step_f (by decide)).trans (step_t (by decide))
  | 2, _ => exact (step_f (by decide)).trans ((step_f (by decide)).trans (step_t (by decide)))
  | 3, _ => exact (step_f (by decide)).trans ((step_f (by decide)).trans ((step_f (by decide)).trans (step_t (by decide))))
  | 4, _ => exact (step_f (by decide)).trans ((step_f (by decide)).trans ((step_f (by decide)).trans ((step_f (by decide)).trans (step_t (by decide)))))
  | 5, _ => exact (step_f (by decide)).trans ((step_f (by decide)).trans ((step_f (by decide)).trans ((step_f (by decide)).trans ((step_f (by decide)).trans (step_t (by decide))))))
  | 6, _ => exact (step_f (by decide)).trans ((step_f (by decide)).trans ((step_f (by decide)).trans ((step_f (by decide)).trans ((step_f (by decide)).trans ((step_f (by decide)).trans (step_t (by decide)))))))
  | 7, _ => exact (step_f (by decide)).trans ((step_f (by decide)).trans ((step_f (by decide)).trans ((step_f (by decide)).trans ((step_f (by decide)).trans ((step_f (by decide)).trans ((step_f (by decide)).trans (step_t (by decide))))))))
  | 8, _ => exact (step_f (by decide)).trans ((step_f (by decide)).trans ((step_f (by decide)).trans ((step_f (by decide)).trans ((step_f (by decide)).trans ((step_f (by decide)).trans ((step_f (by decide)).trans ((step_f (by decide)).trans (step_t (by decide)))))))))
  | 9, _ => exact (step_f (by decide)).trans ((step_f (by decide)).trans ((step_f (by decide)).trans ((step_f (by decide)).trans ((step_f (by decide)).trans ((step_f (by decide)).trans ((step_f (by decide)).trans ((step_f (by decide)).trans ((step_f (by decide)).trans (step_t (by decide))))))))))
  | 10, _ => exact (step_f (by decide)).trans ((step_f (by decide)).trans ((step_f (by decide)).trans ((step_f (by decide)).trans ((step_f (by decide)).trans ((step_f (by decide)).trans ((step_f (by decide)).trans ((step_f (by decide)).trans ((step_f (by decide)).trans ((step_f (by decide)).trans (step_t (by decide)))))))))))
  | 11, _ => exact (step_f (by decide)).trans ((step_f (by decide)).trans ((step_f (by decide)).trans ((step_f (by decide)).trans ((step_f (by decide)).trans ((step_f (by decide)).trans ((step_f (by decide)).trans ((step_f (by decide)).trans ((step_f (by decide)).trans ((step_f (by decide)).trans ((step_f (by decide)).trans (step_e)))))))))))
theorem named_second_ok (d : D) : ∀ w : Nat, 13 ≤ w → w < 25 → m_law_raise_named_second [.dat (kD w), .dat d] = some (.error ⟨clsN w, d⟩, none) := second_ok d
theorem raised_ok (d : D) (b : Bool) {w : Nat} (h : w < 25) : m_law_raised [.dat (kD w), .dat d, .dat (.bool b)] = some (.error ⟨clsN w, d⟩, none) := by
  generalize hρ : ([some (.dat (kD w)), some (.dat d), some (.dat (.bool b))] : Vm.Env) = ρ
  have c := lt_eq (fa := xVar 0) (fb := xC (.int 13)) (a := w) (b := 13) (ρ := ρ) (ρ1 := ρ) (ρ2 := ρ) (by rw [← hρ]; rfl) rfl
  have t := xTru_b (fa := xVar 2) (b := b) (ρ := ρ) (ρ1 := ρ) (by rw [← hρ]; rfl)
  have ar : xCons (xVar 0) (xCons (xVar 1) xNil) ρ = some (.ok (([kD w, d] : List D).map .dat), ρ) := by rw [← hρ]; rfl
  have out : m_law_raised [.dat (kD w), .dat d, .dat (.bool b)] = some (.error ⟨clsN w, d⟩, none) := by
    unfold m_law_raised
    refine fnN_eq rfl (q := (.ex ⟨clsN w, d⟩, ρ)) ?_ rfl
    show sIf _ _ _ [some (.dat (kD w)), some (.dat d), some (.dat (.bool b))] = _
    rw [hρ]
    by_cases hw : w < 13
    · rw [decide_eq_true (by omega)] at c
      cases b with
      | true => exact (sIf_t ((bAnd_t c).trans t)).trans (sExpr_ex (callE (T := m_law_raise_named_first) ar (named_first_ok d w hw)))
      | false => exact (sIf_f ((bAnd_t c).trans t)).trans ((sIf_t c).trans (sExpr_ex (callE (T := m_law_raise_first) ar (first_ok d w hw))))
    · rw [decide_eq_false (by omega)] at c
      cases b with
      | true => exact (sIf_f (bAnd_f c)).trans ((sIf_f c).trans ((sIf_t t).trans (sExpr_ex (callE (T := m_law_raise_named_second) ar (named_second_ok d w (by omega) h)))))
      | false => exact (sIf_f (bAnd_f c)).trans ((sIf_f c).trans ((sIf_f t).trans (sExpr_ex (callE (T := m_law_raise_second) ar (second_ok d w (by omega) h)))))
  exact out
/-! kinds -/
def bk (cls h : Str) : Bool := decide ((cls, h) ∈ kinK)
def kinds (cls : Str) : List Bool := kcl.map (bk cls)
theorem isC_ok {cls h : Str} {val : D} {ρ : Vm.Env} {i : Nat} (hc : cls ∈ rcl) (e : ρ[i]? = some (some (.own (.exc cls val)))) : xIsC (kitOf rcl kinK h) i ρ = some (.ok (.dat (.bool (bk cls h))), ρ) := by
  unfold xIsC
  rw [e]
  show ((kitOf rcl kinK h) cls).map _ = _
  unfold kitOf
  rw [if_pos hc]
  rfl
theorem isV_ok {cls : Str} {val : D} {ρ : Vm.Env} {i : Nat} (hc : cls ∈ rcl) (e : ρ[i]? = some (some (.own (.exc cls val)))) : xIsC (kitV rcl) i ρ = some (.ok (.dat (.bool true)), ρ) := by
  unfold xIsC
  rw [e]
  show ((kitV rcl) cls).map _ = _
  unfold kitV
  rw [if_pos hc]
  rfl
def N2 (cls : Str) (val : D) (bs : List Bool) : Vm.Env := [some (.own (.exc cls val)), some (.own (.lst (bs.map .bool)))]
theorem three {cls h1 h2 h3 : Str} {val : D} {ρ : Vm.Env} (hc : cls ∈ rcl) (e : ρ[0]? = some (some (.own (.exc cls val)))) : xLst (xCons (xIsC (kitOf rcl kinK h1) 0) (xCons (xIsC (kitOf rcl kinK h2) 0) (xCons (xIsC (kitOf rcl kinK h3) 0) xNil))) ρ = some (.ok (.own (.lst (([bk cls h1, bk cls h2, bk cls h3] : List Bool).map .bool))), ρ) :=
  xLst_dats (ds := [.bool (bk cls h1), .bool (bk cls h2), .bool (bk cls h3)]) (xCons_eq (isC_ok hc e) (xCons_eq (isC_ok hc e) (xCons_eq (isC_ok hc e) xNil_eq))) (by simp)
theorem more {cls : Str} {val : D} {fb : M R} {bs cs : List Bool} (e : fb (N2 cls val bs) = some (.ok (.own (.lst (cs.map .bool))), N2 cls val bs)) (h : bs.length + cs.length < 10000) : sSet 1 (xOp2 dAdd (xVar 1) fb) (N2 cls val bs) = some (.nx, N2 cls val (bs ++ cs)) := by
  have a := add_slot_new (i := 1) (xs := bs.map .bool) (ρ := N2 cls val bs) rfl e rfl (by rw [List.length_map, List.length_map]; exact h)
  rw [← List.map_append] at a
  exact sSet_own (i := 1) a
theorem kinds_ok {cls : Str} (val : D) (hc : cls ∈ rcl) : m_law_kinds [.own (.exc cls val)] = some (.ok (.own (.lst ((kinds cls).map .bool))), some (.exc cls val)) := by
  have s1 := sSet_own (i := 1) (three (cls := cls) (val := val) (h1 := "InvalidBook") (h2 := "InvalidWord") (h3 := "InvalidNumber") (ρ := [some (.own (.exc cls val)), none]) hc rfl)
  have s2 := more (three (cls := cls) (val := val) (h1 := "InvalidKey") (h2 := "InvalidCell") (h3 := "InvalidRow") (ρ := N2 cls val ([bk cls "InvalidBook", bk cls "InvalidWord", bk cls "InvalidNumber"])) hc rfl) (by simp)
  have s3 := more (three (cls := cls) (val := val) (h1 := "InvalidLot") (h2 := "InvalidTable") (h3 := "InvalidValues") (ρ := N2 cls val ([bk cls "InvalidBook", bk cls "InvalidWord", bk cls "InvalidNumber"] ++ [bk cls "InvalidKey", bk cls "InvalidCell", bk cls "InvalidRow"])) hc rfl) (by simp)
  have s4 := more (three (cls := cls) (val := val) (h1 := "InvalidRoad") (h2 := "InvalidSeats") (h3 := "NotFree") (ρ := N2 cls val ([bk cls "InvalidBook", bk cls "InvalidWord", bk cls "InvalidNumber"] ++ [bk cls "InvalidKey", bk cls "InvalidCell", bk cls "InvalidRow"] ++ [bk cls "InvalidLot", bk cls "InvalidTable", bk cls "InvalidValues"])) hc rfl) (by simp)
  have s5 := more (three (cls := cls) (val := val) (h1 := "NoTable") (h2 := "NoSeats") (h3 := "InvalidPlacing") (ρ := N2 cls val ([bk cls "InvalidBook", bk cls "InvalidWord", bk cls "InvalidNumber"] ++ [bk cls "InvalidKey", bk cls "InvalidCell", bk cls "InvalidRow"] ++ [bk cls "InvalidLot", bk cls "InvalidTable", bk cls "InvalidValues"] ++ [bk cls "InvalidRoad", bk cls "InvalidSeats", bk cls "NotFree"])) hc rfl) (by simp)
  have s6 := more (three (cls := cls) (val := val) (h1 := "InvalidChain") (h2 := "InvalidMixing") (h3 := "InvalidFilter") (ρ := N2 cls val ([bk cls "InvalidBook", bk cls "InvalidWord", bk cls "InvalidNumber"] ++ [bk cls "InvalidKey", bk cls "InvalidCell", bk cls "InvalidRow"] ++ [bk cls "InvalidLot", bk cls "InvalidTable", bk cls "InvalidValues"] ++ [bk cls "InvalidRoad", bk cls "InvalidSeats", bk cls "NotFree"] ++ [bk cls "NoTable", bk cls "NoSeats", bk cls "InvalidPlacing"])) hc rfl) (by simp)
  have s7 := more (three (cls := cls) (val := val) (h1 := "InvalidName") (h2 := "HasCore") (h3 := "NotGood") (ρ := N2 cls val ([bk cls "InvalidBook", bk cls "InvalidWord", bk cls "InvalidNumber"] ++ [bk cls "InvalidKey", bk cls "InvalidCell", bk cls "InvalidRow"] ++ [bk cls "InvalidLot", bk cls "InvalidTable", bk cls "InvalidValues"] ++ [bk cls "InvalidRoad", bk cls "InvalidSeats", bk cls "NotFree"] ++ [bk cls "NoTable", bk cls "NoSeats", bk cls "InvalidPlacing"] ++ [bk cls "InvalidChain", bk cls "InvalidMixing", bk cls "InvalidFilter"])) hc rfl) (by simp)
  have s8 := more (three (cls := cls) (val := val) (h1 := "UnknownName") (h2 := "NothingToUndo") (h3 := "Unreadable") (ρ := N2 cls val ([bk cls "InvalidBook", bk cls "InvalidWord", bk cls "InvalidNumber"] ++ [bk cls "InvalidKey", bk cls "InvalidCell", bk cls "InvalidRow"] ++ [bk cls "InvalidLot", bk cls "InvalidTable", bk cls "InvalidValues"] ++ [bk cls "InvalidRoad", bk cls "InvalidSeats", bk cls "NotFree"] ++ [bk cls "NoTable", bk cls "NoSeats", bk cls "InvalidPlacing"] ++ [bk cls "InvalidChain", bk cls "InvalidMixing", bk cls "InvalidFilter"] ++ [bk cls "InvalidName", bk cls "HasCore", bk cls "NotGood"])) hc rfl) (by simp)
  have last : xLst (xCons (xIsC (kitOf rcl kinK "Unorderly") 0) xNil) (N2 cls val ([bk cls "InvalidBook", bk cls "InvalidWord", bk cls "InvalidNumber"] ++ [bk cls "InvalidKey", bk cls "InvalidCell", bk cls "InvalidRow"] ++ [bk cls "InvalidLot", bk cls "InvalidTable", bk cls "InvalidValues"] ++ [bk cls "InvalidRoad", bk cls "InvalidSeats", bk cls "NotFree"] ++ [bk cls "NoTable", bk cls "NoSeats", bk cls "InvalidPlacing"] ++ [bk cls "InvalidChain", bk cls "InvalidMixing", bk cls "InvalidFilter"] ++ [bk cls "InvalidName", bk cls "HasCore", bk cls "NotGood"] ++ [bk cls "UnknownName", bk cls "NothingToUndo", bk cls "Unreadable"])) = some (.ok (.own (.lst (([bk cls "Unorderly"] : List Bool).map .bool))), N2 cls val ([bk cls "InvalidBook", bk cls "InvalidWord", bk cls "InvalidNumber"] ++ [bk cls "InvalidKey", bk cls "InvalidCell", bk cls "InvalidRow"] ++ [bk cls "InvalidLot", bk cls "InvalidTable", bk cls "InvalidValues"] ++ [bk cls "InvalidRoad", bk cls "InvalidSeats", bk cls "NotFree"] ++ [bk cls "NoTable", bk cls "NoSeats", bk cls "InvalidPlacing"] ++ [bk cls "InvalidChain", bk cls "InvalidMixing", bk cls "InvalidFilter"] ++ [bk cls "InvalidName", bk cls "HasCore", bk cls "NotGood"] ++ [bk cls "UnknownName", bk cls "NothingToUndo", bk cls "Unreadable"])) := xLst_dats (ds := [.bool (bk cls "Unorderly")]) (xCons_eq (isC_ok hc rfl) xNil_eq) (by simp)
  have a := add_slot_new (i := 1) (xs := ([bk cls "InvalidBook", bk cls "InvalidWord", bk cls "InvalidNumber"] ++ [bk cls "InvalidKey", bk cls "InvalidCell", bk cls "InvalidRow"] ++ [bk cls "InvalidLot", bk cls "InvalidTable", bk cls "InvalidValues"] ++ [bk cls "InvalidRoad", bk cls "InvalidSeats", bk cls "NotFree"] ++ [bk cls "NoTable", bk cls "NoSeats", bk cls "InvalidPlacing"] ++ [bk cls "InvalidChain", bk cls "InvalidMixing", bk cls "InvalidFilter"] ++ [bk cls "InvalidName", bk cls "HasCore", bk cls "NotGood"] ++ [bk cls "UnknownName", bk cls "NothingToUndo", bk cls "Unreadable"]).map .bool) (ρ := N2 cls val ([bk cls "InvalidBook", bk cls "InvalidWord", bk cls "InvalidNumber"] ++ [bk cls "InvalidKey", bk cls "InvalidCell", bk cls "InvalidRow"] ++ [bk cls "InvalidLot", bk cls "InvalidTable", bk cls "InvalidValues"] ++ [bk cls "InvalidRoad", bk cls "InvalidSeats", bk cls "NotFree"] ++ [bk cls "NoTable", bk cls "NoSeats", bk cls "InvalidPlacing"] ++ [bk cls "InvalidChain", bk cls "InvalidMixing", bk cls "InvalidFilter"] ++ [bk cls "InvalidName", bk cls "HasCore", bk cls "NotGood"] ++ [bk cls "UnknownName", bk cls "NothingToUndo", bk cls "Unreadable"])) rfl last rfl (by simp)
  rw [← List.map_append] at a
  unfold m_law_kinds
  exact fnP_eq rfl ((sSeq_nx s1).trans ((sSeq_nx s2).trans ((sSeq_nx s3).trans ((sSeq_nx s4).trans ((sSeq_nx s5).trans ((sSeq_nx s6).trans ((sSeq_nx s7).trans ((sSeq_nx s8).trans (sRet_eq a))))))))) rfl
theorem kinds_n : ∀ w : Nat, w < 25 → kinds (clsN w) = (List.range 25).map fun k => decide (k = w) := by decide +kernel
theorem kinds_t : kinds "TellError" = List.replicate 25 false := by decide +kernel
theorem cls_in : ∀ w : Nat, w < 25 → clsN w ∈ rcl := by decide +kernel
end K00
/-! k00: what is the same as itself -/
namespace K00
open PySem PySem.Spec PyProof.Rows L2 Ky Vm
def Q3 (d : D) : Vm.Env := [some (.dat d), some (.dat d), none]
theorem nx3 {g h : XS} {d : D} {ft : M Bool} (e : ft (Q3 d) = some (.ok false, Q3 d)) : sSeq (sIf ft g sNext) h (Q3 d) = h (Q3 d) := sSeq_nx (ρ1 := Q3 d) ((sIf_f (ρ1 := Q3 d) e).trans rfl)
theorem same_none {k : Nat} {ds : List D} (ih : ∀ d, SmN k d → fnP 2 3 none (b_law_same k) [.dat d, .dat d] = some (.ok (.dat (.bool true)), none)) {x : D} (hz : ds.length < 10000) (h : ∀ d ∈ ds, SmN k d)
    (ln : xOpN dLen (xCons (xVar 1) xNil) (Q3 x) = some (.ok (.dat (.int ds.length)), Q3 x)) (ix : ∀ (i : Nat) (hi : i < ds.length) (j : Nat) (σ : Vm.Env), σ = [some (.dat x), some (.dat x), some (.dat (.int (i : Nat)))] → (j = 0 ∨ j = 1) → xOp2 dIx (xVar j) (xVar 2) σ = some (.ok (.dat ds[i]), σ)) :
    xOp2 (dEq false) (xLc [2] (iRg1 (xOpN dLen (xCons (xVar 1) xNil))) (tName 2) (bNot (xTru (xCall none (fnP 2 3 none (b_law_same k)) (xCons (xOp2 dIx (xVar 0) (xVar 2)) (xCons (xOp2 dIx (xVar 1) (xVar 2)) xNil))))) (xVar 2)) (xLst xNil) (Q3 x) = some (.ok (.dat (.bool true)), Q3 x) := by
  have lc := lc_pure (vs := [2]) (tgt := tName 2) (ft := bNot (xTru (xCall none (fnP 2 3 none (b_law_same k)) (xCons (xOp2 dIx (xVar 0) (xVar 2)) (xCons (xOp2 dIx (xVar 1) (xVar 2)) xNil))))) (fe := xVar 2) (b := fun _ => false) (h := fun d => d) (iRg1_eq ln (by omega)) (by rw [rngD_len]; omega) (fun d hd => by
    obtain ⟨i, hi, rfl⟩ := List.mem_iff_getElem.mp hd
    rw [rngD_len] at hi
    have i0 := ix i hi 0 _ rfl (.inl rfl)
    have i1 := ix i hi 1 _ rfl (.inr rfl)
    have c := bNot_eq (xTru_b (callN2 (T := fnP 2 3 none (b_law_same k)) i0 i1 (ih ds[i] (h _ (List.getElem_mem hi)))))
    exact ⟨[some (.dat x), some (.dat x), some (.dat (.int (i : Nat)))], [some (.dat x), some (.dat x), some (.dat (.int (i : Nat)))], by rw [rngD_at]; rfl, c, (fun z => by cases z), fun _ => rfl⟩)
  have e : ((rngD 0 (ds.length : Int)).filter fun _ => false).map (fun d => d) = [] := by simp
  rw [e] at lc
  have lc2 : xLc [2] (iRg1 (xOpN dLen (xCons (xVar 1) xNil))) (tName 2) (bNot (xTru (xCall none (fnP 2 3 none (b_law_same k)) (xCons (xOp2 dIx (xVar 0) (xVar 2)) (xCons (xOp2 dIx (xVar 1) (xVar 2)) xNil))))) (xVar 2) (Q3 x) = some (.ok (.own (.lst [])), Q3 x) := lc
  refine xOp2_own lc2 xLst_nil ?_
  rw [dEq_sh (Sh.lst (k := 1) (fun _ z => by cases z)) (Sh.lst (k := 1) (fun _ z => by cases z)) (by decide) (by decide), Vm.eqv_nil]
  rfl
theorem same_refl : ∀ (k : Nat) (d : D), SmN k d → fnP 2 3 none (b_law_same k) [.dat d, .dat d] = some (.ok (.dat (.bool true)), none)
  | 0, d, h => by cases h
  | k + 1, d, h => by
    have ih := same_refl k
    refine fnP_eq (q := (.rt (.dat (.bool true)), Q3 d)) rfl ?_ rfl
    show b_law_same (k + 1) (Q3 d) = _
    unfold b_law_same
    cases h with
    | int _ i =>
      have q : xAnd (xIsi ["int"] (xVar 0)) (xOp2 (dEq false) (xVar 0) (xVar 1)) (Q3 (.int i)) = some (.ok (.dat (.bool true)), Q3 (.int i)) := by
        refine (xAnd_t (ρ1 := Q3 (.int i)) rfl).trans ?_
        have := xOp2_eq (g := dEq false) (fa := xVar 0) (fb := xVar 1) (d1 := .int i) (d2 := .int i) (ρ := Q3 (.int i)) rfl rfl (dEq_int i i)
        rw [decide_eq_true rfl] at this
        exact this
      exact (nx3 rfl).trans ((nx3 rfl).trans ((nx3 rfl).trans ((nx3 ((bOr_f (ρ1 := Q3 (.int i)) rfl).trans rfl)).trans (sRet_eq q))))
    | bool _ i =>
      have q : xAnd (xIsi ["bool"] (xVar 1)) (xAnd (xIsi ["bool"] (xVar 0)) (xOp2 (dEq false) (xVar 0) (xVar 1))) (Q3 (.bool i)) = some (.ok (.dat (.bool true)), Q3 (.bool i)) := by
        refine (xAnd_t (ρ1 := Q3 (.bool i)) rfl).trans ((xAnd_t (ρ1 := Q3 (.bool i)) rfl).trans ?_)
        cases i <;> rfl
      exact (nx3 rfl).trans ((nx3 rfl).trans ((nx3 rfl).trans (sSeq_rt ((sIf_t (ρ1 := Q3 (.bool i)) (bOr_t (ρ1 := Q3 (.bool i)) rfl)).trans (sRet_eq q)))))
    | str _ i =>
      have q : xAnd (xIsi ["str"] (xVar 0)) (xOp2 (dEq false) (xVar 0) (xVar 1)) (Q3 (.str i)) = some (.ok (.dat (.bool true)), Q3 (.str i)) := by
        refine (xAnd_t (ρ1 := Q3 (.str i)) rfl).trans ?_
        exact xOp2_eq (g := dEq false) (fa := xVar 0) (fb := xVar 1) (d1 := .str i) (d2 := .str i) (ρ := Q3 (.str i)) rfl rfl (eq_str i)
      exact (nx3 rfl).trans ((nx3 rfl).trans (sSeq_rt ((sIf_t (ρ1 := Q3 (.str i)) rfl).trans (sRet_eq q))))
    | non _ =>
      exact (nx3 rfl).trans (sSeq_rt ((sIf_t (ρ1 := Q3 .none) rfl).trans (sRet_eq (r := .dat (.bool true)) rfl)))
    | @tup _ ds hz hs =>
      have ln := len_dT (fa := xVar 0) (xs := ds) (ρ := Q3 (.tuple ds)) rfl
      have ln1 := len_dT (fa := xVar 1) (xs := ds) (ρ := Q3 (.tuple ds)) rfl
      have ne : xB (xOp2 (dEq true) (xOpN dLen (xCons (xVar 0) xNil)) (xOpN dLen (xCons (xVar 1) xNil))) (Q3 (.tuple ds)) = some (.ok false, Q3 (.tuple ds)) := by
        have := xB_eq (xOp2_eq (g := dEq true) ln ln1 (dNe_int _ _))
        rw [decide_eq_false (fun z => z rfl)] at this
        exact this
      have q := same_none (x := .tuple ds) ih hz hs ln1 (fun i hi j σ e hj => by
        subst e
        rcases hj with rfl | rfl
        · exact ix_dT (fa := xVar 0) (fb := xVar 2) rfl rfl hi
        · exact ix_dT (fa := xVar 1) (fb := xVar 2) rfl rfl hi)
      exact sSeq_rt ((sIf_t (ρ1 := Q3 (.tuple ds)) rfl).trans ((nx3 ((bOr_f (ρ1 := Q3 (.tuple ds)) rfl).trans rfl)).trans ((nx3 ne).trans (sRet_eq q))))
    | @lst _ ds hz hs =>
      have ln := len_dL (fa := xVar 0) (xs := ds) (ρ := Q3 (.list ds)) rfl
      have ln1 := len_dL (fa := xVar 1) (xs := ds) (ρ := Q3 (.list ds)) rfl
      have ne : xB (xOp2 (dEq true) (xOpN dLen (xCons (xVar 0) xNil)) (xOpN dLen (xCons (xVar 1) xNil))) (Q3 (.list ds)) = some (.ok false, Q3 (.list ds)) := by
        have := xB_eq (xOp2_eq (g := dEq true) ln ln1 (dNe_int _ _))
        rw [decide_eq_false (fun z => z rfl)] at this
        exact this
      have q := same_none (x := .list ds) ih hz hs ln1 (fun i hi j σ e hj => by
        subst e
        rcases hj with rfl | rfl
        · exact ix_dL (fa := xVar 0) (fb := xVar 2) rfl rfl hi
        · exact ix_dL (fa := xVar 1) (fb := xVar 2) rfl rfl hi)
      exact sSeq_rt ((sIf_t (ρ1 := Q3 (.list ds)) rfl).trans ((nx3 ((bOr_f (ρ1 := Q3 (.list ds)) rfl).trans rfl)).trans ((nx3 ne).trans (sRet_eq q))))
end K00
/-! k00: right -/
namespace K00
open PySem PySem.Spec PyProof.Rows L2 Ky Vm
noncomputable abbrev tbl : Str → Str → Option Bool := tblOf ["TellError", "InvalidBook", "InvalidWord", "InvalidNumber", "InvalidKey", "InvalidCell", "InvalidRow", "InvalidLot", "InvalidTable", "InvalidValues", "InvalidRoad", "InvalidSeats", "NotFree", "NoTable", "NoSeats", "InvalidPlacing", "InvalidChain", "InvalidMixing", "InvalidFilter", "InvalidName", "HasCore", "NotGood", "UnknownName", "NothingToUndo", "Unreadable", "Unorderly"] ["TellError"] [("TellError", "TellError"), ("InvalidBook", "TellError"), ("InvalidWord", "TellError"), ("InvalidNumber", "TellError"), ("InvalidKey", "TellError"), ("InvalidCell", "TellError"), ("InvalidRow", "TellError"), ("InvalidLot", "TellError"), ("InvalidTable", "TellError"), ("InvalidValues", "TellError"), ("InvalidRoad", "TellError"), ("InvalidSeats", "TellError"), ("NotFree", "TellError"), ("NoTable", "TellError"), ("NoSeats", "TellError"), ("InvalidPlacing", "TellError"), ("InvalidChain", "TellError"), ("InvalidMixing", "TellError"), ("InvalidFilter", "TellError"), ("InvalidName", "TellError"), ("HasCore", "TellError"), ("NotGood", "TellError"), ("UnknownName", "TellError"), ("NothingToUndo", "TellError"), ("Unreadable", "TellError"), ("Unorderly", "TellError")]
theorem tbl_ok : ∀ c ∈ rcl, tbl c "TellError" = some true := by decide +kernel
/-- a try whose body raises: the clause's name hands it on to the slot j -/
theorem try_ok {g : XS} {x : Ex} {i j : Nat} {ρ ρ1 : Vm.Env} (e : g ρ = some (.ex x, ρ1)) (hc : x.cls ∈ rcl) (hi : i < ρ1.length) (hij : i ≠ j) :
    sTry tbl g [("TellError", some i, sMove j i)] ρ = some (.nx, (((ρ1.set i (some (.own (.exc x.cls x.val)))).set i none).set j (some (.own (.exc x.cls x.val)))).set i none) := by
  unfold sTry
  rw [e]
  show sPick tbl x _ ρ1 = _
  unfold sPick
  rw [tbl_ok _ hc]
  have mv : sMove j i (ρ1.set i (some (.own (.exc x.cls x.val)))) = some (.nx, ((ρ1.set i (some (.own (.exc x.cls x.val)))).set i none).set j (some (.own (.exc x.cls x.val)))) := by
    unfold sMove
    rw [List.getElem?_set_self hi]
  show ((sMove j i (ρ1.set i (some (.own (.exc x.cls x.val))))).bind noEx).map _ = _
  rw [mv]
  rfl
theorem xval_ok {cls : Str} {val : D} {ρ : Vm.Env} {i : Nat} (hc : cls ∈ rcl) (e : ρ[i]? = some (some (.own (.exc cls val)))) : xXval rcl i ρ = some (.ok (.dat val), ρ) := by
  unfold xXval
  rw [e]
  exact if_pos hc
theorem bools_sh (bs : List Bool) : Sh 2 (.list (bs.map .bool)) := Sh.lst fun d hd => by
  obtain ⟨b, _, rfl⟩ := List.mem_map.mp hd
  exact Sh.bool b
theorem kinds_call {cls : Str} {val : D} {ρ : Vm.Env} {i : Nat} (hc : cls ∈ rcl) (e : ρ[i]? = some (some (.own (.exc cls val)))) : xCall (some 0) m_law_kinds (xCons (xVar i) xNil) ρ = some (.ok (.own (.lst ((kinds cls).map .bool))), ρ.set i (some (.own (.exc cls val)))) :=
  callB (ds := []) e xNil_eq e (kinds_ok val hc)
def P6 (w : Nat) (d : D) (b : Bool) (x3 x4 : Option C) : Vm.Env := [some (.dat (kD w)), some (.dat d), some (.dat (.bool b)), x3, x4, none]
theorem right_ok {d : D} (sm : SmN 12 d) (b : Bool) {w : Nat} (h : w < 25) : m_law_right [.dat (kD w), .dat d, .dat (.bool b)] = some (.ok (.dat (.bool true)), none) := by
  have hc := cls_in w h
  have s1 : sSet 3 (xC .none) (P6 w d b none none) = some (.nx, P6 w d b (some (.dat .none)) none) := rfl
  have body := sExpr_ex (callE (T := m_law_raised) (ds := [kD w, d, .bool b]) (fr := xCons (xVar 0) (xCons (xVar 1) (xCons (xVar 2) xNil))) (ρ := P6 w d b (some (.dat .none)) none) (ρ1 := P6 w d b (some (.dat .none)) none) rfl (raised_ok d b h))
  have s2 := try_ok (i := 4) (j := 3) body hc (by show 4 < 6; decide) (by decide)
  generalize hcls : clsN w = cls at hc s2
  have s2' : sTry tbl (sExpr (xCall none m_law_raised (xCons (xVar 0) (xCons (xVar 1) (xCons (xVar 2) xNil))))) [("TellError", some 4, sMove 3 4)] (P6 w d b (some (.dat .none)) none) = some (.nx, P6 w d b (some (.own (.exc cls d))) none) := s2
  have c1 : xB (xIsX false 3) (P6 w d b (some (.own (.exc cls d))) none) = some (.ok false, P6 w d b (some (.own (.exc cls d))) none) := rfl
  have c2 := bNot_eq (xTru_b (isV_ok (i := 3) (ρ := P6 w d b (some (.own (.exc cls d))) none) hc rfl))
  have kc := kinds_call (i := 3) (ρ := P6 w d b (some (.own (.exc cls d))) none) hc rfl
  have lc := lc_map (vs := [5]) (fi := iRg1 (xC (.int 25))) (tgt := tName 5) (fe := xOp2 (dEq false) (xVar 5) (xVar 0)) (h := fun d => .bool (decide ((toI d).toNat = w))) (ρ := P6 w d b (some (.own (.exc cls d))) none) (iRg1_eq (n := 25) (ρ := P6 w d b (some (.own (.exc cls d))) none) rfl (by omega)) (by rw [rngD_len]; omega) (fun z hz => by
    obtain ⟨i, hi, rfl⟩ := List.mem_iff_getElem.mp hz
    have q := xOp2_eq (g := dEq false) (fa := xVar 5) (fb := xVar 0) (d1 := .int (i : Nat)) (d2 := .int (w : Nat)) (ρ := [some (.dat (kD w)), some (.dat d), some (.dat (.bool b)), some (.own (.exc cls d)), none, some (.dat (.int (i : Nat)))]) rfl rfl (dEq_int _ _)
    refine ⟨[some (.dat (kD w)), some (.dat d), some (.dat (.bool b)), some (.own (.exc cls d)), none, some (.dat (.int (i : Nat)))], [some (.dat (kD w)), some (.dat d), some (.dat (.bool b)), some (.own (.exc cls d)), none, some (.dat (.int (i : Nat)))], by rw [rngD_at]; rfl, ?_, rfl⟩
    rw [rngD_at]
    have e : decide ((i : Int) = (w : Int)) = decide ((toI (.int (i : Nat))).toNat = w) := decide_eq_decide.mpr (by show _ ↔ ((i : Int)).toNat = w; omega)
    rw [e] at q
    exact q)
  have el : (rngD 0 ((25 : Nat) : Int)).map (fun d => PyData.bool (decide ((toI d).toNat = w))) = (kinds cls).map .bool := by
    rw [← hcls, kinds_n w h, rngD_ints, List.map_map, List.map_map, List.map_map]
    refine List.map_congr_left fun k _ => ?_
    show PyData.bool (decide (((k : Int)).toNat = w)) = _
    rw [Int.toNat_natCast]; rfl
  rw [el] at lc
  have lc2 : xLc [5] (iRg1 (xC (.int 25))) (tName 5) xYes (xOp2 (dEq false) (xVar 5) (xVar 0)) (P6 w d b (some (.own (.exc cls d))) none) = some (.ok (.own (.lst ((kinds cls).map .bool))), P6 w d b (some (.own (.exc cls d))) none) := lc
  have eq := xOp2_own (g := dEq false) (r := .dat (.bool true)) kc lc2 (by rw [dEq_sh (bools_sh _) (bools_sh _) (by decide) (by decide), if_neg (by decide), eqv_bools])
  have xv := xval_ok (i := 3) (ρ := P6 w d b (some (.own (.exc cls d))) none) hc rfl
  have sa := callN2 (T := m_law_same 12) xv (fb := xVar 1) (d2 := d) rfl (same_refl 12 d sm)
  unfold m_law_right
  exact fnP_eq rfl ((sSeq_nx s1).trans ((sSeq_nx s2').trans ((sSeq_nx ((sIf_f ((bOr_f c1).trans c2)).trans rfl)).trans (sRet_eq ((xAnd_t eq).trans sa))))) rfl
def P3 (d : D) (x1 x2 : Option C) : Vm.Env := [some (.dat d), x1, x2]
theorem base_ok {d : D} (sm : SmN 12 d) : m_law_base_right [.dat d] = some (.ok (.dat (.bool true)), none) := by
  have hc : ("TellError" : Str) ∈ rcl := by decide +kernel
  have s1 : sSet 1 (xC .none) (P3 d none none) = some (.nx, P3 d (some (.dat .none)) none) := rfl
  have body : sRaise "TellError" (xVar 0) (P3 d (some (.dat .none)) none) = some (.ex ⟨"TellError", d⟩, P3 d (some (.dat .none)) none) := rfl
  have s2 := try_ok (i := 2) (j := 1) body hc (by show 2 < 3; decide) (by decide)
  have s2' : sTry tbl (sRaise "TellError" (xVar 0)) [("TellError", some 2, sMove 1 2)] (P3 d (some (.dat .none)) none) = some (.nx, P3 d (some (.own (.exc "TellError" d))) none) := s2
  have c1 := bNot_eq (xTru_b (isV_ok (i := 1) (ρ := P3 d (some (.own (.exc "TellError" d))) none) hc rfl))
  have kc := kinds_call (i := 1) (ρ := P3 d (some (.own (.exc "TellError" d))) none) hc rfl
  rw [kinds_t] at kc
  have din : dIn false (.bool true) (.list ((List.replicate 25 false).map .bool)) = some (.dat (.bool false)) := by
    have : dIn false (.bool true) (.list ((List.replicate 25 false).map .bool)) = if (SeqAt.shaped (.bool true) && SeqAt.shaped (.list ((List.replicate 25 false).map .bool))) = true then some (.dat (.bool (((List.replicate 25 false).map PyData.bool).any fun z => PyData.eqv z (.bool true)))) else none := rfl
    rw [this, if_pos (by rw [(Sh.bool true).shaped (by decide), (bools_sh _).shaped (by decide)]; rfl)]
    rfl
  have inn : xB (xOp2 (dIn false) (xC (.bool true)) (xCall (some 0) m_law_kinds (xCons (xVar 1) xNil))) (P3 d (some (.own (.exc "TellError" d))) none) = some (.ok false, P3 d (some (.own (.exc "TellError" d))) none) := by
    refine xB_eq ?_
    have kc' : xCall (some 0) m_law_kinds (xCons (xVar 1) xNil) (P3 d (some (.own (.exc "TellError" d))) none) = some (.ok (.own (.lst ((List.replicate 25 false).map .bool))), P3 d (some (.own (.exc "TellError" d))) none) := kc
    have l1 : look (P3 d (some (.own (.exc "TellError" d))) none) (.own (.lst ((List.replicate 25 false).map .bool))) = some (.list ((List.replicate 25 false).map .bool)) := rfl
    have l2 : look (P3 d (some (.own (.exc "TellError" d))) none) (.dat (.bool true)) = some (.bool true) := rfl
    unfold xOp2
    rw [M.bind_ok (m := xC (.bool true)) rfl, M.bind_ok kc']
    show op2 _ _ _ _ = _
    unfold op2
    rw [l2, l1]
    rw [Option.bind_some, Option.bind_some, din]
    rfl
  have xv := xval_ok (i := 1) (ρ := P3 d (some (.own (.exc "TellError" d))) none) hc rfl
  have sa := callN2 (T := m_law_same 12) xv (fb := xVar 0) (d2 := d) rfl (same_refl 12 d sm)
  have sb := callN2 (T := m_law_same 12) (fa := xErrV (xVar 0)) (fb := xVar 0) (d := d) (d2 := d) (ρ := P3 d (some (.own (.exc "TellError" d))) none) rfl rfl (same_refl 12 d sm)
  unfold m_law_base_right
  exact fnP_eq rfl ((sSeq_nx s1).trans ((sSeq_nx s2').trans ((sSeq_nx ((sIf_f ((bOr_f c1).trans inn)).trans rfl)).trans (sRet_eq ((xAnd_t sa).trans sb))))) rfl
end K00
/-! k00: the law -/
namespace K00
open PySem PySem.Spec PyProof.Rows L2 Ky Vm
def L10 (s : D) (x1 x2 x3 x4 x5 x6 x7 x8 : Option C) : Vm.Env := [some (.dat s), x1, x2, x3, x4, x5, x6, x7, x8, none]
noncomputable def turnB : XS := (sSeq (sSet 4 (xCall none m_law_deck (xCons (xVar 0) (xCons (xVar 3) xNil))))
  (sSeq (sPar2 5 6 (xCall (some 0) m_law_take (xCons (xVar 4) (xCons (xC (.int 25)) xNil))) (xOp2 (dEq false) (xCall (some 0) m_law_take (xCons (xVar 4) (xCons (xC (.int 2)) xNil))) (xC (.int 1))))
  (sSeq (sPar2 7 8 (xCall (some 0) m_law_given (xCons (xVar 4) xNil)) (xCall (some 0) m_law_given (xCons (xVar 4) xNil)))
  (sSeq (sIf (bOr (bNot (xTru (xCall none m_law_right (xCons (xVar 5) (xCons (xVar 7) (xCons (xVar 6) xNil)))))) (bOr (bNot (xTru (xCall none m_law_right (xCons (xVar 5) (xCons (xVar 8) (xCons (xNot (xVar 6)) xNil)))))) (bNot (xTru (xCall none m_law_base_right (xCons (xVar 8) xNil))))))
  (sRet (xC (.bool false)))
  sNext)
  (sSeq (sTry tbl
  (sExpr (xCall none m_law_raised (xCons (xVar 5) (xCons (xVar 7) (xCons (xVar 6) xNil)))))
  [("TellError", some 9, (sMove 1 9))])
  (sSeq (sTry tbl
  (sExpr (xCall none m_law_raised (xCons (xVar 5) (xCons (xVar 8) (xCons (xVar 6) xNil)))))
  [("TellError", some 9, (sMove 2 9))])
  (sIf (bOr (bNot (xTru (xCall none (m_law_same 12) (xCons (xXval rcl 1) (xCons (xVar 7) xNil))))) (bNot (xTru (xCall none (m_law_same 12) (xCons (xXval rcl 2) (xCons (xVar 8) xNil))))))
  (sRet (xC (.bool false)))
  sNext)))))))
theorem turn_ok (ns : List Int) (j : Nat) (hj : j < 1000) (x1 x2 x4 x5 x6 x7 x8 : Option C) :
    ∃ y1 y2 y4 y5 y6 y7 y8 : Option C, turnB (L10 (.list (ns.map .int)) x1 x2 (some (.dat (kD j))) x4 x5 x6 x7 x8) = some (.nx, L10 (.list (ns.map .int)) y1 y2 (some (.dat (kD j))) y4 y5 y6 y7 y8) := by
  generalize hs : PyData.list (ns.map .int) = s
  obtain ⟨o, d0, h0⟩ := deck_ok ns j hj
  rw [hs] at h0
  have s1 := sSet_own (i := 4) (callN2 (T := m_law_deck) (fa := xVar 0) (fb := xVar 3) (ρ := L10 s x1 x2 (some (.dat (kD j))) x4 x5 x6 x7 x8) rfl rfl h0)
  obtain ⟨w, o1, hw, d1, e1⟩ := take_at (j := 4) d0 (m := 25) (by decide) (by decide) (ρ := L10 s x1 x2 (some (.dat (kD j))) (some (.own o)) x5 x6 x7 x8) (fa := xC (.int 25)) rfl rfl
  obtain ⟨z, o2, hz, d2, e2⟩ := take_at (j := 4) d1 (m := 2) (by decide) (by decide) (ρ := L10 s x1 x2 (some (.dat (kD j))) (some (.own o1)) x5 x6 x7 x8) (fa := xC (.int 2)) rfl rfl
  have eq := xOp2_eq (g := dEq false) e2 (fb := xC (.int 1)) (d2 := .int 1) rfl (dEq_int _ _)
  have s2 := sPar2_dat (i := 5) (j := 6) e1 eq
  generalize decide ((z : Int) = 1) = b at s2
  have hw : w < 25 := by omega
  obtain ⟨g, o3, sg, d3, e3⟩ := given_ok d2
  obtain ⟨g2, o4, sg2, d4, e4⟩ := given_ok d3
  have c3 := callB (j := 4) (ds := []) (ρ := L10 s x1 x2 (some (.dat (kD j))) (some (.own o2)) (some (.dat (kD w))) (some (.dat (.bool b))) x7 x8) rfl xNil_eq rfl e3
  have c4 := callB (j := 4) (ds := []) (ρ := L10 s x1 x2 (some (.dat (kD j))) (some (.own o3)) (some (.dat (kD w))) (some (.dat (.bool b))) x7 x8) rfl xNil_eq rfl e4
  have s3 := sPar2_dat (i := 7) (j := 8) c3 c4
  generalize hρ : L10 s x1 x2 (some (.dat (kD j))) (some (.own o4)) (some (.dat (kD w))) (some (.dat (.bool b))) (some (.dat g)) (some (.dat g2)) = ρ
  have v5 : xVar 5 ρ = some (.ok (.dat (kD w)), ρ) := by rw [← hρ]; rfl
  have v6 : xVar 6 ρ = some (.ok (.dat (.bool b)), ρ) := by rw [← hρ]; rfl
  have v7 : xVar 7 ρ = some (.ok (.dat g), ρ) := by rw [← hρ]; rfl
  have v8 : xVar 8 ρ = some (.ok (.dat g2), ρ) := by rw [← hρ]; rfl
  have k1 := bNot_eq (xTru_b (callN3 (T := m_law_right) v5 v7 v6 (right_ok sg b hw)))
  have k2 := bNot_eq (xTru_b (callN3 (T := m_law_right) v5 v8 (xNot_eq v6) (right_ok sg2 (!b) hw)))
  have k3 := bNot_eq (xTru_b (callN1 (T := m_law_base_right) v8 (base_ok sg2)))
  have hc := cls_in w hw
  have b1 := sExpr_ex (callE (T := m_law_raised) (ds := [kD w, g, .bool b]) (xCons_eq v5 (xCons_eq v7 (xCons_eq v6 xNil_eq))) (raised_ok g b hw))
  have s5 := try_ok (i := 9) (j := 1) b1 hc (by rw [← hρ]; show 9 < 10; decide) (by decide)
  generalize hσ : L10 s (some (.own (.exc (clsN w) g))) x2 (some (.dat (kD j))) (some (.own o4)) (some (.dat (kD w))) (some (.dat (.bool b))) (some (.dat g)) (some (.dat g2)) = σ
  have s5' : sTry tbl (sExpr (xCall none m_law_raised (xCons (xVar 5) (xCons (xVar 7) (xCons (xVar 6) xNil))))) [("TellError", some 9, sMove 1 9)] ρ = some (.nx, σ) := by
    rw [s5, ← hσ, ← hρ]; rfl
  have u5 : xVar 5 σ = some (.ok (.dat (kD w)), σ) := by rw [← hσ]; rfl
  have u6 : xVar 6 σ = some (.ok (.dat (.bool b)), σ) := by rw [← hσ]; rfl
  have u8 : xVar 8 σ = some (.ok (.dat g2), σ) := by rw [← hσ]; rfl
  have b2 := sExpr_ex (callE (T := m_law_raised) (ds := [kD w, g2, .bool b]) (xCons_eq u5 (xCons_eq u8 (xCons_eq u6 xNil_eq))) (raised_ok g2 b hw))
  have s6 := try_ok (i := 9) (j := 2) b2 hc (by rw [← hσ]; show 9 < 10; decide) (by decide)
  generalize hτ : L10 s (some (.own (.exc (clsN w) g))) (some (.own (.exc (clsN w) g2))) (some (.dat (kD j))) (some (.own o4)) (some (.dat (kD w))) (some (.dat (.bool b))) (some (.dat g)) (some (.dat g2)) = τ
  have s6' : sTry tbl (sExpr (xCall none m_law_raised (xCons (xVar 5) (xCons (xVar 8) (xCons (xVar 6) xNil))))) [("TellError", some 9, sMove 2 9)] σ = some (.nx, τ) := by
    rw [s6, ← hτ, ← hσ]; rfl
  have x1v := xval_ok (i := 1) (ρ := τ) hc (by rw [← hτ]; rfl)
  have x2v := xval_ok (i := 2) (ρ := τ) hc (by rw [← hτ]; rfl)
  have t7 : xVar 7 τ = some (.ok (.dat g), τ) := by rw [← hτ]; rfl
  have t8 : xVar 8 τ = some (.ok (.dat g2), τ) := by rw [← hτ]; rfl
  have m1 := bNot_eq (xTru_b (callN2 (T := m_law_same 12) x1v t7 (same_refl 12 g sg)))
  have m2 := bNot_eq (xTru_b (callN2 (T := m_law_same 12) x2v t8 (same_refl 12 g2 sg2)))
  have s3' : sPar2 7 8 (xCall (some 0) m_law_given (xCons (xVar 4) xNil)) (xCall (some 0) m_law_given (xCons (xVar 4) xNil)) (L10 s x1 x2 (some (.dat (kD j))) (some (.own o2)) (some (.dat (kD w))) (some (.dat (.bool b))) x7 x8) = some (.nx, ρ) := by
    rw [← hρ]; exact s3
  have fin : turnB (L10 s x1 x2 (some (.dat (kD j))) x4 x5 x6 x7 x8) = some (.nx, τ) :=
    (sSeq_nx s1).trans ((sSeq_nx s2).trans ((sSeq_nx s3').trans ((sSeq_nx ((sIf_f ((bOr_f k1).trans ((bOr_f k2).trans k3))).trans rfl)).trans ((sSeq_nx s5').trans ((sSeq_nx s6').trans ((sIf_f ((bOr_f m1).trans m2)).trans rfl))))))
  rw [← hτ] at fin
  exact ⟨_, _, _, _, _, _, _, fin⟩
noncomputable def eachB : XS := (sIf (bOr (bNot (xTru (xCall none m_law_right (xCons (xVar 5) (xCons (xVar 5) (xCons (xC (.bool false)) xNil)))))) (bNot (xTru (xCall none m_law_right (xCons (xVar 5) (xCons (xC (.str "a")) (xCons (xC (.bool true)) xNil)))))))
  (sRet (xC (.bool false)))
  sNext)
theorem each_ok {s : D} {x1 x2 x3 x4 x6 x7 x8 : Option C} {w : Nat} (hw : w < 25) : eachB (L10 s x1 x2 x3 x4 (some (.dat (kD w))) x6 x7 x8) = some (.nx, L10 s x1 x2 x3 x4 (some (.dat (kD w))) x6 x7 x8) := by
  have k1 := bNot_eq (xTru_b (callN3 (T := m_law_right) (fa := xVar 5) (fb := xVar 5) (fc := xC (.bool false)) (ρ := L10 s x1 x2 x3 x4 (some (.dat (kD w))) x6 x7 x8) rfl rfl rfl (right_ok (d := kD w) (.int _ _) false hw)))
  have k2 := bNot_eq (xTru_b (callN3 (T := m_law_right) (fa := xVar 5) (fb := xC (.str "a")) (fc := xC (.bool true)) (ρ := L10 s x1 x2 x3 x4 (some (.dat (kD w))) x6 x7 x8) rfl rfl rfl (right_ok (d := .str "a") (.str _ _) true hw)))
  exact (sIf_f ((bOr_f k1).trans k2)).trans rfl
theorem law_true (ns : List Int) (h : ns.length ≤ 63) : m_law [.dat (.list (ns.map .int))] = some (.ok (.dat (.bool true)), none) := by
  generalize hs : PyData.list (ns.map .int) = s
  have s1 : asg (tTupN 2 (tsCons (tName 1) (tsCons (tName 2) tsNil))) (xTup (xCons (xC .none) (xCons (xC .none) xNil))) (L10 s none none none none none none none none) = some (.nx, L10 s (some (.dat .none)) (some (.dat .none)) none none none none none none) :=
    asg_eq (xTup_dats (ds := [.none, .none]) (fr := xCons (xC .none) (xCons (xC .none) xNil)) rfl (by simp)) rfl
  have mx : ∃ t : Nat, t ≤ 40 ∧ xOpN dMax (xCons (xC (.int 1)) (xCons (xOpN dMin (xCons (xOpN dLen (xCons (xVar 0) xNil)) (xCons (xC (.int 40)) xNil))) xNil)) (L10 s (some (.dat .none)) (some (.dat .none)) none none none none none none) = some (.ok (.dat (.int t)), L10 s (some (.dat .none)) (some (.dat .none)) none none none none none none) := by
    refine ⟨max 1 (min ns.length 40), by omega, ?_⟩
    have e : ((max 1 (min ns.length 40) : Nat) : Int) = max 1 (min (((ns.map PyData.int).length : Nat) : Int) 40) := by rw [List.length_map]; omega
    rw [e, ← hs]
    rfl
  obtain ⟨t, ht, hm⟩ := mx
  have ir := iRg1_eq hm (by omega)
  obtain ⟨ρ', f1, f2⟩ := loop_inv (tgt := tName 3) (body := turnB) (P := fun i ρ => ∃ y1 y2 y3 y4 y5 y6 y7 y8 : Option C, ρ = L10 s y1 y2 y3 y4 y5 y6 y7 y8) (rngD 0 (t : Int)) (ρ := L10 s (some (.dat .none)) (some (.dat .none)) none none none none none none) ⟨_, _, _, _, _, _, _, _, rfl⟩ (fun i hi ρ ⟨y1, y2, y3, y4, y5, y6, y7, y8, e⟩ => by
    subst e
    have hi' : i < t := by rw [rngD_len] at hi; exact hi
    obtain ⟨z1, z2, z4, z5, z6, z7, z8, hz⟩ := turn_ok ns i (by omega) y1 y2 y4 y5 y6 y7 y8
    rw [hs] at hz
    exact ⟨L10 s y1 y2 (some (.dat (kD i))) y4 y5 y6 y7 y8, _, by rw [rngD_at]; rfl, hz, _, _, _, _, _, _, _, _, rfl⟩)
  obtain ⟨y1, y2, y3, y4, y5, y6, y7, y8, rfl⟩ := f2
  have s2 := sFor_eq (ps := none) ir f1
  obtain ⟨ρ2, f3, f4⟩ := loop_inv (tgt := tName 5) (body := eachB) (P := fun i ρ => ∃ y5 : Option C, ρ = L10 s y1 y2 y3 y4 y5 y6 y7 y8) (rngD 0 ((25 : Nat) : Int)) (ρ := L10 s y1 y2 y3 y4 y5 y6 y7 y8) ⟨_, rfl⟩ (fun i hi ρ ⟨z5, e⟩ => by
    subst e
    have hi' : i < 25 := by rw [rngD_len] at hi; exact hi
    exact ⟨L10 s y1 y2 y3 y4 (some (.dat (kD i))) y6 y7 y8, _, by rw [rngD_at]; rfl, each_ok hi', _, rfl⟩)
  obtain ⟨z5, rfl⟩ := f4
  have s3 := sFor_eq (ps := none) (iRg1_eq (fa := xC (.int 25)) (n := 25) (ρ := L10 s y1 y2 y3 y4 y5 y6 y7 y8) rfl (by omega)) f3
  have s4 : sRet (xC (.bool true)) (L10 s y1 y2 y3 y4 z5 y6 y7 y8) = some (.rt (.dat (.bool true)), L10 s y1 y2 y3 y4 z5 y6 y7 y8) := rfl
  unfold m_law
  exact fnP_eq rfl ((sSeq_nx s1).trans ((sSeq_nx s2).trans ((sSeq_nx s3).trans s4))) rfl
end K00
namespace K00
open PySem PySem.Spec PyProof.Rows L2 Ky Vm
def topS (i : Nat) : Stmt := PySem.Challenge.pw_keytellers_k00_errors.main.body.getD i (.Pass ⟨0, 0, 0, 0⟩)
abbrev s_init : Stmt := (clsBody (topS 1)).getD 0 (.Pass ⟨0, 0, 0, 0⟩)
theorem sc_init : FnScope ["self", "value"] ["self", "value"] (defScope s_init) := ⟨rfl, rfl, rfl, by decide +kernel, rfl, by decide +kernel, by decide +kernel⟩
abbrev fI (K : PySem.W.Frag) : Addr := He.ma K (He.ga K "TellError") "__init__"
abbrev hcl : List Str := ["TellError"]
abbrev kin : List (Str × Str) := [("TellError", "TellError"), ("InvalidBook", "TellError"), ("InvalidWord", "TellError"), ("InvalidNumber", "TellError"), ("InvalidKey", "TellError"), ("InvalidCell", "TellError"), ("InvalidRow", "TellError"), ("InvalidLot", "TellError"), ("InvalidTable", "TellError"), ("InvalidValues", "TellError"), ("InvalidRoad", "TellError"), ("InvalidSeats", "TellError"), ("NotFree", "TellError"), ("NoTable", "TellError"), ("NoSeats", "TellError"), ("InvalidPlacing", "TellError"), ("InvalidChain", "TellError"), ("InvalidMixing", "TellError"), ("InvalidFilter", "TellError"), ("InvalidName", "TellError"), ("HasCore", "TellError"), ("NotGood", "TellError"), ("UnknownName", "TellError"), ("NothingToUndo", "TellError"), ("Unreadable", "TellError"), ("Unorderly", "TellError")]
abbrev s__law_deck : Stmt := topS 28
abbrev N__law_deck : List Str := ["script", "k", "cell", "stir"]
theorem sc__law_deck : FnScope ["script", "k", "cell", "stir"] ["script", "k"] (defScope s__law_deck) := ⟨rfl, rfl, rfl, by decide +kernel, rfl, by decide +kernel, by decide +kernel⟩
abbrev s__law_take : Stmt := topS 29
abbrev N__law_take : List Str := ["deck", "many", "taken"]
theorem sc__law_take : FnScope ["deck", "many", "taken"] ["deck", "many"] (defScope s__law_take) := ⟨rfl, rfl, rfl, by decide +kernel, rfl, by decide +kernel, by decide +kernel⟩
abbrev s__law_same : Stmt := topS 30
abbrev N__law_same : List Str := ["found", "due", "k"]
theorem sc__law_same : FnScope ["found", "due", "k"] ["found", "due"] (defScope s__law_same) := ⟨rfl, rfl, rfl, by decide +kernel, rfl, by decide +kernel, by decide +kernel⟩
abbrev s__law_raise_first : Stmt := topS 31
abbrev N__law_raise_first : List Str := ["which", "given"]
theorem sc__law_raise_first : FnScope ["which", "given"] ["which", "given"] (defScope s__law_raise_first) := ⟨rfl, rfl, rfl, by decide +kernel, rfl, by decide +kernel, by decide +kernel⟩
abbrev s__law_raise_second : Stmt := topS 32
abbrev N__law_raise_second : List Str := ["which", "given"]
theorem sc__law_raise_second : FnScope ["which", "given"] ["which", "given"] (defScope s__law_raise_second) := ⟨rfl, rfl, rfl, by decide +kernel, rfl, by decide +kernel, by decide +kernel⟩
abbrev s__law_raise_named_first : Stmt := topS 33
abbrev N__law_raise_named_first : List Str := ["which", "given"]
theorem sc__law_raise_named_first : FnScope ["which", "given"] ["which", "given"] (defScope s__law_raise_named_first) := ⟨rfl, rfl, rfl, by decide +kernel, rfl, by decide +kernel, by decide +kernel⟩
abbrev s__law_raise_named_second : Stmt := topS 34
abbrev N__law_raise_named_second : List Str := ["which", "given"]
theorem sc__law_raise_named_second : FnScope ["which", "given"] ["which", "given"] (defScope s__law_raise_named_second) := ⟨rfl, rfl, rfl, by decide +kernel, rfl, by decide +kernel, by decide +kernel⟩
abbrev s__law_raised : Stmt := topS 35
abbrev N__law_raised : List Str := ["which", "given", "named"]
theorem sc__law_raised : FnScope ["which", "given", "named"] ["which", "given", "named"] (defScope s__law_raised) := ⟨rfl, rfl, rfl, by decide +kernel, rfl, by decide +kernel, by decide +kernel⟩
abbrev s__law_kinds : Stmt := topS 36
abbrev N__law_kinds : List Str := ["e", "found"]
theorem sc__law_kinds : FnScope ["e", "found"] ["e"] (defScope s__law_kinds) := ⟨rfl, rfl, rfl, by decide +kernel, rfl, by decide +kernel, by decide +kernel⟩
abbrev s__law_given : Stmt := topS 37
abbrev N__law_given : List Str := ["deck", "far", "some"]
theorem sc__law_given : FnScope ["deck", "far", "some"] ["deck"] (defScope s__law_given) := ⟨rfl, rfl, rfl, by decide +kernel, rfl, by decide +kernel, by decide +kernel⟩
abbrev s__law_right : Stmt := topS 38
abbrev N__law_right : List Str := ["which", "given", "named", "caught", "e", "k"]
theorem sc__law_right : FnScope ["which", "given", "named", "caught", "e", "k"] ["which", "given", "named"] (defScope s__law_right) := ⟨rfl, rfl, rfl, by decide +kernel, rfl, by decide +kernel, by decide +kernel⟩
abbrev s__law_base_right : Stmt := topS 39
abbrev N__law_base_right : List Str := ["given", "caught", "e"]
theorem sc__law_base_right : FnScope ["given", "caught", "e"] ["given"] (defScope s__law_base_right) := ⟨rfl, rfl, rfl, by decide +kernel, rfl, by decide +kernel, by decide +kernel⟩
abbrev s_law : Stmt := topS 40
abbrev N_law : List Str := ["script", "first", "second", "k", "deck", "which", "named", "given", "other", "e"]
theorem sc_law : FnScope ["script", "first", "second", "k", "deck", "which", "named", "given", "other", "e"] ["script"] (defScope s_law) := ⟨rfl, rfl, rfl, by decide +kernel, rfl, by decide +kernel, by decide +kernel⟩
abbrev tf : List Str := []
structure Top (K : PySem.W.Frag) (mg : Str → Option Value) : Prop where
  d__law_deck : Here K mg "_law_deck" s__law_deck
  d__law_take : Here K mg "_law_take" s__law_take
  d__law_same : Here K mg "_law_same" s__law_same
  d__law_raise_first : Here K mg "_law_raise_first" s__law_raise_first
  d__law_raise_second : Here K mg "_law_raise_second" s__law_raise_second
  d__law_raise_named_first : Here K mg "_law_raise_named_first" s__law_raise_named_first
  d__law_raise_named_second : Here K mg "_law_raise_named_second" s__law_raise_named_second
  d__law_raised : Here K mg "_law_raised" s__law_raised
  d__law_kinds : Here K mg "_law_kinds" s__law_kinds
  d__law_given : Here K mg "_law_given" s__law_given
  d__law_right : Here K mg "_law_right" s__law_right
  d__law_base_right : Here K mg "_law_base_right" s__law_base_right
  d_law : Here K mg "law" s_law
  z_ValueError : mg "ValueError" = none
  z_bool : mg "bool" = none
  z_int : mg "int" = none
  z_isinstance : mg "isinstance" = none
  z_len : mg "len" = none
  z_list : mg "list" = none
  z_max : mg "max" = none
  z_min : mg "min" = none
  z_range : mg "range" = none
  z_str : mg "str" = none
  z_tuple : mg "tuple" = none
  ini : ∃ fd, FunD K "__init__" "TellError.__init__" (defArgs s_init) (defBody s_init) (defScope s_init) [] [] (fI K) fd
  glo : ∀ x ∈ rcl, mg x = some (.ref (He.ga K x))
  gloH : ∀ x ∈ hcl, mg x = some (.ref (He.ga K x))
  err : ∀ x ∈ rcl, ErrC K (He.ga K x) (fI K)
  kit : ∀ a ∈ rcl, ∀ h ∈ kcl, PySem.W.kitOne K (.ref (He.ga K a)) (.ref (He.ga K h)) = some (decide ((a, h) ∈ kinK))
  kitV : ∀ a ∈ rcl, PySem.W.kitOne K (.ref (He.ga K a)) (.type "ValueError") = some true
  exm : ∀ a ∈ rcl, ∀ h ∈ hcl, PySem.W.exmOne K (.ref (He.ga K a)) (.ref (He.ga K h)) = some (decide ((a, h) ∈ kin))
abbrev cn (w : World) (K : PySem.W.Frag) (mg : Str → Option Value) : Cn := ⟨K, mg, tf, w⟩
section
variable {P : Program} {w : World} {K : PySem.W.Frag} {mg : Str → Option Value} {base : Heap}
theorem init_ok (T : Top K mg) : ∃ fd, FnOk P w K mg base CX0 1 (fI K) fd ["self", "value"] (spInitV K) ∧ Binds K fd ["self", "value"] [] := by
  obtain ⟨fd, F⟩ := T.ini
  exact ⟨fd, ok_initV F sc_init (.inl rfl) (.inl rfl) rfl, F.bindsN (fun _ _ _ _ _ _ us hl => match us, hl with | [_, _], _ => rfl)⟩
end
section
variable {P : Program} {w : World} {K : PySem.W.Frag} {mg : Str → Option Value} {base : Heap}
theorem init_okK (T : Top K mg) : ∃ fd, FnOk P w K mg base CX0 1 (fI K) fd ["self", "value"] (spInitV K) ∧ Binds K fd ["self", "value"] [] ∧
    ∀ (s : Shared) (u0 u1 : Value), BindsTo s fd ⟨[u0], [(("value" : Str), u1)]⟩ ((["self", "value"] : List Str).zip [u0, u1]) := by
  obtain ⟨fd, F⟩ := T.ini
  refine ⟨fd, ok_initV F sc_init (.inl rfl) (.inl rfl) rfl, F.bindsN (fun _ _ _ _ _ _ us hl => match us, hl with | [_, _], _ => rfl), fun s u0 u1 => ?_⟩
  obtain ⟨oc, od, dV, kV, doc, pm, an, cdv, ct, osl, rfl, lk, hcd, hD, hK⟩ := F.ex
  rcases hD with ⟨_, rfl⟩ | ⟨e, _⟩
  · exact .of_eq rfl
  · exact absurd rfl e
end
end K00
namespace K00
open PySem PySem.Spec PyProof.Rows L2 Ky Vm
section
variable {P : Program} {w : World} {K : PySem.W.Frag} {mg : Str → Option Value} {base : Heap}
theorem ok__law_deck (T : Top K mg)  : CalD P w K mg base 1 "_law_deck" s__law_deck ["script", "k"] (spV (cn w K mg) 2 none m_law_deck) :=
  def_cal T.d__law_deck sc__law_deck (fun _ _ _ _ _ _ us hl => match us, hl with | [_, _], _ => rfl) rfl rfl fun f cdv A outer s H E hr =>
  ⟨_, (VSs.cons (VS.set (i := 2) (by decide) sc__law_deck.nd rfl (Or.inl rfl) VE.int)
  (VSs.cons (VS.ifS (VT.cmp (o_lt) (VE.var (pv 1)) (VE.callB (o_len ⟨rfl, rfl, rfl⟩) (by rfl) T.z_len PySem.boot_len (VA.cons (VE.var (pv 0)) VA.nil)) (nomark _)) (VSs.one (VS.set (i := 2) (by decide) sc__law_deck.nd rfl (Or.inl rfl) (VE.ix (o_ix ⟨rfl, rfl, rfl⟩ hr.units) (VE.var (pv 0)) (VE.var (pv 1)) (fun _ _ => rfl)))) VSs.nil)
  (VSs.cons (VS.set (i := 3) (by decide) sc__law_deck.nd rfl (Or.inl rfl) (VE.bin (o_mod) (VE.callTy (o_intOf) (by rfl) T.z_int (by decide +kernel) (VA.cons (VE.bin (o_add ⟨rfl, rfl, rfl⟩) (VE.bin (o_add ⟨rfl, rfl, rfl⟩) (VE.var (pv 2)) (VE.bin (o_mulI) VE.int (VE.var (pv 1)))) VE.int) VA.nil)) VE.int))
  (VSs.cons (VS.set (i := 3) (by decide) sc__law_deck.nd rfl (Or.inl rfl) (VE.bin (o_mod) (VE.callTy (o_intOf) (by rfl) T.z_int (by decide +kernel) (VA.cons (VE.bin (o_add ⟨rfl, rfl, rfl⟩) (VE.bin (o_add ⟨rfl, rfl, rfl⟩) (VE.bin (o_mulI) (VE.bin (o_mulI) (VE.var (pv 3)) (VE.var (pv 3))) (VE.var (pv 3))) (VE.bin (o_mulI) VE.int (VE.var (pv 1)))) VE.int) VA.nil)) VE.int))
  (VSs.cons (VS.ifS (VT.cmp (o_lt) (VE.var (pv 2)) (VE.bin (o_pow) VE.int VE.int) (nomark _)) (VSs.one (VS.ret (VE.lst (VA.cons VE.int (VA.cons (VE.var (pv 3)) VA.nil))))) VSs.nil)
  (VSs.one (VS.ret (VE.lst (VA.cons (VE.bin (o_sub) (VE.var (pv 2)) (VE.bin (o_pow) VE.int VE.int)) (VA.cons (VE.var (pv 3)) VA.nil))))))))))⟩

theorem ok__law_take (T : Top K mg)  : CalD P w K mg base 1 "_law_take" s__law_take ["deck", "many"] (spV (cn w K mg) 2 (some 0) m_law_take) :=
  def_cal T.d__law_take sc__law_take (fun _ _ _ _ _ _ us hl => match us, hl with | [_, _], _ => rfl) rfl rfl fun f cdv A outer s H E hr =>
  ⟨_, (VSs.cons (VS.ifS (VT.cmp (o_gt) (VE.ix (o_ix ⟨rfl, rfl, rfl⟩ hr.units) (VE.var (pv 0)) VE.int (fun _ _ => rfl)) VE.int (nomark _)) (VSs.cons (VS.set (i := 2) (by decide) sc__law_take.nd rfl (Or.inl rfl) (VE.bin (o_mod) (VE.callTy (o_intOf) (by rfl) T.z_int (by decide +kernel) (VA.cons (VE.ix (o_ix ⟨rfl, rfl, rfl⟩ hr.units) (VE.var (pv 0)) VE.int (fun _ _ => rfl)) VA.nil)) (VE.var (pv 1))))
  (VSs.cons (VS.put (i := 0) (u1 hr) (pv 0) VE.int (VE.bin (o_div) (VE.ix (o_ix ⟨rfl, rfl, rfl⟩ hr.units) (VE.var (pv 0)) VE.int (fun _ _ => rfl)) (VE.var (pv 1))))
  (VSs.one (VS.ret (VE.var (pv 2)))))) VSs.nil)
  (VSs.cons (VS.put (i := 0) (u1 hr) (pv 0) VE.int (VE.bin (o_mod) (VE.callTy (o_intOf) (by rfl) T.z_int (by decide +kernel) (VA.cons (VE.bin (o_add ⟨rfl, rfl, rfl⟩) (VE.bin (o_mulI) (VE.ix (o_ix ⟨rfl, rfl, rfl⟩ hr.units) (VE.var (pv 0)) VE.int (fun _ _ => rfl)) VE.int) VE.int) VA.nil)) (VE.bin (o_pow) VE.int VE.int)))
  (VSs.one (VS.ret (VE.bin (o_mod) (VE.bin (o_div) (VE.ix (o_ix ⟨rfl, rfl, rfl⟩ hr.units) (VE.var (pv 0)) VE.int (fun _ _ => rfl)) (VE.bin (o_pow) VE.int VE.int)) (VE.var (pv 1)))))))⟩

theorem ok__law_same (T : Top K mg)  : ∀ k_ : Nat, CalD P w K mg base (k_ + 0 + 1) "_law_same" s__law_same ["found", "due"] (spV (cn w K mg) 2 none (m_law_same k_)) := by
  intro k_
  induction k_ with
  | zero => exact def_cal T.d__law_same sc__law_same (fun _ _ _ _ _ _ us hl => match us, hl with | [_, _], _ => rfl) rfl rfl fun f cdv A outer s H E hr => ⟨_, VSs.never⟩
  | succ k_ ih =>
  have c__law_same := ih
  exact def_cal T.d__law_same sc__law_same (fun _ _ _ _ _ _ us hl => match us, hl with | [_, _], _ => rfl) rfl rfl fun f cdv A outer s H E hr =>
  ⟨_, (VSs.cons (VS.ifS (VT.tru ⟨rfl, rfl, rfl⟩ (VE.isi2 ⟨rfl, rfl, rfl⟩ ty_tuple ty_list (by rfl) T.z_isinstance (by rfl) T.z_tuple (by decide +kernel) (by rfl) T.z_list (by decide +kernel) (VE.var (pv 1))) (fun _ => rfl)) (VSs.cons (VS.ifS (VW.t (VW.or (VT.cmp (o_ne ⟨rfl, rfl, rfl⟩ hr.units) (VE.isi1 ⟨rfl, rfl, rfl⟩ ty_tuple (by rfl) T.z_isinstance (by rfl) T.z_tuple (by decide +kernel) (VE.var (pv 0))) (VE.isi1 ⟨rfl, rfl, rfl⟩ ty_tuple (by rfl) T.z_isinstance (by rfl) T.z_tuple (by decide +kernel) (VE.var (pv 1))) (nomark _)) (VW.or1 (VT.cmp (o_ne ⟨rfl, rfl, rfl⟩ hr.units) (VE.isi1 ⟨rfl, rfl, rfl⟩ ty_list (by rfl) T.z_isinstance (by rfl) T.z_list (by decide +kernel) (VE.var (pv 0))) (VE.isi1 ⟨rfl, rfl, rfl⟩ ty_list (by rfl) T.z_isinstance (by rfl) T.z_list (by decide +kernel) (VE.var (pv 1))) (nomark _))))) (VSs.one (VS.ret VE.bl)) VSs.nil)
  (VSs.cons (VS.ifS (VT.cmp (o_ne ⟨rfl, rfl, rfl⟩ hr.units) (VE.callB (o_len ⟨rfl, rfl, rfl⟩) (by rfl) T.z_len PySem.boot_len (VA.cons (VE.var (pv 0)) VA.nil)) (VE.callB (o_len ⟨rfl, rfl, rfl⟩) (by rfl) T.z_len PySem.boot_len (VA.cons (VE.var (pv 1)) VA.nil)) (nomark _)) (VSs.one (VS.ret VE.bl)) VSs.nil)
  (VSs.one (VS.ret (VE.cmp (o_eq ⟨rfl, rfl, rfl⟩ hr.units) (VE.lc (own := [("k", 2)]) (us := [2]) (by decide) rfl sc__law_same.nd (VI.rg1 (by rfl) T.z_range (VE.callB (o_len ⟨rfl, rfl, rfl⟩) (by rfl) T.z_len PySem.boot_len (VA.cons (VE.var (pv 1)) VA.nil))) (blkOk_by (own := [("k", 2)]) (N := N__law_same) (sc := defScope s__law_same) (by decide +kernel)) (fun _ _ _ _ _ => (VG.name (i := 2) (us := [2]) (by decide) (by decide) sc__law_same.nd rfl (Or.inl rfl))) (fun _ _ _ _ _ => (VTs.one (VT.not (VT.tru ⟨rfl, rfl, rfl⟩ (VE.call c__law_same hr (by omega) (by rfl) (VA.cons (VE.ix (o_ix ⟨rfl, rfl, rfl⟩ hr.units) (VE.var (pv 0)) (VE.var (pv 2)) (fun _ _ => rfl)) (VA.cons (VE.ix (o_ix ⟨rfl, rfl, rfl⟩ hr.units) (VE.var (pv 1)) (VE.var (pv 2)) (fun _ _ => rfl)) VA.nil))) (fun _ => rfl))))) (fun _ _ _ _ _ => (VE.var (pv 2)))) (VE.lst VA.nil) (nomark _)))))) VSs.nil)
  (VSs.cons (VS.ifS (VT.cmp (o_is) (VE.var (pv 1)) VE.non (nomark _)) (VSs.one (VS.ret (VE.cmp (o_is) (VE.var (pv 0)) VE.non (nomark _)))) VSs.nil)
  (VSs.cons (VS.ifS (VT.tru ⟨rfl, rfl, rfl⟩ (VE.isi1 ⟨rfl, rfl, rfl⟩ ty_str (by rfl) T.z_isinstance (by rfl) T.z_str (by decide +kernel) (VE.var (pv 1))) (fun _ => rfl)) (VSs.one (VS.ret (VE.and ⟨rfl, rfl, rfl⟩ (VE.isi1 ⟨rfl, rfl, rfl⟩ ty_str (by rfl) T.z_isinstance (by rfl) T.z_str (by decide +kernel) (VE.var (pv 0))) (VE.one (VE.cmp (o_eq ⟨rfl, rfl, rfl⟩ hr.units) (VE.var (pv 0)) (VE.var (pv 1)) (nomark _)))))) VSs.nil)
  (VSs.cons (VS.ifS (VW.t (VW.or (VT.tru ⟨rfl, rfl, rfl⟩ (VE.isi1 ⟨rfl, rfl, rfl⟩ ty_bool (by rfl) T.z_isinstance (by rfl) T.z_bool (by decide +kernel) (VE.var (pv 1))) (fun _ => rfl)) (VW.or1 (VT.tru ⟨rfl, rfl, rfl⟩ (VE.isi1 ⟨rfl, rfl, rfl⟩ ty_bool (by rfl) T.z_isinstance (by rfl) T.z_bool (by decide +kernel) (VE.var (pv 0))) (fun _ => rfl))))) (VSs.one (VS.ret (VE.and ⟨rfl, rfl, rfl⟩ (VE.isi1 ⟨rfl, rfl, rfl⟩ ty_bool (by rfl) T.z_isinstance (by rfl) T.z_bool (by decide +kernel) (VE.var (pv 1))) (VE.and ⟨rfl, rfl, rfl⟩ (VE.isi1 ⟨rfl, rfl, rfl⟩ ty_bool (by rfl) T.z_isinstance (by rfl) T.z_bool (by decide +kernel) (VE.var (pv 0))) (VE.one (VE.cmp (o_eq ⟨rfl, rfl, rfl⟩ hr.units) (VE.var (pv 0)) (VE.var (pv 1)) (nomark _))))))) VSs.nil)
  (VSs.one (VS.ret (VE.and ⟨rfl, rfl, rfl⟩ (VE.isi1 ⟨rfl, rfl, rfl⟩ ty_int (by rfl) T.z_isinstance (by rfl) T.z_int (by decide +kernel) (VE.var (pv 0))) (VE.one (VE.cmp (o_eq ⟨rfl, rfl, rfl⟩ hr.units) (VE.var (pv 0)) (VE.var (pv 1)) (nomark _))))))))))⟩

theorem ok__law_raise_first (T : Top K mg)  : CalX P w K mg base 3 "_law_raise_first" s__law_raise_first ["which", "given"] (spV (cn w K mg) 2 none m_law_raise_first) := by
  obtain ⟨_, Fi, bi, bK⟩ := init_okK (P := P) (w := w) (base := base) T
  exact def_calX T.d__law_raise_first sc__law_raise_first (fun _ _ _ _ _ _ us hl => match us, hl with | [_, _], _ => rfl) rfl rfl fun f cdv A outer s H E hr =>
  ⟨_, (VSs.cons (VS.ifS (VT.cmp (o_eq ⟨rfl, rfl, rfl⟩ hr.units) (VE.var (pv 0)) VE.int (nomark _)) (VSs.one (VS.raise ⟨rfl, rfl, rfl⟩ rfl (takes_of rfl rfl rfl rfl) (T.err "InvalidBook" (by decide +kernel)) Fi bi hr (by omega) (by rfl) (T.glo "InvalidBook" (by decide +kernel)) (VE.var (pv 1)))) VSs.nil)
  (VSs.cons (VS.ifS (VT.cmp (o_eq ⟨rfl, rfl, rfl⟩ hr.units) (VE.var (pv 0)) VE.int (nomark _)) (VSs.one (VS.raise ⟨rfl, rfl, rfl⟩ rfl (takes_of rfl rfl rfl rfl) (T.err "InvalidWord" (by decide +kernel)) Fi bi hr (by omega) (by rfl) (T.glo "InvalidWord" (by decide +kernel)) (VE.var (pv 1)))) VSs.nil)
  (VSs.cons (VS.ifS (VT.cmp (o_eq ⟨rfl, rfl, rfl⟩ hr.units) (VE.var (pv 0)) VE.int (nomark _)) (VSs.one (VS.raise ⟨rfl, rfl, rfl⟩ rfl (takes_of rfl rfl rfl rfl) (T.err "InvalidNumber" (by decide +kernel)) Fi bi hr (by omega) (by rfl) (T.glo "InvalidNumber" (by decide +kernel)) (VE.var (pv 1)))) VSs.nil)
  (VSs.cons (VS.ifS (VT.cmp (o_eq ⟨rfl, rfl, rfl⟩ hr.units) (VE.var (pv 0)) VE.int (nomark _)) (VSs.one (VS.raise ⟨rfl, rfl, rfl⟩ rfl (takes_of rfl rfl rfl rfl) (T.err "InvalidKey" (by decide +kernel)) Fi bi hr (by omega) (by rfl) (T.glo "InvalidKey" (by decide +kernel)) (VE.var (pv 1)))) VSs.nil)
  (VSs.cons (VS.ifS (VT.cmp (o_eq ⟨rfl, rfl, rfl⟩ hr.units) (VE.var (pv 0)) VE.int (nomark _)) (VSs.one (VS.raise ⟨rfl, rfl, rfl⟩ rfl (takes_of rfl rfl rfl rfl) (T.err "InvalidCell" (by decide +kernel)) Fi bi hr (by omega) (by rfl) (T.glo "InvalidCell" (by decide +kernel)) (VE.var (pv 1)))) VSs.nil)
  (VSs.cons (VS.ifS (VT.cmp (o_eq ⟨rfl, rfl, rfl⟩ hr.units) (VE.var (pv 0)) VE.int (nomark _)) (VSs.one (VS.raise ⟨rfl, rfl, rfl⟩ rfl (takes_of rfl rfl rfl rfl) (T.err "InvalidRow" (by decide +kernel)) Fi bi hr (by omega) (by rfl) (T.glo "InvalidRow" (by decide +kernel)) (VE.var (pv 1)))) VSs.nil)
  (VSs.cons (VS.ifS (VT.cmp (o_eq ⟨rfl, rfl, rfl⟩ hr.units) (VE.var (pv 0)) VE.int (nomark _)) (VSs.one (VS.raise ⟨rfl, rfl, rfl⟩ rfl (takes_of rfl rfl rfl rfl) (T.err "InvalidLot" (by decide +kernel)) Fi bi hr (by omega) (by rfl) (T.glo "InvalidLot" (by decide +kernel)) (VE.var (pv 1)))) VSs.nil)
  (VSs.cons (VS.ifS (VT.cmp (o_eq ⟨rfl, rfl, rfl⟩ hr.units) (VE.var (pv 0)) VE.int (nomark _)) (VSs.one (VS.raise ⟨rfl, rfl, rfl⟩ rfl (takes_of rfl rfl rfl rfl) (T.err "InvalidTable" (by decide +kernel)) Fi bi hr (by omega) (by rfl) (T.glo "InvalidTable" (by decide +kernel)) (VE.var (pv 1)))) VSs.nil)
  (VSs.cons (VS.ifS (VT.cmp (o_eq ⟨rfl, rfl, rfl⟩ hr.units) (VE.var (pv 0)) VE.int (nomark _)) (VSs.one (VS.raise ⟨rfl, rfl, rfl⟩ rfl (takes_of rfl rfl rfl rfl) (T.err "InvalidValues" (by decide +kernel)) Fi bi hr (by omega) (by rfl) (T.glo "InvalidValues" (by decide +kernel)) (VE.var (pv 1)))) VSs.nil)
  (VSs.cons (VS.ifS (VT.cmp (o_eq ⟨rfl, rfl, rfl⟩ hr.units) (VE.var (pv 0)) VE.int (nomark _)) (VSs.one (VS.raise ⟨rfl, rfl, rfl⟩ rfl (takes_of rfl rfl rfl rfl) (T.err "InvalidRoad" (by decide +kernel)) Fi bi hr (by omega) (by rfl) (T.glo "InvalidRoad" (by decide +kernel)) (VE.var (pv 1)))) VSs.nil)
  (VSs.cons (VS.ifS (VT.cmp (o_eq ⟨rfl, rfl, rfl⟩ hr.units) (VE.var (pv 0)) VE.int (nomark _)) (VSs.one (VS.raise ⟨rfl, rfl, rfl⟩ rfl (takes_of rfl rfl rfl rfl) (T.err "InvalidSeats" (by decide +kernel)) Fi bi hr (by omega) (by rfl) (T.glo "InvalidSeats" (by decide +kernel)) (VE.var (pv 1)))) VSs.nil)
  (VSs.cons (VS.ifS (VT.cmp (o_eq ⟨rfl, rfl, rfl⟩ hr.units) (VE.var (pv 0)) VE.int (nomark _)) (VSs.one (VS.raise ⟨rfl, rfl, rfl⟩ rfl (takes_of rfl rfl rfl rfl) (T.err "NotFree" (by decide +kernel)) Fi bi hr (by omega) (by rfl) (T.glo "NotFree" (by decide +kernel)) (VE.var (pv 1)))) VSs.nil)
  (VSs.one (VS.raise ⟨rfl, rfl, rfl⟩ rfl (takes_of rfl rfl rfl rfl) (T.err "NoTable" (by decide +kernel)) Fi bi hr (by omega) (by rfl) (T.glo "NoTable" (by decide +kernel)) (VE.var (pv 1))))))))))))))))⟩

theorem ok__law_raise_second (T : Top K mg)  : CalX P w K mg base 3 "_law_raise_second" s__law_raise_second ["which", "given"] (spV (cn w K mg) 2 none m_law_raise_second) := by
  obtain ⟨_, Fi, bi, bK⟩ := init_okK (P := P) (w := w) (base := base) T
  exact def_calX T.d__law_raise_second sc__law_raise_second (fun _ _ _ _ _ _ us hl => match us, hl with | [_, _], _ => rfl) rfl rfl fun f cdv A outer s H E hr =>
  ⟨_, (VSs.cons (VS.ifS (VT.cmp (o_eq ⟨rfl, rfl, rfl⟩ hr.units) (VE.var (pv 0)) VE.int (nomark _)) (VSs.one (VS.raise ⟨rfl, rfl, rfl⟩ rfl (takes_of rfl rfl rfl rfl) (T.err "NoSeats" (by decide +kernel)) Fi bi hr (by omega) (by rfl) (T.glo "NoSeats" (by decide +kernel)) (VE.var (pv 1)))) VSs.nil)
  (VSs.cons (VS.ifS (VT.cmp (o_eq ⟨rfl, rfl, rfl⟩ hr.units) (VE.var (pv 0)) VE.int (nomark _)) (VSs.one (VS.raise ⟨rfl, rfl, rfl⟩ rfl (takes_of rfl rfl rfl rfl) (T.err "InvalidPlacing" (by decide +kernel)) Fi bi hr (by omega) (by rfl) (T.glo "InvalidPlacing" (by decide +kernel)) (VE.var (pv 1)))) VSs.nil)
  (VSs.cons (VS.ifS (VT.cmp (o_eq ⟨rfl, rfl, rfl⟩ hr.units) (VE.var (pv 0)) VE.int (nomark _)) (VSs.one (VS.raise ⟨rfl, rfl, rfl⟩ rfl (takes_of rfl rfl rfl rfl) (T.err "InvalidChain" (by decide +kernel)) Fi bi hr (by omega) (by rfl) (T.glo "InvalidChain" (by decide +kernel)) (VE.var (pv 1)))) VSs.nil)
  (VSs.cons (VS.ifS (VT.cmp (o_eq ⟨rfl, rfl, rfl⟩ hr.units) (VE.var (pv 0)) VE.int (nomark _)) (VSs.one (VS.raise ⟨rfl, rfl, rfl⟩ rfl (takes_of rfl rfl rfl rfl) (T.err "InvalidMixing" (by decide +kernel)) Fi bi hr (by omega) (by rfl) (T.glo "InvalidMixing" (by decide +kernel)) (VE.var (pv 1)))) VSs.nil)
  (VSs.cons (VS.ifS (VT.cmp (o_eq ⟨rfl, rfl, rfl⟩ hr.units) (VE.var (pv 0)) VE.int (nomark _)) (VSs.one (VS.raise ⟨rfl, rfl, rfl⟩ rfl (takes_of rfl rfl rfl rfl) (T.err "InvalidFilter" (by decide +kernel)) Fi bi hr (by omega) (by rfl) (T.glo "InvalidFilter" (by decide +kernel)) (VE.var (pv 1)))) VSs.nil)
  (VSs.cons (VS.ifS (VT.cmp (o_eq ⟨rfl, rfl, rfl⟩ hr.units) (VE.var (pv 0)) VE.int (nomark _)) (VSs.one (VS.raise ⟨rfl, rfl, rfl⟩ rfl (takes_of rfl rfl rfl rfl) (T.err "InvalidName" (by decide +kernel)) Fi bi hr (by omega) (by rfl) (T.glo "InvalidName" (by decide +kernel)) (VE.var (pv 1)))) VSs.nil)
  (VSs.cons (VS.ifS (VT.cmp (o_eq ⟨rfl, rfl, rfl⟩ hr.units) (VE.var (pv 0)) VE.int (nomark _)) (VSs.one (VS.raise ⟨rfl, rfl, rfl⟩ rfl (takes_of rfl rfl rfl rfl) (T.err "HasCore" (by decide +kernel)) Fi bi hr (by omega) (by rfl) (T.glo "HasCore" (by decide +kernel)) (VE.var (pv 1)))) VSs.nil)
  (VSs.cons (VS.ifS (VT.cmp (o_eq ⟨rfl, rfl, rfl⟩ hr.units) (VE.var (pv 0)) VE.int (nomark _)) (VSs.one (VS.raise ⟨rfl, rfl, rfl⟩ rfl (takes_of rfl rfl rfl rfl) (T.err "NotGood" (by decide +kernel)) Fi bi hr (by omega) (by rfl) (T.glo "NotGood" (by decide +kernel)) (VE.var (pv 1)))) VSs.nil)
  (VSs.cons (VS.ifS (VT.cmp (o_eq ⟨rfl, rfl, rfl⟩ hr.units) (VE.var (pv 0)) VE.int (nomark _)) (VSs.one (VS.raise ⟨rfl, rfl, rfl⟩ rfl (takes_of rfl rfl rfl rfl) (T.err "UnknownName" (by decide +kernel)) Fi bi hr (by omega) (by rfl) (T.glo "UnknownName" (by decide +kernel)) (VE.var (pv 1)))) VSs.nil)
  (VSs.cons (VS.ifS (VT.cmp (o_eq ⟨rfl, rfl, rfl⟩ hr.units) (VE.var (pv 0)) VE.int (nomark _)) (VSs.one (VS.raise ⟨rfl, rfl, rfl⟩ rfl (takes_of rfl rfl rfl rfl) (T.err "NothingToUndo" (by decide +kernel)) Fi bi hr (by omega) (by rfl) (T.glo "NothingToUndo" (by decide +kernel)) (VE.var (pv 1)))) VSs.nil)
  (VSs.cons (VS.ifS (VT.cmp (o_eq ⟨rfl, rfl, rfl⟩ hr.units) (VE.var (pv 0)) VE.int (nomark _)) (VSs.one (VS.raise ⟨rfl, rfl, rfl⟩ rfl (takes_of rfl rfl rfl rfl) (T.err "Unreadable" (by decide +kernel)) Fi bi hr (by omega) (by rfl) (T.glo "Unreadable" (by decide +kernel)) (VE.var (pv 1)))) VSs.nil)
  (VSs.one (VS.raise ⟨rfl, rfl, rfl⟩ rfl (takes_of rfl rfl rfl rfl) (T.err "Unorderly" (by decide +kernel)) Fi bi hr (by omega) (by rfl) (T.glo "Unorderly" (by decide +kernel)) (VE.var (pv 1)))))))))))))))⟩

theorem ok__law_raise_named_first (T : Top K mg)  : CalX P w K mg base 3 "_law_raise_named_first" s__law_raise_named_first ["which", "given"] (spV (cn w K mg) 2 none m_law_raise_named_first) := by
  obtain ⟨_, Fi, bi, bK⟩ := init_okK (P := P) (w := w) (base := base) T
  exact def_calX T.d__law_raise_named_first sc__law_raise_named_first (fun _ _ _ _ _ _ us hl => match us, hl with | [_, _], _ => rfl) rfl rfl fun f cdv A outer s H E hr =>
  ⟨_, (VSs.cons (VS.ifS (VT.cmp (o_eq ⟨rfl, rfl, rfl⟩ hr.units) (VE.var (pv 0)) VE.int (nomark _)) (VSs.one (VS.raiseK ⟨rfl, rfl, rfl⟩ rfl (takes_of rfl rfl rfl rfl) (T.err "InvalidBook" (by decide +kernel)) Fi bK hr (by omega) (by rfl) (T.glo "InvalidBook" (by decide +kernel)) (VE.var (pv 1)))) VSs.nil)
  (VSs.cons (VS.ifS (VT.cmp (o_eq ⟨rfl, rfl, rfl⟩ hr.units) (VE.var (pv 0)) VE.int (nomark _)) (VSs.one (VS.raiseK ⟨rfl, rfl, rfl⟩ rfl (takes_of rfl rfl rfl rfl) (T.err "InvalidWord" (by decide +kernel)) Fi bK hr (by omega) (by rfl) (T.glo "InvalidWord" (by decide +kernel)) (VE.var (pv 1)))) VSs.nil)
  (VSs.cons (VS.ifS (VT.cmp (o_eq ⟨rfl, rfl, rfl⟩ hr.units) (VE.var (pv 0)) VE.int (nomark _)) (VSs.one (VS.raiseK ⟨rfl, rfl, rfl⟩ rfl (takes_of rfl rfl rfl rfl) (T.err "InvalidNumber" (by decide +kernel)) Fi bK hr (by omega) (by rfl) (T.glo "InvalidNumber" (by decide +kernel)) (VE.var (pv 1)))) VSs.nil)
  (VSs.cons (VS.ifS (VT.cmp (o_eq ⟨rfl, rfl, rfl⟩ hr.units) (VE.var (pv 0)) VE.int (nomark _)) (VSs.one (VS.raiseK ⟨rfl, rfl, rfl⟩ rfl (takes_of rfl rfl rfl rfl) (T.err "InvalidKey" (by decide +kernel)) Fi bK hr (by omega) (by rfl) (T.glo "InvalidKey" (by decide +kernel)) (VE.var (pv 1)))) VSs.nil)
  (VSs.cons (VS.ifS (VT.cmp (o_eq ⟨rfl, rfl, rfl⟩ hr.units) (VE.var (pv 0)) VE.int (nomark _)) (VSs.one (VS.raiseK ⟨rfl, rfl, rfl⟩ rfl (takes_of rfl rfl rfl rfl) (T.err "InvalidCell" (by decide +kernel)) Fi bK hr (by omega) (by rfl) (T.glo "InvalidCell" (by decide +kernel)) (VE.var (pv 1)))) VSs.nil)
  (VSs.cons (VS.ifS (VT.cmp (o_eq ⟨rfl, rfl, rfl⟩ hr.units) (VE.var (pv 0)) VE.int (nomark _)) (VSs.one (VS.raiseK ⟨rfl, rfl, rfl⟩ rfl (takes_of rfl rfl rfl rfl) (T.err "InvalidRow" (by decide +kernel)) Fi bK hr (by omega) (by rfl) (T.glo "InvalidRow" (by decide +kernel)) (VE.var (pv 1)))) VSs.nil)
  (VSs.cons (VS.ifS (VT.cmp (o_eq ⟨rfl, rfl, rfl⟩ hr.units) (VE.var (pv 0)) VE.int (nomark _)) (VSs.one (VS.raiseK ⟨rfl, rfl, rfl⟩ rfl (takes_of rfl rfl rfl rfl) (T.err "InvalidLot" (by decide +kernel)) Fi bK hr (by omega) (by rfl) (T.glo "InvalidLot" (by decide +kernel)) (VE.var (pv 1)))) VSs.nil)
  (VSs.cons (VS.ifS (VT.cmp (o_eq ⟨rfl, rfl, rfl⟩ hr.units) (VE.var (pv 0)) VE.int (nomark _)) (VSs.one (VS.raiseK ⟨rfl, rfl, rfl⟩ rfl (takes_of rfl rfl rfl rfl) (T.err "InvalidTable" (by decide +kernel)) Fi bK hr (by omega) (by rfl) (T.glo "InvalidTable" (by decide +kernel)) (VE.var (pv 1)))) VSs.nil)
  (VSs.cons (VS.ifS (VT.cmp (o_eq ⟨rfl, rfl, rfl⟩ hr.units) (VE.var (pv 0)) VE.int (nomark _)) (VSs.one (VS.raiseK ⟨rfl, rfl, rfl⟩ rfl (takes_of rfl rfl rfl rfl) (T.err "InvalidValues" (by decide +kernel)) Fi bK hr (by omega) (by rfl) (T.glo "InvalidValues" (by decide +kernel)) (VE.var (pv 1)))) VSs.nil)
  (VSs.cons (VS.ifS (VT.cmp (o_eq ⟨rfl, rfl, rfl⟩ hr.units) (VE.var (pv 0)) VE.int (nomark _)) (VSs.one (VS.raiseK ⟨rfl, rfl, rfl⟩ rfl (takes_of rfl rfl rfl rfl) (T.err "InvalidRoad" (by decide +kernel)) Fi bK hr (by omega) (by rfl) (T.glo "InvalidRoad" (by decide +kernel)) (VE.var (pv 1)))) VSs.nil)
  (VSs.cons (VS.ifS (VT.cmp (o_eq ⟨rfl, rfl, rfl⟩ hr.units) (VE.var (pv 0)) VE.int (nomark _)) (VSs.one (VS.raiseK ⟨rfl, rfl, rfl⟩ rfl (takes_of rfl rfl rfl rfl) (T.err "InvalidSeats" (by decide +kernel)) Fi bK hr (by omega) (by rfl) (T.glo "InvalidSeats" (by decide +kernel)) (VE.var (pv 1)))) VSs.nil)
  (VSs.cons (VS.ifS (VT.cmp (o_eq ⟨rfl, rfl, rfl⟩ hr.units) (VE.var (pv 0)) VE.int (nomark _)) (VSs.one (VS.raiseK ⟨rfl, rfl, rfl⟩ rfl (takes_of rfl rfl rfl rfl) (T.err "NotFree" (by decide +kernel)) Fi bK hr (by omega) (by rfl) (T.glo "NotFree" (by decide +kernel)) (VE.var (pv 1)))) VSs.nil)
  (VSs.one (VS.raiseK ⟨rfl, rfl, rfl⟩ rfl (takes_of rfl rfl rfl rfl) (T.err "NoTable" (by decide +kernel)) Fi bK hr (by omega) (by rfl) (T.glo "NoTable" (by decide +kernel)) (VE.var (pv 1))))))))))))))))⟩

theorem ok__law_raise_named_second (T : Top K mg)  : CalX P w K mg base 3 "_law_raise_named_second" s__law_raise_named_second ["which", "given"] (spV (cn w K mg) 2 none m_law_raise_named_second) := by
  obtain ⟨_, Fi, bi, bK⟩ := init_okK (P := P) (w := w) (base := base) T
  exact def_calX T.d__law_raise_named_second sc__law_raise_named_second (fun _ _ _ _ _ _ us hl => match us, hl with | [_, _], _ => rfl) rfl rfl fun f cdv A outer s H E hr =>
  ⟨_, (VSs.cons (VS.ifS (VT.cmp (o_eq ⟨rfl, rfl, rfl⟩ hr.units) (VE.var (pv 0)) VE.int (nomark _)) (VSs.one (VS.raiseK ⟨rfl, rfl, rfl⟩ rfl (takes_of rfl rfl rfl rfl) (T.err "NoSeats" (by decide +kernel)) Fi bK hr (by omega) (by rfl) (T.glo "NoSeats" (by decide +kernel)) (VE.var (pv 1)))) VSs.nil)
  (VSs.cons (VS.ifS (VT.cmp (o_eq ⟨rfl, rfl, rfl⟩ hr.units) (VE.var (pv 0)) VE.int (nomark _)) (VSs.one (VS.raiseK ⟨rfl, rfl, rfl⟩ rfl (takes_of rfl rfl rfl rfl) (T.err "InvalidPlacing" (by decide +kernel)) Fi bK hr (by omega) (by rfl) (T.glo "InvalidPlacing" (by decide +kernel)) (VE.var (pv 1)))) VSs.nil)
  (VSs.cons (VS.ifS (VT.cmp (o_eq ⟨rfl, rfl, rfl⟩ hr.units) (VE.var (pv 0)) VE.int (nomark _)) (VSs.one (VS.raiseK ⟨rfl, rfl, rfl⟩ rfl (takes_of rfl rfl rfl rfl) (T.err "InvalidChain" (by decide +kernel)) Fi bK hr (by omega) (by rfl) (T.glo "InvalidChain" (by decide +kernel)) (VE.var (pv 1)))) VSs.nil)
  (VSs.cons (VS.ifS (VT.cmp (o_eq ⟨rfl, rfl, rfl⟩ hr.units) (VE.var (pv 0)) VE.int (nomark _)) (VSs.one (VS.raiseK ⟨rfl, rfl, rfl⟩ rfl (takes_of rfl rfl rfl rfl) (T.err "InvalidMixing" (by decide +kernel)) Fi bK hr (by omega) (by rfl) (T.glo "InvalidMixing" (by decide +kernel)) (VE.var (pv 1)))) VSs.nil)
  (VSs.cons (VS.ifS (VT.cmp (o_eq ⟨rfl, rfl, rfl⟩ hr.units) (VE.var (pv 0)) VE.int (nomark _)) (VSs.one (VS.raiseK ⟨rfl, rfl, rfl⟩ rfl (takes_of rfl rfl rfl rfl) (T.err "InvalidFilter" (by decide +kernel)) Fi bK hr (by omega) (by rfl) (T.glo "InvalidFilter" (by decide +kernel)) (VE.var (pv 1)))) VSs.nil)
  (VSs.cons (VS.ifS (VT.cmp (o_eq ⟨rfl, rfl, rfl⟩ hr.units) (VE.var (pv 0)) VE.int (nomark _)) (VSs.one (VS.raiseK ⟨rfl, rfl, rfl⟩ rfl (takes_of rfl rfl rfl rfl) (T.err "InvalidName" (by decide +kernel)) Fi bK hr (by omega) (by rfl) (T.glo "InvalidName" (by decide +kernel)) (VE.var (pv 1)))) VSs.nil)
  (VSs.cons (VS.ifS (VT.cmp (o_eq ⟨rfl, rfl, rfl⟩ hr.units) (VE.var (pv 0)) VE.int (nomark _)) (VSs.one (VS.raiseK ⟨rfl, rfl, rfl⟩ rfl (takes_of rfl rfl rfl rfl) (T.err "HasCore" (by decide +kernel)) Fi bK hr (by omega) (by rfl) (T.glo "HasCore" (by decide +kernel)) (VE.var (pv 1)))) VSs.nil)
  (VSs.cons (VS.ifS (VT.cmp (o_eq ⟨rfl, rfl, rfl⟩ hr.units) (VE.var (pv 0)) VE.int (nomark _)) (VSs.one (VS.raiseK ⟨rfl, rfl, rfl⟩ rfl (takes_of rfl rfl rfl rfl) (T.err "NotGood" (by decide +kernel)) Fi bK hr (by omega) (by rfl) (T.glo "NotGood" (by decide +kernel)) (VE.var (pv 1)))) VSs.nil)
  (VSs.cons (VS.ifS (VT.cmp (o_eq ⟨rfl, rfl, rfl⟩ hr.units) (VE.var (pv 0)) VE.int (nomark _)) (VSs.one (VS.raiseK ⟨rfl, rfl, rfl⟩ rfl (takes_of rfl rfl rfl rfl) (T.err "UnknownName" (by decide +kernel)) Fi bK hr (by omega) (by rfl) (T.glo "UnknownName" (by decide +kernel)) (VE.var (pv 1)))) VSs.nil)
  (VSs.cons (VS.ifS (VT.cmp (o_eq ⟨rfl, rfl, rfl⟩ hr.units) (VE.var (pv 0)) VE.int (nomark _)) (VSs.one (VS.raiseK ⟨rfl, rfl, rfl⟩ rfl (takes_of rfl rfl rfl rfl) (T.err "NothingToUndo" (by decide +kernel)) Fi bK hr (by omega) (by rfl) (T.glo "NothingToUndo" (by decide +kernel)) (VE.var (pv 1)))) VSs.nil)
  (VSs.cons (VS.ifS (VT.cmp (o_eq ⟨rfl, rfl, rfl⟩ hr.units) (VE.var (pv 0)) VE.int (nomark _)) (VSs.one (VS.raiseK ⟨rfl, rfl, rfl⟩ rfl (takes_of rfl rfl rfl rfl) (T.err "Unreadable" (by decide +kernel)) Fi bK hr (by omega) (by rfl) (T.glo "Unreadable" (by decide +kernel)) (VE.var (pv 1)))) VSs.nil)
  (VSs.one (VS.raiseK ⟨rfl, rfl, rfl⟩ rfl (takes_of rfl rfl rfl rfl) (T.err "Unorderly" (by decide +kernel)) Fi bK hr (by omega) (by rfl) (T.glo "Unorderly" (by decide +kernel)) (VE.var (pv 1)))))))))))))))⟩

theorem ok__law_raised (T : Top K mg) (c__law_raise_named_first : CalX P w K mg base 3 "_law_raise_named_first" s__law_raise_named_first ["which", "given"] (spV (cn w K mg) 2 none m_law_raise_named_first)) (c__law_raise_first : CalX P w K mg base 3 "_law_raise_first" s__law_raise_first ["which", "given"] (spV (cn w K mg) 2 none m_law_raise_first)) (c__law_raise_named_second : CalX P w K mg base 3 "_law_raise_named_second" s__law_raise_named_second ["which", "given"] (spV (cn w K mg) 2 none m_law_raise_named_second)) (c__law_raise_second : CalX P w K mg base 3 "_law_raise_second" s__law_raise_second ["which", "given"] (spV (cn w K mg) 2 none m_law_raise_second)) : CalX P w K mg base 4 "_law_raised" s__law_raised ["which", "given", "named"] (spV (cn w K mg) 3 none m_law_raised) := by
  obtain ⟨_, Fi, bi, bK⟩ := init_okK (P := P) (w := w) (base := base) T
  exact def_calX T.d__law_raised sc__law_raised (fun _ _ _ _ _ _ us hl => match us, hl with | [_, _, _], _ => rfl) rfl rfl fun f cdv A outer s H E hr =>
  ⟨_, (VSs.one (VS.ifS (VW.t (VW.and (VT.cmp (o_lt) (VE.var (pv 0)) VE.int (nomark _)) (VW.and1 (VT.tru ⟨rfl, rfl, rfl⟩ (VE.var (pv 2)) (fun _ => rfl))))) (VSs.one (VS.expr (VE.callX c__law_raise_named_first (takes_of rfl rfl rfl rfl) hr (by omega) (by rfl) (VA.cons (VE.var (pv 0)) (VA.cons (VE.var (pv 1)) VA.nil))))) (VSs.one (VS.ifS (VT.cmp (o_lt) (VE.var (pv 0)) VE.int (nomark _)) (VSs.one (VS.expr (VE.callX c__law_raise_first (takes_of rfl rfl rfl rfl) hr (by omega) (by rfl) (VA.cons (VE.var (pv 0)) (VA.cons (VE.var (pv 1)) VA.nil))))) (VSs.one (VS.ifS (VT.tru ⟨rfl, rfl, rfl⟩ (VE.var (pv 2)) (fun _ => rfl)) (VSs.one (VS.expr (VE.callX c__law_raise_named_second (takes_of rfl rfl rfl rfl) hr (by omega) (by rfl) (VA.cons (VE.var (pv 0)) (VA.cons (VE.var (pv 1)) VA.nil))))) (VSs.one (VS.expr (VE.callX c__law_raise_second (takes_of rfl rfl rfl rfl) hr (by omega) (by rfl) (VA.cons (VE.var (pv 0)) (VA.cons (VE.var (pv 1)) VA.nil)))))))))))⟩

theorem ok__law_kinds (T : Top K mg)  : CalD P w K mg base 1 "_law_kinds" s__law_kinds ["e"] (spV (cn w K mg) 1 (some 0) m_law_kinds) :=
  def_cal T.d__law_kinds sc__law_kinds (fun _ _ _ _ _ _ us hl => match us, hl with | [_], _ => rfl) rfl rfl fun f cdv A outer s H E hr =>
  ⟨_, (VSs.cons (VS.set (i := 1) (by decide) sc__law_kinds.nd rfl (Or.inl rfl) (VE.lst (VA.cons (VE.isC (tbl := kitOf rcl kinK "InvalidBook") (i := 0) ⟨rfl, rfl, rfl⟩ (pv 0) (by rfl) T.z_isinstance (by rfl) (T.glo "InvalidBook" (by decide +kernel)) (kitOf_ok T.glo T.err T.kit (by decide +kernel))) (VA.cons (VE.isC (tbl := kitOf rcl kinK "InvalidWord") (i := 0) ⟨rfl, rfl, rfl⟩ (pv 0) (by rfl) T.z_isinstance (by rfl) (T.glo "InvalidWord" (by decide +kernel)) (kitOf_ok T.glo T.err T.kit (by decide +kernel))) (VA.cons (VE.isC (tbl := kitOf rcl kinK "InvalidNumber") (i := 0) ⟨rfl, rfl, rfl⟩ (pv 0) (by rfl) T.z_isinstance (by rfl) (T.glo "InvalidNumber" (by decide +kernel)) (kitOf_ok T.glo T.err T.kit (by decide +kernel))) VA.nil)))))
  (VSs.cons (VS.set (i := 1) (by decide) sc__law_kinds.nd rfl (Or.inl rfl) (VE.bin (o_add ⟨rfl, rfl, rfl⟩) (VE.var (pv 1)) (VE.lst (VA.cons (VE.isC (tbl := kitOf rcl kinK "InvalidKey") (i := 0) ⟨rfl, rfl, rfl⟩ (pv 0) (by rfl) T.z_isinstance (by rfl) (T.glo "InvalidKey" (by decide +kernel)) (kitOf_ok T.glo T.err T.kit (by decide +kernel))) (VA.cons (VE.isC (tbl := kitOf rcl kinK "InvalidCell") (i := 0) ⟨rfl, rfl, rfl⟩ (pv 0) (by rfl) T.z_isinstance (by rfl) (T.glo "InvalidCell" (by decide +kernel)) (kitOf_ok T.glo T.err T.kit (by decide +kernel))) (VA.cons (VE.isC (tbl := kitOf rcl kinK "InvalidRow") (i := 0) ⟨rfl, rfl, rfl⟩ (pv 0) (by rfl) T.z_isinstance (by rfl) (T.glo "InvalidRow" (by decide +kernel)) (kitOf_ok T.glo T.err T.kit (by decide +kernel))) VA.nil))))))
  (VSs.cons (VS.set (i := 1) (by decide) sc__law_kinds.nd rfl (Or.inl rfl) (VE.bin (o_add ⟨rfl, rfl, rfl⟩) (VE.var (pv 1)) (VE.lst (VA.cons (VE.isC (tbl := kitOf rcl kinK "InvalidLot") (i := 0) ⟨rfl, rfl, rfl⟩ (pv 0) (by rfl) T.z_isinstance (by rfl) (T.glo "InvalidLot" (by decide +kernel)) (kitOf_ok T.glo T.err T.kit (by decide +kernel))) (VA.cons (VE.isC (tbl := kitOf rcl kinK "InvalidTable") (i := 0) ⟨rfl, rfl, rfl⟩ (pv 0) (by rfl) T.z_isinstance (by rfl) (T.glo "InvalidTable" (by decide +kernel)) (kitOf_ok T.glo T.err T.kit (by decide +kernel))) (VA.cons (VE.isC (tbl := kitOf rcl kinK "InvalidValues") (i := 0) ⟨rfl, rfl, rfl⟩ (pv 0) (by rfl) T.z_isinstance (by rfl) (T.glo "InvalidValues" (by decide +kernel)) (kitOf_ok T.glo T.err T.kit (by decide +kernel))) VA.nil))))))
  (VSs.cons (VS.set (i := 1) (by decide) sc__law_kinds.nd rfl (Or.inl rfl) (VE.bin (o_add ⟨rfl, rfl, rfl⟩) (VE.var (pv 1)) (VE.lst (VA.cons (VE.isC (tbl := kitOf rcl kinK "InvalidRoad") (i := 0) ⟨rfl, rfl, rfl⟩ (pv 0) (by rfl) T.z_isinstance (by rfl) (T.glo "InvalidRoad" (by decide +kernel)) (kitOf_ok T.glo T.err T.kit (by decide +kernel))) (VA.cons (VE.isC (tbl := kitOf rcl kinK "InvalidSeats") (i := 0) ⟨rfl, rfl, rfl⟩ (pv 0) (by rfl) T.z_isinstance (by rfl) (T.glo "InvalidSeats" (by decide +kernel)) (kitOf_ok T.glo T.err T.kit (by decide +kernel))) (VA.cons (VE.isC (tbl := kitOf rcl kinK "NotFree") (i := 0) ⟨rfl, rfl, rfl⟩ (pv 0) (by rfl) T.z_isinstance (by rfl) (T.glo "NotFree" (by decide +kernel)) (kitOf_ok T.glo T.err T.kit (by decide +kernel))) VA.nil))))))
  (VSs.cons (VS.set (i := 1) (by decide) sc__law_kinds.nd rfl (Or.inl rfl) (VE.bin (o_add ⟨rfl, rfl, rfl⟩) (VE.var (pv 1)) (VE.lst (VA.cons (VE.isC (tbl := kitOf rcl kinK "NoTable") (i := 0) ⟨rfl, rfl, rfl⟩ (pv 0) (by rfl) T.z_isinstance (by rfl) (T.glo "NoTable" (by decide +kernel)) (kitOf_ok T.glo T.err T.kit (by decide +kernel))) (VA.cons (VE.isC (tbl := kitOf rcl kinK "NoSeats") (i := 0) ⟨rfl, rfl, rfl⟩ (pv 0) (by rfl) T.z_isinstance (by rfl) (T.glo "NoSeats" (by decide +kernel)) (kitOf_ok T.glo T.err T.kit (by decide +kernel))) (VA.cons (VE.isC (tbl := kitOf rcl kinK "InvalidPlacing") (i := 0) ⟨rfl, rfl, rfl⟩ (pv 0) (by rfl) T.z_isinstance (by rfl) (T.glo "InvalidPlacing" (by decide +kernel)) (kitOf_ok T.glo T.err T.kit (by decide +kernel))) VA.nil))))))
  (VSs.cons (VS.set (i := 1) (by decide) sc__law_kinds.nd rfl (Or.inl rfl) (VE.bin (o_add ⟨rfl, rfl, rfl⟩) (VE.var (pv 1)) (VE.lst (VA.cons (VE.isC (tbl := kitOf rcl kinK "InvalidChain") (i := 0) ⟨rfl, rfl, rfl⟩ (pv 0) (by rfl) T.z_isinstance (by rfl) (T.glo "InvalidChain" (by decide +kernel)) (kitOf_ok T.glo T.err T.kit (by decide +kernel))) (VA.cons (VE.isC (tbl := kitOf rcl kinK "InvalidMixing") (i := 0) ⟨rfl, rfl, rfl⟩ (pv 0) (by rfl) T.z_isinstance (by rfl) (T.glo "InvalidMixing" (by decide +kernel)) (kitOf_ok T.glo T.err T.kit (by decide +kernel))) (VA.cons (VE.isC (tbl := kitOf rcl kinK "InvalidFilter") (i := 0) ⟨rfl, rfl, rfl⟩ (pv 0) (by rfl) T.z_isinstance (by rfl) (T.glo "InvalidFilter" (by decide +kernel)) (kitOf_ok T.glo T.err T.kit (by decide +kernel))) VA.nil))))))
  (VSs.cons (VS.set (i := 1) (by decide) sc__law_kinds.nd rfl (Or.inl rfl) (VE.bin (o_add ⟨rfl, rfl, rfl⟩) (VE.var (pv 1)) (VE.lst (VA.cons (VE.isC (tbl := kitOf rcl kinK "InvalidName") (i := 0) ⟨rfl, rfl, rfl⟩ (pv 0) (by rfl) T.z_isinstance (by rfl) (T.glo "InvalidName" (by decide +kernel)) (kitOf_ok T.glo T.err T.kit (by decide +kernel))) (VA.cons (VE.isC (tbl := kitOf rcl kinK "HasCore") (i := 0) ⟨rfl, rfl, rfl⟩ (pv 0) (by rfl) T.z_isinstance (by rfl) (T.glo "HasCore" (by decide +kernel)) (kitOf_ok T.glo T.err T.kit (by decide +kernel))) (VA.cons (VE.isC (tbl := kitOf rcl kinK "NotGood") (i := 0) ⟨rfl, rfl, rfl⟩ (pv 0) (by rfl) T.z_isinstance (by rfl) (T.glo "NotGood" (by decide +kernel)) (kitOf_ok T.glo T.err T.kit (by decide +kernel))) VA.nil))))))
  (VSs.cons (VS.set (i := 1) (by decide) sc__law_kinds.nd rfl (Or.inl rfl) (VE.bin (o_add ⟨rfl, rfl, rfl⟩) (VE.var (pv 1)) (VE.lst (VA.cons (VE.isC (tbl := kitOf rcl kinK "UnknownName") (i := 0) ⟨rfl, rfl, rfl⟩ (pv 0) (by rfl) T.z_isinstance (by rfl) (T.glo "UnknownName" (by decide +kernel)) (kitOf_ok T.glo T.err T.kit (by decide +kernel))) (VA.cons (VE.isC (tbl := kitOf rcl kinK "NothingToUndo") (i := 0) ⟨rfl, rfl, rfl⟩ (pv 0) (by rfl) T.z_isinstance (by rfl) (T.glo "NothingToUndo" (by decide +kernel)) (kitOf_ok T.glo T.err T.kit (by decide +kernel))) (VA.cons (VE.isC (tbl := kitOf rcl kinK "Unreadable") (i := 0) ⟨rfl, rfl, rfl⟩ (pv 0) (by rfl) T.z_isinstance (by rfl) (T.glo "Unreadable" (by decide +kernel)) (kitOf_ok T.glo T.err T.kit (by decide +kernel))) VA.nil))))))
  (VSs.one (VS.ret (VE.bin (o_add ⟨rfl, rfl, rfl⟩) (VE.var (pv 1)) (VE.lst (VA.cons (VE.isC (tbl := kitOf rcl kinK "Unorderly") (i := 0) ⟨rfl, rfl, rfl⟩ (pv 0) (by rfl) T.z_isinstance (by rfl) (T.glo "Unorderly" (by decide +kernel)) (kitOf_ok T.glo T.err T.kit (by decide +kernel))) VA.nil)))))))))))))⟩

theorem ok__law_given (T : Top K mg) (c__law_take : CalD P w K mg base 1 "_law_take" s__law_take ["deck", "many"] (spV (cn w K mg) 2 (some 0) m_law_take)) : CalD P w K mg base 2 "_law_given" s__law_given ["deck"] (spV (cn w K mg) 1 (some 0) m_law_given) :=
  def_cal T.d__law_given sc__law_given (fun _ _ _ _ _ _ us hl => match us, hl with | [_], _ => rfl) rfl rfl fun f cdv A outer s H E hr =>
  ⟨_, (VSs.cons (VS.set (i := 1) (by decide) sc__law_given.nd rfl (Or.inl rfl) (VE.bin (o_sub) (VE.call c__law_take hr (by omega) (by rfl) (VA.cons (VE.var (pv 0)) (VA.cons (VE.bin (o_pow) VE.int VE.int) VA.nil))) (VE.bin (o_pow) VE.int VE.int)))
  (VSs.cons (VS.set (i := 2) (by decide) sc__law_given.nd rfl (Or.inl rfl) (VE.lst (VA.cons (VE.var (pv 1)) (VA.cons (VE.call c__law_take hr (by omega) (by rfl) (VA.cons (VE.var (pv 0)) (VA.cons VE.int VA.nil))) (VA.cons VE.str (VA.cons VE.str (VA.cons VE.non (VA.cons VE.bl (VA.cons VE.bl (VA.cons (VE.tup VA.nil) (VA.cons (VE.tup (VA.cons (VE.var (pv 1)) (VA.cons VE.int VA.nil))) (VA.cons (VE.lst (VA.cons (VE.var (pv 1)) (VA.cons VE.str VA.nil))) (VA.cons (VE.tup (VA.cons (VE.tup (VA.cons VE.int (VA.cons VE.int VA.nil))) (VA.cons (VE.tup (VA.cons VE.str (VA.cons (VE.tup VA.nil) VA.nil))) VA.nil))) (VA.cons (VE.lst VA.nil) VA.nil))))))))))))))
  (VSs.cons (VS.set (i := 2) (by decide) sc__law_given.nd rfl (Or.inl rfl) (VE.bin (o_add ⟨rfl, rfl, rfl⟩) (VE.var (pv 2)) (VE.lst (VA.cons (VE.un o_neg VE.int) (VA.cons VE.int VA.nil)))))
  (VSs.one (VS.ret (VE.ix (o_ix ⟨rfl, rfl, rfl⟩ hr.units) (VE.var (pv 2)) (VE.call c__law_take hr (by omega) (by rfl) (VA.cons (VE.var (pv 0)) (VA.cons VE.int VA.nil))) (fun _ _ => rfl)))))))⟩

theorem ok__law_right (T : Top K mg) (c__law_raised : CalX P w K mg base 4 "_law_raised" s__law_raised ["which", "given", "named"] (spV (cn w K mg) 3 none m_law_raised)) (c__law_kinds : CalD P w K mg base 1 "_law_kinds" s__law_kinds ["e"] (spV (cn w K mg) 1 (some 0) m_law_kinds)) (c__law_same : CalD P w K mg base 13 "_law_same" s__law_same ["found", "due"] (spV (cn w K mg) 2 none (m_law_same 12))) : CalD P w K mg base 14 "_law_right" s__law_right ["which", "given", "named"] (spV (cn w K mg) 3 none m_law_right) :=
  def_cal T.d__law_right sc__law_right (fun _ _ _ _ _ _ us hl => match us, hl with | [_, _, _], _ => rfl) rfl rfl fun f cdv A outer s H E hr =>
  ⟨_, (VSs.cons (VS.set (i := 3) (by decide) sc__law_right.nd rfl (Or.inl rfl) VE.non)
  (VSs.cons (VS.tryM rfl rfl rfl sc__law_right.nd takes0 (fun W_ pn_ xe_ tk_ po_ => ⟨_, (VSs.one (VS.expr (VE.callX c__law_raised tk_ hr (by omega) (by rfl) (VA.cons (VE.var (pv 0)) (VA.cons (VE.var (pv 1)) (VA.cons (VE.var (pv 2)) VA.nil))))))⟩)
  (VHd.as (i := 4) rfl rfl ⟨by rfl, by decide, .inl (T.gloH "TellError" (by decide +kernel))⟩ (by decide) (tblOf_ok T.glo T.exm) (fun a_ pn_ => ⟨_, (VSs.one (VS.move (i := 4) (j := 3) (by decide) (by decide) sc__law_right.nd rfl (Or.inl rfl) (pv 4)))⟩)
  VHd.nil))
  (VSs.cons (VS.ifS (VW.t (VW.or (VT.isX _ (pv 3) VE.non rfl) (VW.or1 (VT.not (VT.tru ⟨rfl, rfl, rfl⟩ (VE.isCV (tbl := kitV rcl) (i := 3) ⟨rfl, rfl, rfl⟩ (pv 3) (by rfl) T.z_isinstance (by rfl) T.z_ValueError (by decide +kernel) (kitV_ok T.glo T.err T.kitV)) (fun _ => rfl)))))) (VSs.one (VS.ret VE.bl)) VSs.nil)
  (VSs.one (VS.ret (VE.and ⟨rfl, rfl, rfl⟩ (VE.cmp (o_eq ⟨rfl, rfl, rfl⟩ hr.units) (VE.call c__law_kinds hr (by omega) (by rfl) (VA.cons (VE.var (pv 3)) VA.nil)) (VE.lc (own := [("k", 5)]) (us := [5]) (by decide) rfl sc__law_right.nd (VI.rg1 (by rfl) T.z_range VE.int) (blkOk_by (own := [("k", 5)]) (N := N__law_right) (sc := defScope s__law_right) (by decide +kernel)) (fun _ _ _ _ _ => (VG.name (i := 5) (us := [5]) (by decide) (by decide) sc__law_right.nd rfl (Or.inl rfl))) (fun _ _ _ _ _ => VTs.nil) (fun _ _ _ _ _ => (VE.cmp (o_eq ⟨rfl, rfl, rfl⟩ hr.units) (VE.var (pv 5)) (VE.var (pv 0)) (nomark _)))) (nomark _)) (VE.one (VE.call c__law_same hr (by omega) (by rfl) (VA.cons (VE.xval (L := ["TellError", "InvalidBook", "InvalidWord", "InvalidNumber", "InvalidKey", "InvalidCell", "InvalidRow", "InvalidLot", "InvalidTable", "InvalidValues", "InvalidRoad", "InvalidSeats", "NotFree", "NoTable", "NoSeats", "InvalidPlacing", "InvalidChain", "InvalidMixing", "InvalidFilter", "InvalidName", "HasCore", "NotGood", "UnknownName", "NothingToUndo", "Unreadable", "Unorderly"]) (i := 3) ⟨rfl, rfl, rfl⟩ (pv 3) (errs_of T.glo T.err)) (VA.cons (VE.var (pv 1)) VA.nil))))))))))⟩

theorem ok__law_base_right (T : Top K mg) (c__law_kinds : CalD P w K mg base 1 "_law_kinds" s__law_kinds ["e"] (spV (cn w K mg) 1 (some 0) m_law_kinds)) (c__law_same : CalD P w K mg base 13 "_law_same" s__law_same ["found", "due"] (spV (cn w K mg) 2 none (m_law_same 12))) : CalD P w K mg base 14 "_law_base_right" s__law_base_right ["given"] (spV (cn w K mg) 1 none m_law_base_right) := by
  obtain ⟨_, Fi, bi, bK⟩ := init_okK (P := P) (w := w) (base := base) T
  exact def_cal T.d__law_base_right sc__law_base_right (fun _ _ _ _ _ _ us hl => match us, hl with | [_], _ => rfl) rfl rfl fun f cdv A outer s H E hr =>
  ⟨_, (VSs.cons (VS.set (i := 1) (by decide) sc__law_base_right.nd rfl (Or.inl rfl) VE.non)
  (VSs.cons (VS.tryM rfl rfl rfl sc__law_base_right.nd takes0 (fun W_ pn_ xe_ tk_ po_ => ⟨_, (VSs.one (VS.raiseK ⟨rfl, rfl, rfl⟩ rfl tk_ (T.err "TellError" (by decide +kernel)) Fi bK hr (by omega) (by rfl) (T.glo "TellError" (by decide +kernel)) (VE.var (pv 0))))⟩)
  (VHd.as (i := 2) rfl rfl ⟨by rfl, by decide, .inl (T.gloH "TellError" (by decide +kernel))⟩ (by decide) (tblOf_ok T.glo T.exm) (fun a_ pn_ => ⟨_, (VSs.one (VS.move (i := 2) (j := 1) (by decide) (by decide) sc__law_base_right.nd rfl (Or.inl rfl) (pv 2)))⟩)
  VHd.nil))
  (VSs.cons (VS.ifS (VW.t (VW.or (VT.not (VT.tru ⟨rfl, rfl, rfl⟩ (VE.isCV (tbl := kitV rcl) (i := 1) ⟨rfl, rfl, rfl⟩ (pv 1) (by rfl) T.z_isinstance (by rfl) T.z_ValueError (by decide +kernel) (kitV_ok T.glo T.err T.kitV)) (fun _ => rfl))) (VW.or1 (VT.cmp (o_in ⟨rfl, rfl, rfl⟩ (u65 hr)) VE.bl (VE.call c__law_kinds hr (by omega) (by rfl) (VA.cons (VE.var (pv 1)) VA.nil)) rfl)))) (VSs.one (VS.ret VE.bl)) VSs.nil)
  (VSs.one (VS.ret (VE.and ⟨rfl, rfl, rfl⟩ (VE.call c__law_same hr (by omega) (by rfl) (VA.cons (VE.xval (L := ["TellError", "InvalidBook", "InvalidWord", "InvalidNumber", "InvalidKey", "InvalidCell", "InvalidRow", "InvalidLot", "InvalidTable", "InvalidValues", "InvalidRoad", "InvalidSeats", "NotFree", "NoTable", "NoSeats", "InvalidPlacing", "InvalidChain", "InvalidMixing", "InvalidFilter", "InvalidName", "HasCore", "NotGood", "UnknownName", "NothingToUndo", "Unreadable", "Unorderly"]) (i := 1) ⟨rfl, rfl, rfl⟩ (pv 1) (errs_of T.glo T.err)) (VA.cons (VE.var (pv 0)) VA.nil))) (VE.one (VE.call c__law_same hr (by omega) (by rfl) (VA.cons (VE.errV ⟨rfl, rfl, rfl⟩ (T.err "TellError" (by decide +kernel)) Fi bi hr (by omega) (by rfl) (T.glo "TellError" (by decide +kernel)) (VE.var (pv 0))) (VA.cons (VE.var (pv 0)) VA.nil))))))))))⟩

theorem ok_law (T : Top K mg) (c__law_deck : CalD P w K mg base 1 "_law_deck" s__law_deck ["script", "k"] (spV (cn w K mg) 2 none m_law_deck)) (c__law_take : CalD P w K mg base 1 "_law_take" s__law_take ["deck", "many"] (spV (cn w K mg) 2 (some 0) m_law_take)) (c__law_given : CalD P w K mg base 2 "_law_given" s__law_given ["deck"] (spV (cn w K mg) 1 (some 0) m_law_given)) (c__law_right : CalD P w K mg base 14 "_law_right" s__law_right ["which", "given", "named"] (spV (cn w K mg) 3 none m_law_right)) (c__law_base_right : CalD P w K mg base 14 "_law_base_right" s__law_base_right ["given"] (spV (cn w K mg) 1 none m_law_base_right)) (c__law_raised : CalX P w K mg base 4 "_law_raised" s__law_raised ["which", "given", "named"] (spV (cn w K mg) 3 none m_law_raised)) (c__law_same : CalD P w K mg base 13 "_law_same" s__law_same ["found", "due"] (spV (cn w K mg) 2 none (m_law_same 12))) : CalD P w K mg base 15 "law" s_law ["script"] (spV (cn w K mg) 1 none m_law) :=
  def_cal T.d_law sc_law (fun _ _ _ _ _ _ us hl => match us, hl with | [_], _ => rfl) rfl rfl fun f cdv A outer s H E hr =>
  ⟨_, (VSs.cons (VS.asg (VE.tup (VA.cons VE.non (VA.cons VE.non VA.nil))) (VG.tup 2 ⟨rfl, rfl, rfl⟩ rfl (VGs.cons (VG.name (i := 1) (us := [1, 2]) (by decide) (by decide) sc_law.nd rfl (Or.inl rfl)) (VGs.cons (VG.name (i := 2) (us := [1, 2]) (by decide) (by decide) sc_law.nd rfl (Or.inl rfl)) VGs.nil))))
  (VSs.cons (VS.for PassesOwn.never rfl (VI.rg1 (by rfl) T.z_range (VE.callB (o_max ⟨rfl, rfl, rfl⟩ rfl hr) (by rfl) T.z_max (by decide +kernel) (VA.cons VE.int (VA.cons (VE.callB (o_min rfl) (by rfl) T.z_min (by decide +kernel) (VA.cons (VE.callB (o_len ⟨rfl, rfl, rfl⟩) (by rfl) T.z_len PySem.boot_len (VA.cons (VE.var (pv 0)) VA.nil)) (VA.cons VE.int VA.nil))) VA.nil)))) (VG.name (i := 3) (us := [3]) (by decide) (by decide) sc_law.nd rfl (Or.inl rfl)) (VSs.cons (VS.set (i := 4) (by decide) sc_law.nd rfl (Or.inl rfl) (VE.call c__law_deck hr (by omega) (by rfl) (VA.cons (VE.var (pv 0)) (VA.cons (VE.var (pv 3)) VA.nil))))
  (VSs.cons (VS.par (i := 5) (j := 6) (by decide) (by decide) rfl sc_law.nd rfl rfl (by decide) rfl rfl (VE.call c__law_take hr (by omega) (by rfl) (VA.cons (VE.var (pv 4)) (VA.cons VE.int VA.nil))) (VE.cmp (o_eq ⟨rfl, rfl, rfl⟩ hr.units) (VE.call c__law_take hr (by omega) (by rfl) (VA.cons (VE.var (pv 4)) (VA.cons VE.int VA.nil))) VE.int (nomark _)) (by rfl))
  (VSs.cons (VS.par (i := 7) (j := 8) (by decide) (by decide) rfl sc_law.nd rfl rfl (by decide) rfl rfl (VE.call c__law_given hr (by omega) (by rfl) (VA.cons (VE.var (pv 4)) VA.nil)) (VE.call c__law_given hr (by omega) (by rfl) (VA.cons (VE.var (pv 4)) VA.nil)) (by rfl))
  (VSs.cons (VS.ifS (VW.t (VW.or (VT.not (VT.tru ⟨rfl, rfl, rfl⟩ (VE.call c__law_right hr (by omega) (by rfl) (VA.cons (VE.var (pv 5)) (VA.cons (VE.var (pv 7)) (VA.cons (VE.var (pv 6)) VA.nil)))) (fun _ => rfl))) (VW.or (VT.not (VT.tru ⟨rfl, rfl, rfl⟩ (VE.call c__law_right hr (by omega) (by rfl) (VA.cons (VE.var (pv 5)) (VA.cons (VE.var (pv 8)) (VA.cons (VE.not ⟨rfl, rfl, rfl⟩ (VE.var (pv 6))) VA.nil)))) (fun _ => rfl))) (VW.or1 (VT.not (VT.tru ⟨rfl, rfl, rfl⟩ (VE.call c__law_base_right hr (by omega) (by rfl) (VA.cons (VE.var (pv 8)) VA.nil)) (fun _ => rfl))))))) (VSs.one (VS.ret VE.bl)) VSs.nil)
  (VSs.cons (VS.tryM rfl rfl rfl sc_law.nd takes0 (fun W_ pn_ xe_ tk_ po_ => ⟨_, (VSs.one (VS.expr (VE.callX c__law_raised tk_ hr (by omega) (by rfl) (VA.cons (VE.var (pv 5)) (VA.cons (VE.var (pv 7)) (VA.cons (VE.var (pv 6)) VA.nil))))))⟩)
  (VHd.as (i := 9) rfl rfl ⟨by rfl, by decide, .inl (T.gloH "TellError" (by decide +kernel))⟩ (by decide) (tblOf_ok T.glo T.exm) (fun a_ pn_ => ⟨_, (VSs.one (VS.move (i := 9) (j := 1) (by decide) (by decide) sc_law.nd rfl (Or.inl rfl) (pv 9)))⟩)
  VHd.nil))
  (VSs.cons (VS.tryM rfl rfl rfl sc_law.nd takes0 (fun W_ pn_ xe_ tk_ po_ => ⟨_, (VSs.one (VS.expr (VE.callX c__law_raised tk_ hr (by omega) (by rfl) (VA.cons (VE.var (pv 5)) (VA.cons (VE.var (pv 8)) (VA.cons (VE.var (pv 6)) VA.nil))))))⟩)
  (VHd.as (i := 9) rfl rfl ⟨by rfl, by decide, .inl (T.gloH "TellError" (by decide +kernel))⟩ (by decide) (tblOf_ok T.glo T.exm) (fun a_ pn_ => ⟨_, (VSs.one (VS.move (i := 9) (j := 2) (by decide) (by decide) sc_law.nd rfl (Or.inl rfl) (pv 9)))⟩)
  VHd.nil))
  (VSs.one (VS.ifS (VW.t (VW.or (VT.not (VT.tru ⟨rfl, rfl, rfl⟩ (VE.call c__law_same hr (by omega) (by rfl) (VA.cons (VE.xval (L := ["TellError", "InvalidBook", "InvalidWord", "InvalidNumber", "InvalidKey", "InvalidCell", "InvalidRow", "InvalidLot", "InvalidTable", "InvalidValues", "InvalidRoad", "InvalidSeats", "NotFree", "NoTable", "NoSeats", "InvalidPlacing", "InvalidChain", "InvalidMixing", "InvalidFilter", "InvalidName", "HasCore", "NotGood", "UnknownName", "NothingToUndo", "Unreadable", "Unorderly"]) (i := 1) ⟨rfl, rfl, rfl⟩ (pv 1) (errs_of T.glo T.err)) (VA.cons (VE.var (pv 7)) VA.nil))) (fun _ => rfl))) (VW.or1 (VT.not (VT.tru ⟨rfl, rfl, rfl⟩ (VE.call c__law_same hr (by omega) (by rfl) (VA.cons (VE.xval (L := ["TellError", "InvalidBook", "InvalidWord", "InvalidNumber", "InvalidKey", "InvalidCell", "InvalidRow", "InvalidLot", "InvalidTable", "InvalidValues", "InvalidRoad", "InvalidSeats", "NotFree", "NoTable", "NoSeats", "InvalidPlacing", "InvalidChain", "InvalidMixing", "InvalidFilter", "InvalidName", "HasCore", "NotGood", "UnknownName", "NothingToUndo", "Unreadable", "Unorderly"]) (i := 2) ⟨rfl, rfl, rfl⟩ (pv 2) (errs_of T.glo T.err)) (VA.cons (VE.var (pv 8)) VA.nil))) (fun _ => rfl)))))) (VSs.one (VS.ret VE.bl)) VSs.nil)))))))))
  (VSs.cons (VS.for PassesOwn.never rfl (VI.rg1 (by rfl) T.z_range VE.int) (VG.name (i := 5) (us := [5]) (by decide) (by decide) sc_law.nd rfl (Or.inl rfl)) (VSs.one (VS.ifS (VW.t (VW.or (VT.not (VT.tru ⟨rfl, rfl, rfl⟩ (VE.call c__law_right hr (by omega) (by rfl) (VA.cons (VE.var (pv 5)) (VA.cons (VE.var (pv 5)) (VA.cons VE.bl VA.nil)))) (fun _ => rfl))) (VW.or1 (VT.not (VT.tru ⟨rfl, rfl, rfl⟩ (VE.call c__law_right hr (by omega) (by rfl) (VA.cons (VE.var (pv 5)) (VA.cons VE.str (VA.cons VE.bl VA.nil)))) (fun _ => rfl)))))) (VSs.one (VS.ret VE.bl)) VSs.nil)))
  (VSs.one (VS.ret VE.bl)))))⟩
end
def fn : List He.DefD := [⟨("_law_deck", none), "_law_deck", "_law_deck", defArgs s__law_deck, defBody s__law_deck, defScope s__law_deck, [], []⟩,
  ⟨("_law_take", none), "_law_take", "_law_take", defArgs s__law_take, defBody s__law_take, defScope s__law_take, [], []⟩,
  ⟨("_law_same", none), "_law_same", "_law_same", defArgs s__law_same, defBody s__law_same, defScope s__law_same, [], []⟩,
  ⟨("_law_raise_first", none), "_law_raise_first", "_law_raise_first", defArgs s__law_raise_first, defBody s__law_raise_first, defScope s__law_raise_first, [], []⟩,
  ⟨("_law_raise_second", none), "_law_raise_second", "_law_raise_second", defArgs s__law_raise_second, defBody s__law_raise_second, defScope s__law_raise_second, [], []⟩,
  ⟨("_law_raise_named_first", none), "_law_raise_named_first", "_law_raise_named_first", defArgs s__law_raise_named_first, defBody s__law_raise_named_first, defScope s__law_raise_named_first, [], []⟩,
  ⟨("_law_raise_named_second", none), "_law_raise_named_second", "_law_raise_named_second", defArgs s__law_raise_named_second, defBody s__law_raise_named_second, defScope s__law_raise_named_second, [], []⟩,
  ⟨("_law_raised", none), "_law_raised", "_law_raised", defArgs s__law_raised, defBody s__law_raised, defScope s__law_raised, [], []⟩,
  ⟨("_law_kinds", none), "_law_kinds", "_law_kinds", defArgs s__law_kinds, defBody s__law_kinds, defScope s__law_kinds, [], []⟩,
  ⟨("_law_given", none), "_law_given", "_law_given", defArgs s__law_given, defBody s__law_given, defScope s__law_given, [], []⟩,
  ⟨("_law_right", none), "_law_right", "_law_right", defArgs s__law_right, defBody s__law_right, defScope s__law_right, [], []⟩,
  ⟨("_law_base_right", none), "_law_base_right", "_law_base_right", defArgs s__law_base_right, defBody s__law_base_right, defScope s__law_base_right, [], []⟩,
  ⟨("law", none), "law", "law", defArgs s_law, defBody s_law, defScope s_law, [], []⟩,
  ⟨("TellError", some "__init__"), "__init__", "TellError.__init__", defArgs s_init, defBody s_init, defScope s_init, [], []⟩]
def fa : List He.Fa := ([.glo "_law_deck", .glo "_law_take", .glo "_law_same", .glo "_law_raise_first", .glo "_law_raise_second", .glo "_law_raise_named_first", .glo "_law_raise_named_second", .glo "_law_raised", .glo "_law_kinds", .glo "_law_given", .glo "_law_right", .glo "_law_base_right", .glo "law", .free "ValueError", .free "bool", .free "int", .free "isinstance", .free "len", .free "list", .free "max", .free "min", .free "range", .free "str", .free "tuple", .glo "TellError", .glo "InvalidBook", .glo "InvalidWord", .glo "InvalidNumber", .glo "InvalidKey", .glo "InvalidCell"] : List He.Fa) ++ ([.glo "InvalidRow", .glo "InvalidLot", .glo "InvalidTable", .glo "InvalidValues", .glo "InvalidRoad", .glo "InvalidSeats", .glo "NotFree", .glo "NoTable", .glo "NoSeats", .glo "InvalidPlacing", .glo "InvalidChain", .glo "InvalidMixing", .glo "InvalidFilter", .glo "InvalidName", .glo "HasCore", .glo "NotGood", .glo "UnknownName", .glo "NothingToUndo", .glo "Unreadable", .glo "Unorderly"] : List He.Fa)
abbrev R : PySem.W.OpenRow := PySem.W.OpenLaw.row PySem.Challenge.rw_keytellers_k00_errors
abbrev tq : List He.Defn := tf.map fun x => (x, none)
abbrev exF : PySem.W.Frag → Bool := (fun K => ((rcl.all fun x => errB K (He.ga K x) (fI K)) && (rcl.all fun a => hcl.all fun h => decide (PySem.W.exmOne K (.ref (He.ga K a)) (.ref (He.ga K h)) = some (decide ((a, h) ∈ kin))))) && ((rcl.all fun a => kcl.all fun h => decide (PySem.W.kitOne K (.ref (He.ga K a)) (.ref (He.ga K h)) = some (decide ((a, h) ∈ kinK)))) && (rcl.all fun a => decide (PySem.W.kitOne K (.ref (He.ga K a)) (.type "ValueError") = some true))))
abbrev hk : PySem.W.Hook := He.hookX 4 fa fn [] tq exF
def ob (s : PySem.W.SharedT) : He.AlX := He.obsX 4 fa fn [] tq exF (HandSHeadRun.getT s)
theorem ob_eq (s : PySem.W.SharedT) : ob s = hk.obs s.abs := He.obsX_eq (HandSHeadRun.getT_eq s)
def loose : List PySem.Str := (["TellError", "InvalidBook", "InvalidWord", "InvalidNumber", "InvalidKey", "InvalidCell", "InvalidRow", "InvalidLot", "InvalidTable", "InvalidValues", "InvalidRoad", "InvalidSeats", "NotFree", "NoTable", "NoSeats", "InvalidPlacing", "InvalidChain", "InvalidMixing", "InvalidFilter", "InvalidName", "HasCore", "NotGood", "UnknownName", "NothingToUndo", "Unreadable", "Unorderly", "_law_deck", "_law_take", "_law_same", "_law_raise_first"] : List PySem.Str) ++ (["_law_raise_second", "_law_raise_named_first", "_law_raise_named_second", "_law_raised", "_law_kinds", "_law_given", "_law_right", "_law_base_right"] : List PySem.Str)
theorem run (w : World) : HandSHeadRun.RunEq R (PySem.W.view R.prog [40]) hk ob 6000 loose w := by
  intro os
  kernel_rfl
theorem top_of {K : PySem.W.Frag} {h : Heap} {mg : Str → Option Value} (X : K.In h) (G : h.Ns mainGlobals mg) (c : He.SaysD fa fn K) (hx : exF K = true) : Top K mg where
  d__law_deck := here_mk X G c 0 0 rfl rfl
  d__law_take := here_mk X G c 1 1 rfl rfl
  d__law_same := here_mk X G c 2 2 rfl rfl
  d__law_raise_first := here_mk X G c 3 3 rfl rfl
  d__law_raise_second := here_mk X G c 4 4 rfl rfl
  d__law_raise_named_first := here_mk X G c 5 5 rfl rfl
  d__law_raise_named_second := here_mk X G c 6 6 rfl rfl
  d__law_raised := here_mk X G c 7 7 rfl rfl
  d__law_kinds := here_mk X G c 8 8 rfl rfl
  d__law_given := here_mk X G c 9 9 rfl rfl
  d__law_right := here_mk X G c 10 10 rfl rfl
  d__law_base_right := here_mk X G c 11 11 rfl rfl
  d_law := here_mk X G c 12 12 rfl rfl
  z_ValueError := He.free_ok X G (c.fact 13 (f := .free "ValueError") rfl)
  z_bool := He.free_ok X G (c.fact 14 (f := .free "bool") rfl)
  z_int := He.free_ok X G (c.fact 15 (f := .free "int") rfl)
  z_isinstance := He.free_ok X G (c.fact 16 (f := .free "isinstance") rfl)
  z_len := He.free_ok X G (c.fact 17 (f := .free "len") rfl)
  z_list := He.free_ok X G (c.fact 18 (f := .free "list") rfl)
  z_max := He.free_ok X G (c.fact 19 (f := .free "max") rfl)
  z_min := He.free_ok X G (c.fact 20 (f := .free "min") rfl)
  z_range := He.free_ok X G (c.fact 21 (f := .free "range") rfl)
  z_str := He.free_ok X G (c.fact 22 (f := .free "str") rfl)
  z_tuple := He.free_ok X G (c.fact 23 (f := .free "tuple") rfl)
  ini := c.def_ 13 rfl
  glo := by
    intro x hx
    simp only [rcl, List.mem_cons, List.not_mem_nil, or_false] at hx
    rcases hx with rfl | rfl | rfl | rfl | rfl | rfl | rfl | rfl | rfl | rfl | rfl | rfl | rfl | rfl | rfl | rfl | rfl | rfl | rfl | rfl | rfl | rfl | rfl | rfl | rfl | rfl
    · exact He.glo_ok X G (c.fact 24 (f := .glo "TellError") rfl)
    · exact He.glo_ok X G (c.fact 25 (f := .glo "InvalidBook") rfl)
    · exact He.glo_ok X G (c.fact 26 (f := .glo "InvalidWord") rfl)
    · exact He.glo_ok X G (c.fact 27 (f := .glo "InvalidNumber") rfl)
    · exact He.glo_ok X G (c.fact 28 (f := .glo "InvalidKey") rfl)
    · exact He.glo_ok X G (c.fact 29 (f := .glo "InvalidCell") rfl)
    · exact He.glo_ok X G (c.fact 30 (f := .glo "InvalidRow") rfl)
    · exact He.glo_ok X G (c.fact 31 (f := .glo "InvalidLot") rfl)
    · exact He.glo_ok X G (c.fact 32 (f := .glo "InvalidTable") rfl)
    · exact He.glo_ok X G (c.fact 33 (f := .glo "InvalidValues") rfl)
    · exact He.glo_ok X G (c.fact 34 (f := .glo "InvalidRoad") rfl)
    · exact He.glo_ok X G (c.fact 35 (f := .glo "InvalidSeats") rfl)
    · exact He.glo_ok X G (c.fact 36 (f := .glo "NotFree") rfl)
    · exact He.glo_ok X G (c.fact 37 (f := .glo "NoTable") rfl)
    · exact He.glo_ok X G (c.fact 38 (f := .glo "NoSeats") rfl)
    · exact He.glo_ok X G (c.fact 39 (f := .glo "InvalidPlacing") rfl)
    · exact He.glo_ok X G (c.fact 40 (f := .glo "InvalidChain") rfl)
    · exact He.glo_ok X G (c.fact 41 (f := .glo "InvalidMixing") rfl)
    · exact He.glo_ok X G (c.fact 42 (f := .glo "InvalidFilter") rfl)
    · exact He.glo_ok X G (c.fact 43 (f := .glo "InvalidName") rfl)
    · exact He.glo_ok X G (c.fact 44 (f := .glo "HasCore") rfl)
    · exact He.glo_ok X G (c.fact 45 (f := .glo "NotGood") rfl)
    · exact He.glo_ok X G (c.fact 46 (f := .glo "UnknownName") rfl)
    · exact He.glo_ok X G (c.fact 47 (f := .glo "NothingToUndo") rfl)
    · exact He.glo_ok X G (c.fact 48 (f := .glo "Unreadable") rfl)
    · exact He.glo_ok X G (c.fact 49 (f := .glo "Unorderly") rfl)
  gloH := by
    intro x hx
    simp only [hcl, List.mem_cons, List.not_mem_nil, or_false] at hx
    rcases hx with rfl
    · exact He.glo_ok X G (c.fact 24 (f := .glo "TellError") rfl)
  kit := fun a h1 b h2 => of_decide_eq_true (List.all_eq_true.mp (List.all_eq_true.mp (Bool.and_eq_true_iff.mp (Bool.and_eq_true_iff.mp hx).2).1 a h1) b h2)
  kitV := fun a h1 => of_decide_eq_true (List.all_eq_true.mp (Bool.and_eq_true_iff.mp (Bool.and_eq_true_iff.mp hx).2).2 a h1)
  err := fun x h => errB_ok (List.all_eq_true.mp (Bool.and_eq_true_iff.mp (Bool.and_eq_true_iff.mp hx).1).1 x h)
  exm := fun a h1 b h2 => of_decide_eq_true (List.all_eq_true.mp (List.all_eq_true.mp (Bool.and_eq_true_iff.mp (Bool.and_eq_true_iff.mp hx).1).2 a h1) b h2)
theorem law_ok {P : Program} {w : World} {K : PySem.W.Frag} {mg : Str → Option Value} {base : Heap} (T : Top K mg) (B : ∀ x ∈ tf, GxR.TabB base mg (cA K x) (tA K x)) : CalG P w K mg base 15 "law" s_law ["script"] (spLawT K tf) := by
  have c__law_deck := ok__law_deck (P := P) (w := w) (base := base) T 
  have c__law_take := ok__law_take (P := P) (w := w) (base := base) T 
  have c__law_same := ok__law_same (P := P) (w := w) (base := base) T  12
  have c__law_raise_first := ok__law_raise_first (P := P) (w := w) (base := base) T 
  have c__law_raise_second := ok__law_raise_second (P := P) (w := w) (base := base) T 
  have c__law_raise_named_first := ok__law_raise_named_first (P := P) (w := w) (base := base) T 
  have c__law_raise_named_second := ok__law_raise_named_second (P := P) (w := w) (base := base) T 
  have c__law_raised := ok__law_raised (P := P) (w := w) (base := base) T c__law_raise_named_first c__law_raise_first c__law_raise_named_second c__law_raise_second
  have c__law_kinds := ok__law_kinds (P := P) (w := w) (base := base) T 
  have c__law_given := ok__law_given (P := P) (w := w) (base := base) T c__law_take
  have c__law_right := ok__law_right (P := P) (w := w) (base := base) T c__law_raised c__law_kinds c__law_same
  have c__law_base_right := ok__law_base_right (P := P) (w := w) (base := base) T c__law_kinds c__law_same
  exact CalG.imp (spV_law (c := cn w K mg) rfl law_true) (CalG.of (ok_law T c__law_deck c__law_take c__law_given c__law_right c__law_base_right c__law_raised c__law_same))
end K00
open PySem PySem.W PySem.Calls PyProof.Rows
theorem PySem.Challenge.cw_keytellers_k00_errors_holds : PySem.Challenge.rw_keytellers_k00_errors.Holds := by
  w_on; o_law
  refine HandSHeadRun.head_any (r := OpenLaw.row PySem.Challenge.rw_keytellers_k00_errors) (q := view (OpenLaw.row PySem.Challenge.rw_keytellers_k00_errors).prog [40]) (H := K00.hk) (ob := K00.ob) (M := 6000) (loose := K00.loose) (d := HandSHeadRun.topDef (OpenLaw.row PySem.Challenge.rw_keytellers_k00_errors).prog 40) (kwd := []) K00.ob_eq
    (by kernel_rfl) (fun s => by kernel_rfl) K00.run (by kernel_rfl) (by kernel_rfl) (by kernel_rfl) (by rfl) (by first | assumption | decide +kernel) (by decide +kernel) ⟨rfl, rfl, rfl, rfl, rfl, by decide +kernel⟩ ?hw ?hc
  case hw => w_witness2
  case hc =>
    refine Ky.walk_ofG (l := PySem.Challenge.rw_keytellers_k00_errors) (n := 63) (k := 15) (x := "script") rfl (by decide) (by kernel_rfl) ⟨rfl, by decide, by decide⟩ ?F
    intro w mg fa h Y G hmg0
    obtain ⟨K, KX, c⟩ := Y
    have hmg : mg ("law" : PySem.Str) = some (.ref fa) := by
      have e : (HandSHeadRun.topDef (OpenLaw.row PySem.Challenge.rw_keytellers_k00_errors).prog 40).name = ("law" : PySem.Str) := by kernel_rfl
      rw [← e]
      exact hmg0
    exact Ky.law_finG (sx := "script") (P := (PySem.Challenge.rw_keytellers_k00_errors).prog) (w := w) KX G c hmg (K00.top_of KX G c.t.d c.more).d_law (fun _ _ _ _ _ _ us hl => match us, hl with | [_], _ => rfl) (fun base hB => K00.law_ok (base := base) (K00.top_of KX G c.t.d c.more) hB)
