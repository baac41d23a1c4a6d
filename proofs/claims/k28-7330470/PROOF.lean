import PyProof.Rows.All
import Wide.All
import OpenK.AllK
import Wide.FinOn
import KE.KStateDown
import Lean
import HandS.ForMost
import HandS.Codes
import HandS.Defaults
import HandS.IsInst
import HandS.Wide
import HandS.WideBits
import HandS.Flow
import HandS.Deep
import HandS.Style
import HandS.Ends
import HandS.Small
import HandS.TupAny
import HandS.SortInts
import HandS.Head0
import HandS.Head1
import HandS.Head2
import HandS.HeadEnd
import HandS.HeadHook1
import HandS.HeadHook2
import HandS.AnyAll
import HandS.GenOver
import HandS.GenBody
import HandS.GenList
import HandS.GenYield
import HandS.Comp
import HandS.EndTab
import HandS.HeadHook3
import HandS.HeadHook4
import HandS.HeadWalk
import HandS.NestedK
import PyProof.Rows.ReprR
import PyProof.ReprBulk
import PyProof.Rows.RegStrFacts
import KE.KMathGC
import HandS.Gcd
import HandS.Flt
import HandS.Head3
import HandS.Star
import HandS.SetFor
import HandS.Strs
import KE.DataMinMax
import HandS.Conv
import KE.KRevSl
import KE.GoesEnum
import HandS.Iter
import HandS.Walk
import HandS.SetBool
import HandS.Zip
import HandS.TupLe
import PySem.Challenge.RW_keytellers_k28_whole_rows_marks_and_seed
set_option Elab.async false
set_option linter.all false
set_option maxRecDepth 100000
set_option maxHeartbeats 4000000
/-! ### what my proofs share: bundles of a def, calls by names alone, decks, data -/
namespace Ky
open PySem PySem.Spec PyProof.Rows L2
/-- a def of the text as it stands behind the top -/
structure Here (K : PySem.W.Frag) (mg : Str → Option Value) (x : Str) (st : Stmt) : Prop where
  ex : ∃ (f : Addr) (fd : FuncData), FunD K x x (defArgs st) (defBody st) (defScope st) [] [] f fd ∧ mg x = some (.ref f)
/-- .. and it keeps a promise -/
structure CalD (P : Program) (w : World) (K : PySem.W.Frag) (mg : Str → Option Value) (base : Heap) (k : Nat) (x : Str) (st : Stmt) (ps : List Str) (sp : Sp) : Prop where
  ex : ∃ (f : Addr) (fd : FuncData), FnOk P w K mg base CX0 k f fd ps sp ∧ FunD K x x (defArgs st) (defBody st) (defScope st) [] [] f fd ∧ mg x = some (.ref f) ∧ Binds K fd ps []
section
variable {P : Program} {w : World} {K : PySem.W.Frag} {mg : Str → Option Value} {base : Heap} {k : Nat} {x : Str} {st : Stmt} {ps : List Str} {sp : Sp}
theorem cal_mk {N : List Str} (D : Here K mg x st) (S : FnScope N ps (defScope st))
    (hb : ∀ (kV doc pm : Value) (an : Option Addr) (cdv ct : Value) (us : List Value), us.length = ps.length → bindArgs (PySem.W.fnOf x x (defArgs st) (defBody st) (defScope st) .none kV doc pm an cdv ct) ⟨us, []⟩ = pure (ps.zip us))
    (len : ∀ vs H Q E, sp vs H Q E → vs.length = ps.length)
    (hbody : ∀ (f : Addr) (cdv : Value) (A : Around) (outer : List Env) (s : Shared) (H : Hp) (vs : List V) (Q : VK) (E : XK), Room k (A.deeper (envOfC x (defScope st) s.heap.objs.size f cdv)) → sp vs H Q E →
      ∃ t, PSs (cxOf CX0 P w K mg base N x (defScope st) f cdv A outer s H E).nox (defBody st) t ∧ t { nx := fun _ H' => Q .non H', rt := Q } (start N vs) H) : CalD P w K mg base (k + 1) x st ps sp := by
  obtain ⟨f, fd, F, g⟩ := D.ex
  refine ⟨f, fd, F.ok S len fun cdv A outer s H vs Q E hr h => ?_, F, g, F.bindsN hb⟩
  obtain ⟨t, h1, h2⟩ := hbody f cdv A outer s H vs Q E hr h
  exact ⟨t, h1.nox, h2⟩
end
theorem pe_f {X : Cx} {k j : Nat} {x : Str} {st : Stmt} {ps : List Str} {sp : Sp} {p pos : Pos} {e : Expr} {es : List Expr} {t : TA} (c : CalD X.prog X.w X.K X.mg X.base k x st ps sp) (hr : Room j X.A) (hk : k ≤ j) (hg : Gl X x) (ha : PA X (e :: es) t)
    (hdb : (x == ("__debug__" : Str)) = false := by decide) (he : starEach (e :: es) X.env = (false, eval e X.env) :: starEach es X.env := by rfl) (hpl : (backTo pos (starEach es X.env)).any (·.1) = false := by rfl) :
    PE X (.Call (.Name x p) (e :: es) [] pos) (tCall sp [] E0 t) := by
  obtain ⟨f, fd, F, D, hm, b⟩ := c.ex
  exact pe_call F (hr.mono hk) hg hm D.kp b .nil pass0 ha hdb he hpl
/-! ### f(k = v, ..), names alone -/
def permL {α : Type} (perm : List Nat) (zs : List α) : List α := perm.filterMap fun i => zs[i]?
theorem permL_rel {vs : List V} {us : List Value} (r : Vals vs us) : ∀ perm : List Nat, Vals (permL perm vs) (permL perm us)
  | [] => .nil
  | i :: is => by
    unfold permL
    rw [List.filterMap_cons, List.filterMap_cons]
    have ih := permL_rel r is
    cases e : vs[i]? with
    | none =>
      rw [r.none_of e]
      exact ih
    | some v =>
      obtain ⟨u, e2, r2⟩ := r.get e
      rw [e2]
      exact .cons r2 ih
def tCallP (n : Nat) (perm : List Nat) (sp : Sp) (tk : TA) : TE := fun σ H Q => tk σ H fun zs H2 => zs.length = n ∧ sp (permL perm zs) H2 Q E0
theorem pe_k0 {X : Cx} {k j : Nat} {x : Str} {st : Stmt} {ps : List Str} {sp : Sp} {p pos : Pos} {kws : List Keyword} {tk : TA} (ks : List Str) (perm : List Nat)
    (h : ∀ (kV doc pm : Value) (an : Option Addr) (cdv ct : Value) (ws : List Value), ws.length = ks.length → bindArgs (PySem.W.fnOf x x (defArgs st) (defBody st) (defScope st) .none kV doc pm an cdv ct) ⟨[], ks.zip ws⟩ = pure (ps.zip (permL perm ws)))
    (c : CalD X.prog X.w X.K X.mg X.base k x st ps sp) (hr : Room j X.A) (hk : k ≤ j) (hg : Gl X x) (hkw : PK X kws tk)
    (hall : (backToKw pos (keywordEach kws X.env)).all (·.1.isSome) = true := by rfl) (hks : (backToKw pos (keywordEach kws X.env)).filterMap (·.1) = ks := by rfl) (hdb : (x == ("__debug__" : Str)) = false := by decide)
    (hpl : ((backTo pos (starEach [] X.env)).any (·.1) || (backToKw pos (keywordEach kws X.env)).any (·.1.isNone)) = false := by rfl) :
    PE X (.Call (.Name x p) [] kws pos) (tCallP ks.length perm sp tk) := by
  obtain ⟨f, fd, F, D, hm, b⟩ := c.ex
  have kb : KBn X.K fd ps 0 ks (fun _ ws => permL perm ws) (fun _ zs => permL perm zs) := by
    obtain ⟨oc, od, dV, kV, doc, pm, an, cdv, ct, osl, rfl, lk, hcd, hD, hK⟩ := D.ex
    rcases hD with ⟨_, rfl⟩ | ⟨e, _⟩
    · refine ⟨fun s us ws _ l1 l2 => ?_, fun _ r => permL_rel r perm⟩
      have e := List.eq_nil_of_length_eq_zero l1
      subst e
      exact .of_eq (h kV doc pm an cdv ct ws l2)
    · exact absurd rfl e
  refine ⟨fun pins s σ H Q I hh => ?_⟩
  refine wpAny_Call_Name_kw (ld_glob I hg hm ?_ hdb)
  refine PySem.W.callWith_KW0 (h₀ := X.base) I.ok.mod.kin D.kp hall ?_ hpl
  refine thn (hkw.run pos pins s σ H _ I hh) fun ws s2 ⟨zs, H2, I2, rz, l2, q2⟩ => ⟨I2.kIn, ?_⟩
  rw [hks]
  exact run_fnN (us := []) (vs := []) (F.mono hk) hr kb pass0 I2 .nil rz rfl l2 q2
/-! ### the heap but for one object -/
def Off (a : Addr) (H H' : Hp) : Prop := ∀ b o, b ≠ a → H b = some o → H' b = some o
theorem Off.refl (a : Addr) (H : Hp) : Off a H H := fun _ _ _ h => h
theorem Off.trans {a : Addr} {H H1 H2 : Hp} (h : Off a H H1) (h2 : Off a H1 H2) : Off a H H2 := fun b o n e => h2 b o n (h b o n e)
theorem Off.of {a : Addr} {H H' : Hp} (h : Same H H') : Off a H H' := fun b o _ e => h b o e
theorem Off.upd (a : Addr) (H : Hp) (o : HO) : Off a H (upd H a o) := fun b u n e => by rw [upd_ne n]; exact e
theorem same_upd {H : Hp} {p : Addr} {o : HO} (h : H p = none) : Same H (upd H p o) := fun b x e => by
  rw [upd_ne (ne_of_none e h)]
  exact e
theorem Same.tupS {K : PySem.W.Frag} {H H' : Hp} {a : Addr} {xs : List V} (e : Same H H') (h : SqT K H a xs) : SqT K H' a xs := by
  rcases h with (h | ⟨o, h⟩) | h
  · exact .inl (.inl (e _ _ h))
  · exact .inl (.inr ⟨o, e _ _ h⟩)
  · exact .inr h
theorem log2_small {z : Int} (h : z.natAbs < 2 ^ 200) : z.natAbs.log2 < 9000 := Nat.lt_of_lt_of_le (PySem.Flt.log2_lt_of (by decide) h) (by decide)
/-! ### decks of drawn numbers -/
def DeckAt (H : Hp) (a : Addr) : Prop := ∃ x y : Int, H a = some (.lst [.int x, .int y]) ∧ 0 ≤ y ∧ y < 18446744073709551616
theorem DeckAt.upd (H : Hp) (a : Addr) (x : Int) {y : Int} (h0 : 0 ≤ y) (h1 : y < 18446744073709551616) : DeckAt (upd H a (.lst [.int x, .int y])) a := ⟨x, y, upd_same, h0, h1⟩
theorem DeckAt.same {H H' : Hp} {a : Addr} (h : DeckAt H a) (s : Same H H') : DeckAt H' a := by
  obtain ⟨x, y, e, h0, h1⟩ := h
  exact ⟨x, y, s _ _ e, h0, h1⟩
def spTake : Sp := fun vs H Q _ => ∃ (a : Addr) (m : Int), vs = [.ref a, .int m] ∧ DeckAt H a ∧ 0 < m ∧ m.natAbs.log2 < 9000 ∧
  ∀ (t x y : Int), 0 ≤ t → t < m → 0 ≤ y → y < 18446744073709551616 → Q (.int t) (upd H a (.lst [.int x, .int y]))
def spDeck (K : PySem.W.Frag) : Sp := fun vs H Q _ => ∃ (s : Addr) (ns : List Int) (j : Nat), vs = [.ref s, .int (j : Int)] ∧ SqL K H s (ns.map V.int) ∧ j < 1000000 ∧
  ∀ (H' : Hp) (p : Addr), Same H H' → H p = none → DeckAt H' p → Q (.ref p) H'
theorem em61 (z : Int) : (z % 2305843009213693951).natAbs < 2 ^ 61 := by
  have h1 := Int.emod_nonneg z (show (2305843009213693951 : Int) ≠ 0 by decide)
  have h2 := Int.emod_lt_of_pos z (show (0 : Int) < 2305843009213693951 by decide)
  omega
/-! ### data -/
mutual
theorem Dp.same {K : PySem.W.Frag} {H H' : Hp} (s : Same H H') : ∀ (d : PyData) (v : V), Dp K H v d → Dp K H' v d
  | .none, _, h => by cases h; exact .non
  | .bool b, _, h => by cases h; exact .bl b
  | .int i, _, h => by cases h; exact .int i
  | .str x, _, h => by cases h; exact .str x
  | .list ds, _, h => by
    cases h with
    | lst h1 h2 => exact .lst (s.seq h1) (DpAll.same s ds _ h2)
  | .tuple ds, _, h => by
    cases h with
    | tup h1 h2 => exact .tup (Same.tupS s h1) (DpAll.same s ds _ h2)
  | .dict _, _, h => nomatch h
theorem DpAll.same {K : PySem.W.Frag} {H H' : Hp} (s : Same H H') : ∀ (ds : List PyData) (vs : List V), DpAll K H vs ds → DpAll K H' vs ds
  | [], _, h => by cases h; exact .nil
  | d :: ds, _, h => by
    cases h with
    | cons h1 h2 => exact .cons (Dp.same s d _ h1) (DpAll.same s ds _ h2)
end
/-- of nesting below n, no dicts, lists and tuples of fewer than 2 ^ 62 items -/
def Fit : Nat → PyData → Prop
  | 0, _ => False
  | _ + 1, .none => True
  | _ + 1, .bool _ => True
  | _ + 1, .int _ => True
  | _ + 1, .str _ => True
  | n + 1, .list ds => ds.length < 4611686018427387904 ∧ ∀ e ∈ ds, Fit n e
  | n + 1, .tuple ds => ds.length < 4611686018427387904 ∧ ∀ e ∈ ds, Fit n e
  | _ + 1, .dict _ => False
theorem DpAll.get {K : PySem.W.Frag} {H : Hp} : ∀ (ds : List PyData) {vs : List V} {i : Nat} {d : PyData}, DpAll K H vs ds → ds[i]? = some d → ∃ v, vs[i]? = some v ∧ Dp K H v d
  | [], _, _, _, _, e => by simp at e
  | d0 :: ds, _, i, d, h, e => by
    cases h with
    | cons h1 h2 =>
      cases i with
      | zero =>
        have e2 := Option.some.inj (show some d0 = some d from e)
        subst e2
        exact ⟨_, rfl, h1⟩
      | succ i =>
        obtain ⟨v, e1, e2⟩ := DpAll.get ds (i := i) h2 (by simpa using e)
        exact ⟨v, by simpa using e1, e2⟩
theorem DpAll.length {K : PySem.W.Frag} {H : Hp} : ∀ (ds : List PyData) {vs : List V}, DpAll K H vs ds → vs.length = ds.length
  | [], _, h => by cases h; rfl
  | d :: ds, _, h => by
    cases h with
    | cons h1 h2 => exact congrArg (· + 1) (DpAll.length ds h2)
theorem ty_list {K : PySem.W.Frag} {H : Hp} {a : Addr} {xs : List V} (h : SqL K H a xs) : TyX K H (.ref a) (.type "list") := by
  rcases h with (h | ⟨o, h⟩) | ⟨o, its, n, hk, hc, _⟩
  · exact .base (.lst h)
  · exact .base (.frz h)
  · exact .kList hk hc
theorem ty_tuple {K : PySem.W.Frag} {H : Hp} {a : Addr} {xs : List V} (h : SqT K H a xs) : TyX K H (.ref a) (.type "tuple") := by
  rcases h with (h | ⟨o, h⟩) | ⟨o, its, n, hk, hc, _⟩
  · exact .base (.tup h)
  · exact .fTuple h
  · exact .kTuple hk hc
/-- the built-in type of such data -/
def tyD : PyData → String
  | .none => "NoneType"
  | .bool _ => "bool"
  | .int _ => "int"
  | .str _ => "str"
  | .list _ => "list"
  | .tuple _ => "tuple"
  | .dict _ => "dict"
theorem ty_data {K : PySem.W.Frag} {H : Hp} {v : V} {d : PyData} (h : Dp K H v d) : TyX K H v (.type (tyD d)) := by
  cases h with
  | non => exact .base .non
  | bl b => exact .base (.bl b)
  | int i => exact .base (.int i)
  | str x => exact .base (.str x)
  | lst h _ => exact ty_list h
  | tup h _ => exact ty_tuple h
theorem kit2 {K : PySem.W.Frag} {a b c : String} {r s : Bool} (h1 : kitB a b = some r) (h2 : kitB a c = some s) : PySem.W.kitAny K (.type a) [.type b, .type c] = some (r || s) := by
  unfold PySem.W.kitAny
  rw [kit_ty h1]
  cases r with
  | true => rfl
  | false =>
    show PySem.W.kitAny K (.type a) [.type c] = some s
    unfold PySem.W.kitAny
    rw [kit_ty h2]
    cases s <;> rfl
/-- the same data at both: True -/
def spSame (K : PySem.W.Frag) (n : Nat) : Sp := fun vs H Q _ => ∃ (x y : V) (d : PyData), vs = [x, y] ∧ Dp K H x d ∧ Dp K H y d ∧ Fit n d ∧ ∀ H', Same H H' → Q (.bl true) H'
theorem dpI {K : PySem.W.Frag} {H : Hp} : ∀ l : List Int, DpAll K H (l.map V.int) (l.map PyData.int)
  | [] => .nil
  | i :: l => .cons (.int i) (dpI l)
theorem dpB {K : PySem.W.Frag} {H : Hp} : ∀ l : List Bool, DpAll K H (l.map V.bl) (l.map PyData.bool)
  | [] => .nil
  | i :: l => .cons (.bl i) (dpB l)
theorem fitI (n : Nat) (l : List Int) (h : l.length < 1000000) : Fit (n + 2) (.list (l.map PyData.int)) ∧ Fit (n + 2) (.tuple (l.map PyData.int)) := by
  have h1 : (l.map PyData.int).length < 4611686018427387904 := by
    rw [List.length_map]
    omega
  have h2 : ∀ e ∈ l.map PyData.int, Fit (n + 1) e := fun e he => by
    obtain ⟨i, _, rfl⟩ := List.mem_map.mp he
    exact trivial
  exact ⟨⟨h1, h2⟩, ⟨h1, h2⟩⟩
theorem fitB (n : Nat) (l : List Bool) (h : l.length < 1000000) : Fit (n + 2) (.list (l.map PyData.bool)) := by
  have h1 : (l.map PyData.bool).length < 4611686018427387904 := by
    rw [List.length_map]
    omega
  exact ⟨h1, fun e he => by
    obtain ⟨i, _, rfl⟩ := List.mem_map.mp he
    exact trivial⟩
/-- two lists of ints, one behind the other, that hold the same -/
theorem two_i {K : PySem.W.Frag} {H : Hp} {p1 p2 : Addr} (l l' : List Int) (e : l = l') (h1 : H p1 = some (.lst (l.map V.int))) (h2 : H p2 = none) :
    Dp K (upd H p2 (.lst (l'.map V.int))) (.ref p1) (.list (l.map PyData.int)) ∧ Dp K (upd H p2 (.lst (l'.map V.int))) (.ref p2) (.list (l.map PyData.int)) := by
  subst e
  exact ⟨.lst (SqL.of (same_upd h2 _ _ h1)) (dpI l), .lst (SqL.of upd_same) (dpI l)⟩
theorem two_b {K : PySem.W.Frag} {H : Hp} {p1 p2 : Addr} (l l' : List Bool) (e : l = l') (h1 : H p1 = some (.lst (l.map V.bl))) (h2 : H p2 = none) :
    Dp K (upd H p2 (.lst (l'.map V.bl))) (.ref p1) (.list (l.map PyData.bool)) ∧ Dp K (upd H p2 (.lst (l'.map V.bl))) (.ref p2) (.list (l.map PyData.bool)) := by
  subst e
  exact ⟨.lst (SqL.of (same_upd h2 _ _ h1)) (dpB l), .lst (SqL.of upd_same) (dpB l)⟩
/-! ### rules with the written part named (within a comprehension) -/
section
variable {X : Cx}
def tTru (K : PySem.W.Frag) (ta : TE) : TT := fun σ H Q => ta σ H fun x H' => ∃ k, TruV K x H' k ∧ Q k H'
theorem pt_truth_at (K : PySem.W.Frag) (e : X.K = K) {a : Expr} {ta : TE} (ha : PE X a ta) (he : ∀ whole, isTrue a X.env whole = (do let v ← whole; standAt a.pos; holding [v] (truthy v))) :
    PT X a (tTru K ta) := by subst e; exact pt_truth ha he
theorem ix_seq_at (K : PySem.W.Frag) (e : X.K = K) : IxR X (rIx K) := by subst e; exact ix_seq
theorem ix_list_at (K : PySem.W.Frag) (e : X.K = K) : IxR X (rIxL K) := by subst e; exact ix_list
theorem ix_tup_at (K : PySem.W.Frag) (e : X.K = K) : IxR X (rIxT K) := by subst e; exact ix_tup
theorem call_isi_at (K : PySem.W.Frag) (e : X.K = K) : CallR X (.builtin "isinstance") (rIsi K) := by subst e; exact call_isi
theorem call_isiT_at (K : PySem.W.Frag) (e : X.K = K) : CallR X (.builtin "isinstance") (rIsiT K) := by subst e; exact call_isiT
theorem call_len_seq_at (K : PySem.W.Frag) (e : X.K = K) : CallR X (.builtin "len") (fun xs H Q => ∃ p ys, xs = [.ref p] ∧ (SqL K H p ys ∨ SqT K H p ys) ∧ Q (.int ys.length) H) := by subst e; exact call_len_seq
end
/-! ### the end -/
theorem here_mk {fa : List He.Fa} {fn : List He.DefD} {K : PySem.W.Frag} {h : Heap} {mg : Str → Option Value} (X : K.In h) (G : h.Ns mainGlobals mg) (c : He.SaysD fa fn K) (i j : Nat) {x : Str} {st : Stmt}
    (hi : fn[i]? = some ⟨(x, none), x, x, defArgs st, defBody st, defScope st, [], []⟩) (hj : fa[j]? = some (.glo x)) : Here K mg x st := by
  obtain ⟨fd, F⟩ := c.def_ i hi
  exact ⟨_, fd, F, He.glo_ok X G (c.fact j hj)⟩
/-- a law over the script's list: True -/
def spLaw (K : PySem.W.Frag) : Sp := fun vs H Q _ => ∃ (s : Addr) (ns : List Int), vs = [.ref s] ∧ SqL K H s (ns.map V.int) ∧ ns.length ≤ 63 ∧ ∀ H', Q (.bl true) H'
theorem law_fin {P : Program} {w : World} {K : PySem.W.Frag} {h : Heap} {mg : Str → Option Value} {fa : Addr} {k : Nat} {st : Stmt} (X : K.In h) (G : h.Ns mainGlobals mg) (hmg : mg ("law" : Str) = some (.ref fa)) (D : Here K mg "law" st)
    (hb : ∀ (kV doc pm : Value) (an : Option Addr) (cdv ct : Value) (us : List Value), us.length = (["script"] : List Str).length → bindArgs (PySem.W.fnOf "law" "law" (defArgs st) (defBody st) (defScope st) .none kV doc pm an cdv ct) ⟨us, []⟩ = pure ((["script"] : List Str).zip us))
    (C : ∀ base : Heap, CalD P w K mg base k "law" st ["script"] (spLaw K)) :
    ∃ (K : PySem.W.Frag) (fd : FuncData) (sp : Sp), K.In h ∧ (∀ (s : Shared) (u : Value), BindsTo s fd ⟨[u], []⟩ [(("script" : Str), u)]) ∧
      (∀ (H : Hp) (a : Addr) (ns : List Int), ns.length ≤ 63 → Only H → SqL K H a (ns.map V.int) → sp [.ref a] H (fun v _ => v = .bl true) fun _ _ _ => False) ∧
      ∀ base : Heap, K.In base → base.Ns mainGlobals mg → FnOk P w K mg base CX0 k fa fd ["script"] sp := by
  obtain ⟨f, fd, F, g⟩ := D.ex
  have e := hmg.symm.trans g
  cases e
  have b := FunD.bindsA (ps := ["script"]) F hb
  refine ⟨K, fd, spLaw K, X, fun s v => b s [v] rfl, fun H a ns hl _ hS => ⟨a, ns, rfl, hS, hl, fun _ => rfl⟩, fun base _ _ => ?_⟩
  obtain ⟨f2, fd2, F2, D2, g2, _⟩ := (C base).ex
  have e2 := g.symm.trans g2
  cases e2
  have e3 : fd = fd2 := by
    obtain ⟨_, _, _, _, _, _, _, _, _, _, _, l1, _⟩ := F.ex
    obtain ⟨_, _, _, _, _, _, _, _, _, _, _, l2, _⟩ := D2.ex
    have l3 := l1.symm.trans l2
    injection l3 with l4
    injection l4 with _ _ l5
    injection l5
  rw [e3]
  exact F2
end Ky
/-! ### all(e for x in xs), any(..): the element of any kind, by the frame of its own -/
namespace Gx
open PySem PySem.Spec PyProof.Rows L2
/-- the frame's context -/
abbrev gxC (X : Cx) (A : Around) (s : Shared) (H : Hp) (cenv : Env) (fp : List Addr) : Cx :=
  { X with A := A, s_0 := s, H_0 := H, env := cenv, outer := X.stack, stack := cenv :: X.stack, ex := fp, fn := fun _ => false, calm := true, pn := [], xe := fun _ _ => False }
theorem inv_swap {X : Cx} {pins : List (Addr × Obj)} {σ : L2.St} {H : Hp} {s s' : Shared} (I : Inv X pins σ H s) (e : s'.heap = s.heap) (os : s'.os = s.os) (b : AllBare s'.gens) : Inv X pins σ H s' where
  ok := I.ok
  os := os.trans I.os
  bare := b
  base := by rw [e]; exact I.base
  loc := by rw [e]; exact I.loc
  cell := by rw [e]; exact I.cell
  free := I.free
  freeC := I.freeC
  pin := by rw [e]; exact I.pin
  hok := by rw [e]; exact I.hok
  len := I.len
/-- between two turns -/
structure At (Z : Cx) (pins : List (Addr × Obj)) (fp : List Addr) (tn : Nat → Heap → Prop) (σ : L2.St) (i : Nat) (H : Hp) (s : Shared) : Prop where
  inv : Inv Z pins σ H s
  tn : tn i s.heap
  fp : ∀ b ∈ fp, H b = none
abbrev genE (elt tg iter : Expr) (scope : Scope) (pos : Pos) : Expr := .GeneratorExp elt [⟨tg, iter, [], 0⟩] scope pos
section
variable {Z : Cx} {pins : List (Addr × Obj)} {fp : List Addr} {tn : Nat → Heap → Prop} {σ : L2.St} {n : Nat} {b : Nat → Bool} {Nx : Nat → Hp → Prop} {Pv : Nat → Hp → Prop}
/-- an item is handed out: the i-th, b i; what follows if it is gone on -/
def Yg (Z : Cx) (pins : List (Addr × Obj)) (fp : List Addr) (tn : Nat → Heap → Prop) (σ : L2.St) (n : Nat) (b : Nat → Bool) (Nx : Nat → Hp → Prop) : Protocol := fun m _ v s kap =>
  ∃ i H, m + 1 + i = n ∧ v = .bool (b i) ∧ At Z pins fp tn σ (i + 1) H s ∧ Nx i H ∧ ((Nx i H → ∀ s', s'.heap = s.heap → s'.os = s.os → AllBare s'.gens → b i = true → kap (.send .none) s'))
/-- the end: none is left -/
def Rg (Z : Cx) (pins : List (Addr × Obj)) (fp : List Addr) (tn : Nat → Heap → Prop) (σ : L2.St) (n : Nat) (Pv : Nat → Hp → Prop) : GenEnd := fun m _ r s =>
  ((r = .ok (.ret .none) ∨ r = .ok .next) ∧ (∃ H, Inv Z pins σ H s ∧ Pv n H)) ∨ ∃ e, r = .error e ∧ False
theorem gx_loop {B : Around} {elt tg iter : Expr} {scope : Scope} {pos : Pos} {it : Addr} {J : It} {g : TG} {te : TE} {vs : List Nat}
    (hA : B.over (.compLoop (genE elt tg iter scope pos) 0 (.ref it) .none Z.env) [] = Z.A) (hx : Z.ex = fp) (hpn : Z.pn = []) (hxe : Z.xe = fun _ _ => False) (hc : Z.calm = true) (hco : Z.env.scope.isCoroutine = false) (hpf : ∀ p ∈ pins, p.1 ∉ fp)
    (T : Turn Z.prog Z.w Z.K tg J fp it tn) (pg : PG Z tg g) (pe : PE Z elt te)
    (turn : ∀ i H, i < n → Pv i H → J.go i H ∧ ∀ x H', J.yld i H x H' → g x σ H' fun σ2 H2 => wipe σ2 vs = σ ∧ te σ2 H2 fun y H3 => y = .bl (b i) ∧ Nx i H3)
    (goon : ∀ i H, Nx i H → b i = true → Pv (i + 1) H) (done : ∀ H, Pv n H → J.stop n H) :
    ∀ (k i : Nat) (s₀ s : Shared) (H : Hp), n - i = k → i ≤ n → Pv i H → At Z pins fp tn σ i H s →
      Seg (model Z.prog Z.w) B (Rg Z pins fp tn σ n Pv) (Yg Z pins fp tn σ n b Nx) k s₀ (.compLoop (genE elt tg iter scope pos) 0 (.ref it) .none Z.env)
        ((model Z.prog Z.w).den (.compLoop (genE elt tg iter scope pos) 0 (.ref it) .none Z.env)) [] s := by
  have stat : ∀ {σ' : L2.St} {H' : Hp} {s' : Shared} {ps : List (Addr × Obj)}, (∀ p ∈ ps, p.1 ∉ fp) → Inv Z ps σ' H' s' → (∀ b ∈ fp, H' b = none) → ∀ b ∈ fp, FpOk Z ps H' b := fun {σ' H' s' ps} hp I' hn b hb => by
    have hb2 : b ∈ Z.ex := by rw [hx]; exact hb
    refine ⟨hn b hb, (I'.ok.exf b hb2).1, I'.ok.exfs b hb2, .inl hb2, fun x c e => (I'.ok.exf b hb2).2 x c e, fun p hq z => ?_⟩
    rw [hpn, List.nil_append] at hq
    exact hp p hq (by rw [z]; exact hb)
  intro k
  induction k with
  | zero =>
    intro i s₀ s H hk hi hP hI
    have hin : i = n := by omega
    subst hin
    show Seg _ B _ _ _ s₀ _ ((compTurn (genE elt tg iter scope pos) 0 (.ref it) .none Z.env).onRaise (leaving Z.env)) [] s
    rw [compTurn_gen, Sem.onRaise_eq_wrap]
    refine seg_bind_wrap (wpAny_standAt ?_)
    have td := T.done Z rfl rfl rfl hc i pins s σ H (fun _ _ => False) hI.inv (stat hpf hI.inv hI.fp) hI.tn (done H hP)
    rw [← hA] at td
    refine seg_bind_wrap (thnF td fun r s1 ⟨hr, I1⟩ => ?_)
    subst hr
    exact seg_end (.ok .next) (.inl ⟨.inr rfl, H, I1, hP⟩)
  | succ k ih =>
    intro i s₀ s H hk hi hP hI
    have hlt : i < n := by omega
    obtain ⟨go, step⟩ := turn i H hlt hP
    show Seg _ B _ _ _ s₀ _ ((compTurn (genE elt tg iter scope pos) 0 (.ref it) .none Z.env).onRaise (leaving Z.env)) [] s
    rw [compTurn_gen, Sem.onRaise_eq_wrap]
    refine seg_bind_wrap (wpAny_standAt ?_)
    have ti := T.item Z rfl rfl rfl hc i pins s σ H (fun _ _ => False) hI.inv (stat hpf hI.inv hI.fp) hI.tn go
    rw [← hA] at ti
    refine seg_bind_wrap (thnF ti fun r s1 ⟨u, hr, h1⟩ => ?_)
    subst hr
    refine seg_bind_wrap (thnF h1 fun _ s2 ⟨x, H2, I2, r2, y2, st2, n2⟩ => ?_)
    have I2' := I2.pinned (stat hpf I2 n2) (T.obj _ _ st2)
    have h3 := pg.run _ s2 _ H2 x u _ I2' r2 (step x H2 y2)
    rw [← hA, hxe] at h3
    refine seg_bind_wrap (thnF h3 fun _ s3 ⟨σ3, H3, I3, hw3, q3⟩ => ?_)
    simp only [List.forIn_nil]
    refine seg_bind_wrap (wpAny_pure ?_)
    simp only [if_true]
    have hy : ∀ v, yieldOut Z.env v = yieldValue v := fun v => by simp only [yieldOut, hco, Bool.false_eq_true, if_false]
    simp only [hy]
    rw [Sem.bind_eq_wrap', Sem.bind_eq_wrap', Sem.wrap_wrap, Sem.wrap_wrap]
    have h4 := pe.run _ s3 σ3 H3 _ I3 q3
    rw [← hA, hxe] at h4
    refine seg_wrap (thnF h4 fun v s4 ⟨yv, H4, I4, r4, e4, nx⟩ => ?_)
    subst e4
    cases r4
    have pin' : ∀ c ∈ fp, ∀ o, s2.heap.get? c = some o → s4.heap.get? c = some o ∧ H4 c = none := fun c hc o e =>
      let z := I4.pin (c, o) (List.mem_append_right _ (List.mem_append_right _ (mem_pinsAt hc e)))
      ⟨z.1, z.2.1⟩
    have hl : σ.length = σ3.length := by rw [← hw3, wipe_length]
    have at4 : At Z pins fp tn σ (i + 1) H4 s4 := ⟨(I4.unpinned (pins := pins)).weak hl (fun j v e => by
        rw [← hw3] at e
        exact (wipe_some e).1), T.keep _ _ _ st2 fun c hc o e => (pin' c hc o e).1, fun c hc => by
        obtain ⟨o, e, _⟩ := T.obj _ _ st2 c hc
        exact (pin' c hc o e).2⟩
    refine seg_at (seg_yield rfl rfl rfl ⟨i, H4, by omega, rfl, at4, nx, fun nx' s'' e1 e2 e3 hb => ?_⟩)
    refine seg_again rfl (ih (i + 1) s'' s'' H4 (by omega) hlt (goon i H4 nx' hb) ⟨inv_swap at4.inv e1 e2 e3, ?_, at4.fp⟩)
    rw [e1]
    exact at4.tn
/-- the loop of all: each item asked, until one is false -/
theorem all_loop {A : Around} {ga : Addr} {gn : Nat} {gobj : Obj} {Rr : Result → Shared → Prop} (hh : A.handled = none) (hd : A.depth < recursionLimit) (hgo : ∀ h : Heap, h.get? ga = some gobj → h.IsGen ga gn) (hpi : (ga, gobj) ∈ pins)
    (goon : ∀ i H, Nx i H → b i = true → Pv (i + 1) H)
    (hend : ∀ s' H', Inv Z pins σ H' s' → Pv n H' → ∀ s'' : Shared, s''.os = s'.os → AllBare s''.gens → (∀ c o, s'.heap.get? c = some o → s''.heap.get? c = some o) → Rr (.ok (.ret (.bool true))) s'')
    (hno : ∀ s' H' i, Inv Z pins σ H' s' → Nx i H' → b i = false → ∀ s'' : Shared, s''.os = s'.os → AllBare s''.gens → s''.heap = s'.heap → Rr (.ok (.ret (.bool false))) s'') :
    ∀ (m : Nat) (s : Shared), s.heap.IsGen ga gn → s.heap.NoLimit →
      (∃ gs, s.gens[gn]? = some gs ∧ gs.Goes (model Z.prog Z.w) A.in1.in1 (Rg Z pins fp tn σ n Pv) (Yg Z pins fp tn σ n b Nx) m (.send .none) (s.setGen gn .running)) →
      codeAny (model Z.prog Z.w) A (.builtin "all.loop" ⟨[.ref ga], []⟩) Rr s := by
  intro m
  induction m with
  | zero =>
    intro s hg hl ⟨gs, hgs, hgo2⟩
    have hgl : gn < s.gens.size := (Array.getElem?_eq_some_iff.mp hgs).1
    refine codeAny_builtin F.entry_all_loop ?_
    rw [Around.under_plainId F.plain_all_loop _]
    show wpAny _ A.in1 (pyNext (.ref ga) >>= _) _ _ s
    refine wpAny_bind (next_genG (A := A.in1) (F := fun _ _ s₁ => ∃ H, Inv Z pins σ H s₁ ∧ Pv n H) (Er := fun _ _ => False) hh hl hd hg hgs hgo2 (fun v s₁ gs' hbare hv => ?_) (fun s₁ hp h' hk => ?_) fun e s₁ he => he.elim)
    · obtain ⟨i, H, hi, rfl, hat, hnx, hk⟩ := hv
      cases hb : b i with
      | true => exact (hk hnx s₁ rfl rfl hat.inv.bare hb).elim
      | false =>
        refine wpAny_bind (wpAny_holding (wpAny_truthy_bool ?_))
        refine wpAny_bind (wpAny_letGo ?_)
        simp only [Bool.false_eq_true, if_false]
        refine wpAny_bind (wpAny_rule (wpAny_pure ?_))
        exact hno s₁ H i hat.inv hnx hb _ rfl (allBare_setGen hat.inv.bare hbare) rfl
    · obtain ⟨H, I1, hP⟩ := hp
      refine wpAny_bind (wpAny_rule (wpAny_pure ?_))
      exact hend s₁ H I1 hP _ rfl (allBare_setGen I1.bare rfl) hk
  | succ m ih =>
    intro s hg hl ⟨gs, hgs, hgo2⟩
    have hgl : gn < s.gens.size := (Array.getElem?_eq_some_iff.mp hgs).1
    refine codeAny_builtin F.entry_all_loop ?_
    rw [Around.under_plainId F.plain_all_loop _]
    show wpAny _ A.in1 (pyNext (.ref ga) >>= _) _ _ s
    refine wpAny_bind (GenW.wpAny_gsz (n := gn + 1) hgl (next_genG (A := A.in1) (F := fun _ _ s₁ => ∃ H, Inv Z pins σ H s₁ ∧ Pv n H) (Er := fun _ _ => False) hh hl hd hg hgs hgo2 (fun v s₁ gs' hbare hv => ?_) (fun s₁ hp h' hk => ?_) fun e s₁ he => he.elim))
    · intro hsz
      obtain ⟨i, H, hi, rfl, hat, hnx, hk⟩ := hv
      cases hb : b i with
      | true =>
        refine wpAny_bind (wpAny_holding (wpAny_truthy_bool ?_))
        refine wpAny_bind (wpAny_letGo ?_)
        simp only [if_true]
        have hsz1 : gn < s₁.gens.size := by
          have q : (s₁.setGen gn gs').gens.size = s₁.gens.size := GenW.setGen_size _ _ _
          have hsz' : gn + 1 ≤ (s₁.setGen gn gs').gens.size := hsz
          omega
        have hpin := (hat.inv.pin (ga, gobj) (List.mem_append_right _ hpi)).1
        refine wpAny_pure ⟨plainId_quiet F.plain_all_loop _, ih (s₁.setGen gn gs') (hgo _ hpin) hat.inv.nolimit ⟨gs', setGen_at hsz1, ?_⟩⟩
        exact hk hnx _ rfl rfl (allBare_setGen (allBare_setGen hat.inv.bare hbare) rfl) hb
      | false =>
        refine wpAny_bind (wpAny_holding (wpAny_truthy_bool ?_))
        refine wpAny_bind (wpAny_letGo ?_)
        simp only [Bool.false_eq_true, if_false]
        refine wpAny_bind (wpAny_rule (wpAny_pure ?_))
        exact hno s₁ H i hat.inv hnx hb _ rfl (allBare_setGen hat.inv.bare hbare) rfl
    · intro hsz
      obtain ⟨H, I1, hP⟩ := hp
      refine wpAny_bind (wpAny_rule (wpAny_pure ?_))
      exact hend s₁ H I1 hP _ rfl (allBare_setGen I1.bare rfl) hk
end
section
variable {X : Cx} {pins : List (Addr × Obj)} {σ : L2.St} {H : Hp} {s : Shared}
/-- the frame begins -/
theorem gx_start {scope : Scope} {own : List (Str × Nat)} {x : Str} {fp : List Addr} {A' : Around} {code : Value} {hh : Heap} {mm : Str → Option Value} {gobj : Obj} {gs : GenState} {tk : Nat}
    (I : Inv X pins σ H s) (S : GxR.GenS X.env scope x) (ok : BlkOk X.N X.env.scope scope own) (hN : X.N.Nodup) (hfp : ∀ c ∈ fp, FpOk X pins H c ∧ c < s.heap.objs.size)
    (hA : A'.frames = some (genEnv scope (cloFrom X.env.cells scope.names []) s.heap.objs.size code builtinsNs X.env :: X.stack)) (hd : A'.handled = none)
    (hn : hh.Ns s.heap.objs.size mm) (hk : ∀ c o, s.heap.get? c = some o → hh.get? c = some o) (hz : hh.objs.size = s.heap.objs.size + 1) (hgb : gs.bare = true) (hgl : gobj.isFreed = false) (hgd : ∀ v, gobj.data ≠ .cell v) :
    Inv (gxC X A' s H (genEnv scope (cloFrom X.env.cells scope.names []) s.heap.objs.size code builtinsNs X.env) fp) [(hh.objs.size, gobj)] (wipe σ (own.map (·.2))) H { s with gens := s.gens.push gs, toks := tk, heap := hh.push gobj } := by
  have kp : ∀ c o, s.heap.get? c = some o → (hh.push gobj).get? c = some o := fun c o e => Heap.get?_push_of_some _ (hk c o e)
  have cm : ∀ {y : Str} {c : Addr}, (y, c) ∈ cloFrom X.env.cells scope.names [] → (y, NameKind.free) ∈ scope.names ∧ X.env.cells.lookup y = some c := fun {y c} hm => by
    rcases cloFrom_mem hm with h1 | ⟨h1, rfl⟩
    · cases h1
    · obtain ⟨c, hc⟩ := S.free _ h1 rfl
      refine ⟨h1, ?_⟩
      have hc2 : X.env.cells.lookup y = some c := hc
      rw [hc2] <;> rfl
  have cl : ∀ {y : Str}, (y, NameKind.free) ∈ scope.names → ∃ c, (cloFrom X.env.cells scope.names []).lookup y = some c ∧ X.env.cells.lookup y = some c := fun {y} hy => by
    obtain ⟨c', e'⟩ := mem_lookup (cloFrom_has (cells := X.env.cells) (acc := []) hy)
    exact ⟨c', e', (cm (PySem.mem_of_lookup e')).2⟩
  have lt : ∀ {y : Str} {c : Addr}, X.env.cells.lookup y = some c → c < s.heap.objs.size := fun {y c} e => by
    obtain ⟨v, q⟩ := I.cell y c e
    exact q.lt
  have okG : (gxC X A' s H (genEnv scope (cloFrom X.env.cells scope.names []) s.heap.objs.size code builtinsNs X.env) fp).Ok := by
    refine ⟨I.ok.mod, S.kind, I.ok.glob, rfl, Nat.le_refl _, fun y z c e1 e2 => ?_, fun y hy => ?_, fun y c z _ => (by cases z), fun _ => hd, hA, .inr ⟨rfl, rfl⟩, fun c hc => ⟨Nat.ne_of_lt (hfp c hc).2, fun y c' e z => ?_⟩, I.bs, Nat.le_trans I.ok.bsz I.sz, fun c o e hc => ?_, fun c hc z => ?_, I.stack, I.stkFree⟩
    · exact I.ok.inj y z c (cm (PySem.mem_of_lookup (show (cloFrom X.env.cells scope.names []).lookup y = some c from e1))).2 (cm (PySem.mem_of_lookup (show (cloFrom X.env.cells scope.names []).lookup z = some c from e2))).2
    · have hy2 : scope.names.lookup y = some .cell ∨ scope.names.lookup y = some .free := hy
      rcases hy2 with h1 | h1
      · exact absurd rfl (S.cell _ (PySem.mem_of_lookup h1))
      · obtain ⟨c, e, _⟩ := cl (PySem.mem_of_lookup h1)
        exact ⟨c, e⟩
    · have e2 := (cm (PySem.mem_of_lookup (show (cloFrom X.env.cells scope.names []).lookup y = some c' from e))).2
      exact (hfp c hc).1.2.2.2.2.1 y c' e2 z
    · rcases (hfp c hc).1.2.2.2.1 with z | z
      · exact I.ok.noex c o e z
      · exact absurd (Nat.lt_of_lt_of_le (Heap.lt_size e) (Nat.le_trans I.ok.bsz z)) (Nat.lt_irrefl _)
    · rcases List.mem_cons.mp (I.stkSub c z) with z2 | z2
      · exact (hfp c hc).1.2.1 z2
      · exact (hfp c hc).1.2.2.1 z2
  refine ⟨okG, rfl, I.bare.push hgb, Un.kept kp, ⟨mm, hn.push _, fun i y v e1 e2 e3 => ?_⟩, fun y c e => ?_, I.hok.fresh (Nat.le_refl _), fun y c e => ?_, fun p hp => ?_, I.hok.kept kp, by rw [wipe_length]; exact I.len⟩
  · obtain ⟨e4, hne⟩ := wipe_some e2
    have notLoc : scope.names.lookup y = some .free := by
      have e3' : scope.names.lookup y = some .local ∨ scope.names.lookup y = some .cell ∨ scope.names.lookup y = some .free := e3
      have no : ¬ ((y, NameKind.local) ∈ scope.names) := fun hm => by
        rcases ok.own _ hm (.inl rfl) with h1 | h1
        · obtain ⟨p, hp, ep⟩ := List.mem_map.mp h1
          have e5 := ok.ix p hp
          rw [ep] at e5
          have e6 := nodup_ix hN e1 e5
          exact hne (List.mem_map.mpr ⟨p, hp, e6.symm⟩)
        · exact h1 (List.mem_of_getElem? e1)
      rcases e3' with h1 | h1 | h1
      · exact absurd (PySem.mem_of_lookup h1) no
      · exact absurd rfl (S.cell _ (PySem.mem_of_lookup h1))
      · exact h1
    have hf := PySem.mem_of_lookup notLoc
    obtain ⟨c, e5, e6⟩ := cl hf
    obtain ⟨m0, hn0, hl0⟩ := I.loc
    have hk0 := ok.free _ hf rfl
    obtain ⟨u, ru, lk⟩ := hl0 i y v e1 e4 (by rcases hk0 with z | z; exact .inr (.inl z); exact .inr (.inr z))
    refine ⟨u, ru, .inr ⟨.inr notLoc, c, e5, ?_⟩⟩
    rcases lk with ⟨z1, _⟩ | ⟨_, c2, z2, z3⟩
    · have z4 : X.env.scope.names.lookup y = some .local := z1
      rcases hk0 with z | z
      · rw [z4] at z; cases z
      · rw [z4] at z; cases z
    · rw [e6] at z2
      cases z2
      exact z3.keeps kp
  · have e2 := (cm (PySem.mem_of_lookup (show (cloFrom X.env.cells scope.names []).lookup y = some c from e))).2
    obtain ⟨v, q⟩ := I.cell y c e2
    exact ⟨v, q.keeps kp⟩
  · exact I.freeC y c (cm (PySem.mem_of_lookup (show (cloFrom X.env.cells scope.names []).lookup y = some c from e))).2
  · have hp2 : p = (hh.objs.size, gobj) := List.mem_singleton.mp hp
    subst hp2
    have hge : s.heap.objs.size ≤ hh.objs.size := by omega
    refine ⟨Heap.get?_push_size _ ?_, I.hok.fresh hge, ?_, fun hm => ?_, hgd⟩
    · exact hgl
    · show hh.objs.size ≠ s.heap.objs.size
      omega
    · obtain ⟨_, o, ho, _⟩ := I.stack.mem hm
      exact absurd (Nat.lt_of_lt_of_le (Heap.lt_size ho) hge) (Nat.lt_irrefl _)
end
/-- all(e for x in xs): wi what is walked, i the place of x, te the element; behind it the def's table may have grown -/
def tAllG (P : Addr) (wi : TI) (i : Nat) (te : TE) (vs : List Nat) : TE := fun σ H Q => wi σ H fun J H1 => GxR.TabG H1 P ∧ ∀ H2, GxR.Tabbed P H1 H2 →
  ∃ (n : Nat) (b : Nat → Bool) (Pv Nx : Nat → Hp → Prop), Pv 0 H2 ∧
    (∀ k H, k < n → Pv k H → J.go k H ∧ ∀ x H', J.yld k H x H' → gName i x (wipe σ vs) H' fun σ2 H3 => wipe σ2 vs = wipe σ vs ∧ te σ2 H3 fun y H4 => y = .bl (b k) ∧ Nx k H4) ∧
    (∀ k H, Nx k H → b k = true → Pv (k + 1) H) ∧ (∀ k H, Nx k H → b k = false → Q (.bl false) H) ∧ (∀ H, Pv n H → J.stop n H ∧ Q (.bl true) H)
section
variable {X : Cx}
/-- what the walk over the made generator asks -/
def Asks (σ : L2.St) (Q : VK) (i : Nat) (te : TE) (vs : List Nat) (J : It) (H2 : Hp) : Prop :=
  ∃ (n : Nat) (b : Nat → Bool) (Pv Nx : Nat → Hp → Prop), Pv 0 H2 ∧
    (∀ k H, k < n → Pv k H → J.go k H ∧ ∀ x H', J.yld k H x H' → gName i x (wipe σ vs) H' fun σ2 H3 => wipe σ2 vs = wipe σ vs ∧ te σ2 H3 fun y H4 => y = .bl (b k) ∧ Nx k H4) ∧
    (∀ k H, Nx k H → b k = true → Pv (k + 1) H) ∧ (∀ k H, Nx k H → b k = false → Q (.bl false) H) ∧ (∀ H, Pv n H → J.stop n H ∧ Q (.bl true) H)
theorem gx_go {k i : Nat} {elt iter : Expr} {x : Str} {px gpos : Pos} {scope : Scope} {own : List (Str × Nat)} {te : TE} {pins : List (Addr × Obj)} {σ : L2.St} {Q : VK} {H3 : Hp} {s3 : Shared} {it : Addr} {fp : List Addr} {tn : Nat → Heap → Prop} {J : It} {code : Value} {h' : Heap} {gobj : Obj} {tk : Nat}
    (hr : Room (k + 1) X.A) (S : GxR.GenS X.env scope x) (hN : X.N.Nodup) (ok : BlkOk X.N X.env.scope scope own)
    (hgn : ∀ (A : Around) (s : Shared) (H : Hp) (cl : List (Str × Addr)) (C : Addr) (code : Value) (fp : List Addr), PG (gxC X A s H (genEnv scope cl C code builtinsNs X.env) fp) (.Name x px) (gName i))
    (hel : ∀ (A : Around) (s : Shared) (H : Hp) (cl : List (Str × Addr)) (C : Addr) (code : Value) (fp : List Addr), Room k A → PE (gxC X A s H (genEnv scope cl C code builtinsNs X.env) fp) elt te)
    (I : Inv X pins σ H3 s3) (T : Turn X.prog X.w X.K (.Name x px) J fp it tn) (st : tn 0 s3.heap) (hfp : ∀ b ∈ fp, FpOk X pins H3 b) (q : Asks σ Q i te (own.map (·.2)) J H3)
    (hn : h'.Ns s3.heap.objs.size (fun y => if y = ".0" then some (.ref it) else none)) (hs : Heap.SameBut s3.heap.objs.size (s3.heap.push { cls := .type "frame", data := .dict #[] }) h')
    (hgo : ∀ h : Heap, h.get? h'.objs.size = some gobj → h.IsGen h'.objs.size s3.gens.size) (hgl : gobj.isFreed = false) (hgd : ∀ v, gobj.data ≠ .cell v) (E : Value → Shared → Prop) :
    wpAny (model X.prog X.w) X.A (call (.builtin "all") [.ref h'.objs.size]) (EP X pins σ Q) E
      { s3 with gens := s3.gens.push (.fresh (.compStart (genE elt (.Name x px) iter scope gpos) 0 (.ref it) .none (genEnv scope (cloFrom X.env.cells scope.names []) s3.heap.objs.size code builtinsNs X.env))), toks := tk, heap := h'.push gobj } := by
  generalize hce : genEnv scope (cloFrom X.env.cells scope.names []) s3.heap.objs.size code builtinsNs X.env = cenv
  have hsz : h'.objs.size = s3.heap.objs.size + 1 := by rw [hs.1, Heap.size_push]
  have keep' : ∀ b o, s3.heap.get? b = some o → h'.get? b = some o := fun b o e => hs.extBut b o (Nat.ne_of_lt (Heap.lt_size e)) (Heap.get?_push_of_some _ e)
  have lt3 : ∀ b ∈ fp, b < s3.heap.objs.size := fun b hb => by
    obtain ⟨o, e, _⟩ := T.obj _ _ st b hb
    exact Heap.lt_size e
  have hfr : (X.A.in1.in1.over (.compLoop (genE elt (.Name x px) iter scope gpos) 0 (.ref it) .none cenv) []).frames = some (cenv :: X.stack) := by
    have e := I.ok.frames
    show (X.A.frames).map _ = _
    rw [e] <;> rfl
  have rk : Room k (X.A.in1.in1.over (.compLoop (genE elt (.Name x px) iter scope gpos) 0 (.ref it) .none cenv) []) := by
    refine ⟨hr.hd, ?_, ?_⟩
    · have := hr.dp
      show X.A.depth + 0 + 1 + 3 * k + 5 < _
      omega
    · have := hr.un
      show X.A.units + 1 + 1 + 0 + 3 + 16 * k + 200 < _
      omega
  have I5 := gx_start (own := own) (x := x) (A' := X.A.in1.in1.over (.compLoop (genE elt (.Name x px) iter scope gpos) 0 (.ref it) .none cenv) []) (code := code) (gs := .fresh (.compStart (genE elt (.Name x px) iter scope gpos) 0 (.ref it) .none cenv)) (tk := tk)
    I S ok hN (fun b hb => ⟨hfp b hb, lt3 b hb⟩) (by rw [hce]; exact hfr) hr.hd hn keep' hsz rfl hgl hgd
  rw [hce] at I5
  have pe := hel _ s3 H3 (cloFrom X.env.cells scope.names []) s3.heap.objs.size code fp rk
  have pg := hgn (X.A.in1.in1.over (.compLoop (genE elt (.Name x px) iter scope gpos) 0 (.ref it) .none cenv) []) s3 H3 (cloFrom X.env.cells scope.names []) s3.heap.objs.size code fp
  rw [hce] at pe pg
  have ltp : ∀ c o, s3.heap.get? c = some o → (h'.push gobj).get? c = some o := fun c o e => Heap.get?_push_of_some _ (keep' c o e)
  have hgp : (h'.push gobj).IsGen h'.objs.size s3.gens.size := hgo _ (Heap.get?_push_size _ hgl)
  generalize hst : ({ s3 with gens := s3.gens.push (.fresh (.compStart (genE elt (.Name x px) iter scope gpos) 0 (.ref it) .none cenv)), toks := tk, heap := h'.push gobj } : Shared) = st0 at I5 ⊢
  have hst1 : st0.heap = h'.push gobj := by rw [← hst]
  have hst2 : st0.gens = s3.gens.push (.fresh (.compStart (genE elt (.Name x px) iter scope gpos) 0 (.ref it) .none cenv)) := by rw [← hst]
  have hst3 : st0.os = s3.os := by rw [← hst]
  obtain ⟨n, b, Pv, Nx, p0, turn, goon, qno, qyes⟩ := q
  have fin : ∀ (v : Bool) (s' : Shared) (H' : Hp), Inv (gxC X (X.A.in1.in1.over (.compLoop (genE elt (.Name x px) iter scope gpos) 0 (.ref it) .none cenv) []) s3 H3 cenv fp) [(h'.objs.size, gobj)] (wipe σ (own.map (·.2))) H' s' → Q (.bl v) H' →
      ∀ s'' : Shared, s''.os = s'.os → AllBare s''.gens → (∀ c o, s'.heap.get? c = some o → s''.heap.get? c = some o) → EP X pins σ Q (.bool v) s'' := fun v s' H' J hq s'' e1 e2 e3 => by
    refine ⟨.bl v, H', I.call' (ch := fp) (e1.trans J.os) (J.base.trans (Un.kept e3)) (J.hok.kept e3) e2 (fun c hc => ?_), rfl, hq⟩
    obtain ⟨f1, f2, f3, f4, f5, f6⟩ := hfp c hc
    exact ⟨f4, f2, f5, f6⟩
  have hh1 : X.A.in1.handled = none := hr.hd
  refine call_function_tree F.kind_all F.plain_all F.entry_all (F.args_all1 _) ?_
  unfold Builtin.«all»
  refine wpAny_bind (m := oneArg "all" _) (wpAny_pure ?_)
  refine wpAny_bind (wpAny_pyIter_gen (s := st0) (by rw [hst1]; exact hgp) ?_)
  refine wpAny_pure ⟨plainId_quiet F.plain_all_loop _, ?_⟩
  refine all_loop (Z := gxC X (X.A.in1.in1.over (.compLoop (genE elt (.Name x px) iter scope gpos) 0 (.ref it) .none cenv) []) s3 H3 cenv fp) (pins := [(h'.objs.size, gobj)]) (fp := fp) (tn := tn) (σ := wipe σ (own.map (·.2))) (n := n) (b := b) (Nx := Nx) (Pv := Pv)
    (gobj := gobj) hr.hd (by have := hr.dp; omega) hgo (List.mem_singleton.mpr rfl) goon (fun s' H' J hp s'' e1 e2 e3 => fin true s' H' J (qyes H' hp).2 s'' e1 e2 e3) (fun s' H' j J hn hb s'' e1 e2 e3 => fin false s' H' J (qno j H' hn hb) s'' e1 e2 (fun c o e => by rw [e3]; exact e))
    n st0 (by rw [hst1]; exact hgp) I5.nolimit ⟨.fresh (.compStart (genE elt (.Name x px) iter scope gpos) 0 (.ref it) .none cenv), by rw [hst2]; exact Array.getElem?_push_size, ?_⟩
  refine ⟨rfl, ?_⟩
  have I6 := inv_swap (s' := st0.setGen s3.gens.size .running) I5 rfl rfl (allBare_setGen I5.bare rfl)
  have loop := gx_loop (Z := gxC X (X.A.in1.in1.over (.compLoop (genE elt (.Name x px) iter scope gpos) 0 (.ref it) .none cenv) []) s3 H3 cenv fp) (pins := [(h'.objs.size, gobj)]) (fp := fp) (tn := tn) (σ := wipe σ (own.map (·.2))) (n := n) (b := b) (Nx := Nx) (Pv := Pv)
    (B := X.A.in1.in1) (elt := elt) (tg := .Name x px) (iter := iter) (scope := scope) (pos := gpos) (it := it) (vs := own.map (·.2)) rfl rfl rfl rfl rfl (by rw [← hce]; exact S.co) (fun p hp hm => by
      rw [List.mem_singleton.mp hp] at hm
      have := lt3 _ hm
      have h2 : h'.objs.size < s3.heap.objs.size := this
      omega) T pg pe turn goon (fun H' hp => (qyes H' hp).1) n 0 (st0.setGen s3.gens.size .running) (st0.setGen s3.gens.size .running) H3 (Nat.sub_zero _) (Nat.zero_le _) p0
    ⟨I6, T.keep _ _ _ st fun c hc o e => (by show st0.heap.get? c = some o; rw [hst1]; exact ltp c o e), fun c hc => (hfp c hc).1⟩
  show Seg _ X.A.in1.in1 _ _ _ _ _ ((compStart (genE elt (.Name x px) iter scope gpos) 0 (.ref it) .none cenv).onRaise (leaving cenv)) [] _
  unfold compStart
  rw [Sem.onRaise_eq_wrap]
  show Seg _ X.A.in1.in1 _ _ _ _ _ ((ask >>= _).wrap _ _ _ _) [] _
  refine seg_bind_wrap (wpAny_askSetting ?_)
  have hself : ∀ A' : Around, ∀ (Q' : Value → Shared → Prop) (E' : Value → Shared → Prop), Q' (.ref it) (st0.setGen s3.gens.size .running) → wpAny (model X.prog X.w) A' (pyIter (.ref it)) Q' E' (st0.setGen s3.gens.size .running) := fun A' Q' E' hq =>
    T.self A' 0 _ Q' E' (T.keep _ _ _ st fun c hc o e => (by show st0.heap.get? c = some o; rw [hst1]; exact ltp c o e)) hq
  split
  · exact seg_again rfl loop
  · first
      | exact seg_bind_wrap (wpAny_rule (seg_bind_wrap (wpAny_standAt (seg_bind_wrap (hself _ _ _ (seg_again rfl loop))))))
      | (refine seg_bind_wrap (wpAny_rule ?_); show Seg _ X.A.in1.in1 _ _ _ _ _ ((standAt iter.pos >>= _).wrap _ _ _ _) [] _; exact seg_bind_wrap (wpAny_standAt (seg_bind_wrap (hself _ _ _ (seg_again rfl loop)))))
/-- all(e for x in it) -/
theorem pe_allG {c P : Addr} {k i : Nat} {elt iter : Expr} {x : Str} {px p pos gpos : Pos} {scope : Scope} {own : List (Str × Nat)} {wi : TI} {te : TE}
    (hr : Room (k + 1) X.A) (hg : Gl X "all") (hm : X.mg "all" = none) (hb : bootBuiltins "all" = some (.builtin "all")) (TB : GxR.TabB X.base X.mg c P) (hcode : X.env.code = .ref c) (S : GxR.GenS X.env scope x) (hN : X.N.Nodup) (hx : X.N[i]? = some x) (ok : BlkOk X.N X.env.scope scope own)
    (hi : PI X (.Name x px) iter wi)
    (hel : ∀ (A : Around) (s : Shared) (H : Hp) (cl : List (Str × Addr)) (C : Addr) (code : Value) (fp : List Addr), Room k A → PE (gxC X A s H (genEnv scope cl C code builtinsNs X.env) fp) elt te)
    (hs : ∀ v, genFold iter X.env v = pure v)
    (he : starEach [genE elt (.Name x px) iter scope gpos] X.env = (false, eval (genE elt (.Name x px) iter scope gpos) X.env) :: starEach [] X.env := by rfl) :
    PE X (.Call (.Name "all" p) [genE elt (.Name x px) iter scope gpos] [] pos) (tAllG P wi i te (own.map (·.2))) := by
  refine ⟨fun pins s σ H Q I h => ?_⟩
  refine wpAny_Call_Name_kw (ld_blt I hg hm hb ?_)
  refine PyProof.Rows.callWith_builtin1 ?_ he (by rfl)
  rw [he]
  show wpAny _ _ (spliced ((false, eval (genE elt (.Name x px) iter scope gpos) X.env) :: backTo pos (starEach [] X.env))) _ _ s
  refine Calls.spliced_cons ?_
  refine wpAny_GeneratorExp_make S.co (closure_ok S.free) S.cell S.dot S.kind (by have := hr.dp; omega) ?_ hs
  refine thn (hi.run pins s σ H _ I h) fun xv s1 h1 => thn h1 fun itv s2 h2 => ?_
  obtain ⟨it, fp, tn, J, H1, rfl, I2, T, st, hfp, ⟨ps, hP, ht⟩, ask⟩ := h2
  have hPs : s2.heap.get? P = some { cls := .none, data := .fields ps } := I2.hok P _ hP
  have hPlt : P < s2.heap.objs.size := Heap.lt_size hPs
  have cd : PySem.W.CodeHd s2.heap c P := TB.code.keeps I2.bk
  have nP : ∀ b ∈ fp, b ≠ P := fun b hb z => by
    have := (hfp b hb).1
    rw [z, hP] at this
    cases this
  have cont : ∀ (code : Value) (h3 : Heap) (tk : Nat) (more : Array Value), Heap.ExtBut P s2.heap h3 → s2.heap.objs.size ≤ h3.objs.size → h3.get? P = some { cls := .none, data := .fields (ps ++ more) } → TriplesOk (ps ++ more).toList →
      wpAny (model X.prog X.w) X.A (builtinsFor X.env.globals X.env.builtins) (fun bi s₄ =>
        ∀ h', h'.Ns s₄.heap.objs.size (fun y => if y = ".0" then some (.ref it) else none) → Heap.SameBut s₄.heap.objs.size (s₄.heap.push { cls := .type "frame", data := .dict #[] }) h' →
          wpAny (model X.prog X.w) X.A (spliced (backTo pos (starEach [] X.env))) (fun us s5 => wpAny (model X.prog X.w) X.A (call (.builtin "all") (.ref h'.objs.size :: us)) (EP X pins σ Q) X.xe s5) X.xe { s₄ with
            gens := s₄.gens.push (.fresh (.compStart (genE elt (.Name x px) iter scope gpos) 0 (.ref it) .none (genEnv scope (cloFrom X.env.cells scope.names []) s₄.heap.objs.size code bi X.env))),
            toks := s₄.toks + 1 + 1 + 1,
            heap := h'.push { cls := .type "generator", data := .fields #[.int s₄.gens.size 0, .str "<genexpr>" (s₄.toks + 1), .str (X.env.qual ++ "<genexpr>") (s₄.toks + 1 + 1)] } }) X.xe { s2 with heap := h3, toks := tk } := by
    intro code h3 tk more hxt hsz hP3 ht3
    obtain ⟨bm, ob, e1, e2, e3, e4, e5, e6, e7, e8⟩ := TB.bm
    refine wpAny_builtinsFor (m := X.mg) (by rw [I2.ok.glob]; exact (I2.mod.glob.keeps I2.bk).extBut hxt TB.gP) e1 e2 (hxt _ _ e4 (I2.bk _ _ e5)) e6 e7 e8 ?_
    have I3 : Inv X pins σ (upd H1 P (.tbl (ps ++ more))) { s2 with heap := h3, toks := tk } := GxR.inv_tab (more := more) (h' := h3) (g' := s2.gens) (d' := s2.drawn) (t' := tk) I2 hP (fun b u hb e => hxt b u hb e) hP3 I2.bare
    have st3 : tn 0 h3 := T.keep _ _ _ st fun b hb o e => hxt b o (nP b hb) e
    have hfp3 : ∀ b ∈ fp, FpOk X pins (upd H1 P (.tbl (ps ++ more))) b := fun b hb => by
      obtain ⟨f0, f⟩ := hfp b hb
      exact ⟨by rw [upd_ne (nP b hb)]; exact f0, f⟩
    intro h' hn' hs'
    refine Calls.spliced_nil ?_
    exact gx_go (tn := tn) (T := T) (k := k) (i := i) (s3 := { s2 with heap := h3, toks := tk }) (H3 := upd H1 P (.tbl (ps ++ more))) hr S hN ok (fun A s H cl C code fp => pg_name hN hx (.inl S.loc) (.inr S.loc)) hel I3 st3 hfp3
      (ask _ ⟨⟨ps ++ more, upd_same, ht3⟩, fun b hb => upd_ne hb⟩) hn' hs' (fun h e => ⟨_, _, _, e, rfl, rfl, rfl⟩) rfl (fun v e => by cases e) X.xe
  refine ⟨I2.nolimit, ?_⟩
  cases hf : codeAmong gpos ps.toList with
  | none =>
    refine wpAny_genexprCodeX hcode (cd.code hPs ht) (cd.tab hPs) hf fun c' h' tk hx hge hlt hco' _ htab' _ => ?_
    obtain ⟨o1, vs, f1, tf, fl, tg, inF, tx, tt, op, _, _, _, _, _, _, _, _, _, htr, _⟩ := hco'
    exact cont _ h' tk _ hx (Nat.le_trans hge (Nat.le_of_lt hlt)) htab'.2 htr
  | some cv =>
    refine wpAny_genexprCode_hit hcode (cd.code hPs ht) hf ?_
    exact cont cv s2.heap s2.toks #[] (Heap.ExtBut.refl _ _) (Nat.le_refl _) (by simpa using hPs) (by simpa using ht)
end
end Gx
/-! ### defs run where no display is being shown; the end of a law by such a def, with tables of code objects -/
namespace Ky
open PySem PySem.Spec PyProof.Rows L2
/-- what a def does where nothing is being shown (repr) -/
structure FnG (P : Program) (w : World) (K : PySem.W.Frag) (mg : Str → Option Value) (base : Heap) (k : Nat) (f : Addr) (fd : FuncData) (ps : List Str) (sp : Sp) : Prop where
  len : ∀ vs H Q E, sp vs H Q E → vs.length = ps.length
  run : ∀ (A : Around) (out : List Env) (s : Shared) (H : Hp) (given : Args) (us : List Value) (vs : List V) (Q : VK) (E : XK), A.guards = some [] → Room k A → Env0 P w K mg base A out s H → BindsTo s fd given (ps.zip us) → Vals vs us →
    sp vs H Q E → codeAny (model P w) A (.call (.ref f) given) (CR CX0 out P w H s Q E) s
structure CalG (P : Program) (w : World) (K : PySem.W.Frag) (mg : Str → Option Value) (base : Heap) (k : Nat) (x : Str) (st : Stmt) (ps : List Str) (sp : Sp) : Prop where
  ex : ∃ (f : Addr) (fd : FuncData), FnG P w K mg base k f fd ps sp ∧ FunD K x x (defArgs st) (defBody st) (defScope st) [] [] f fd ∧ mg x = some (.ref f) ∧ Binds K fd ps []
section
variable {P : Program} {w : World} {K : PySem.W.Frag} {mg : Str → Option Value} {base : Heap} {k : Nat} {x : Str} {st : Stmt} {ps : List Str} {sp : Sp}
theorem FnG.of {f : Addr} {fd : FuncData} (F : FnOk P w K mg base CX0 k f fd ps sp) : FnG P w K mg base k f fd ps sp := ⟨F.len, fun A out s H given us vs Q E _ => F.run A out s H given us vs Q E⟩
theorem CalG.of (c : CalD P w K mg base k x st ps sp) : CalG P w K mg base k x st ps sp := let ⟨f, fd, F, r⟩ := c.ex; ⟨f, fd, .of F, r⟩
/-- a def by its body -/
theorem fnG_of {f : Addr} {fd : FuncData} {N : List Str} (F : FunD K x x (defArgs st) (defBody st) (defScope st) [] [] f fd) (S : FnScope N ps (defScope st)) (len : ∀ vs H Q E, sp vs H Q E → vs.length = ps.length)
    (hbody : ∀ (f : Addr) (cdv : Value) (A : Around) (out : List Env) (s : Shared) (H : Hp) (vs : List V) (Q : VK) (E : XK), A.guards = some [] → Room k (A.deeper (envOfC x (defScope st) s.heap.objs.size f cdv)) → sp vs H Q E →
      ∃ t, PSs (cxOf CX0 P w K mg base N x (defScope st) f cdv A out s H E) (defBody st) t ∧ t { nx := fun _ H' => Q .non H', rt := Q } (start N vs) H) : FnG P w K mg base (k + 1) f fd ps sp := by
  obtain ⟨_, _, _, _, _, _, _, cdv, _, _, rfl, look, code, _, _⟩ := F.ex
  refine ⟨len, fun A out s H given us vs Q E noG room en bound rel want => ?_⟩
  have held := fun b o z => (en.bs b o z).1
  have inS := en.mod.kin.keeps held
  have many := len _ _ _ _ want
  have kinds : ∀ z ∈ ps.zip us, (defScope st).names.lookup z.1 = some .local ∨ ((defScope st).names.lookup z.1 = some .cell ∧ ((cellsFrom (s.heap.objs.size + 1) (defScope st).names []).lookup z.1).isSome = true) := fun ⟨n, u⟩ hz =>
    (S.par n (List.of_mem_zip hz).1).imp id fun q => ⟨q, PySem.W.cellsFrom_some _ _ _ (Or.inl q)⟩
  refine codeAny_call_function room.depth (inS _ _ look) rfl S.co S.gen rfl (PySem.W.codeRec_of inS code) (bound _ _ _ _ (wpAny_newFunctionEnv_cells S.kind kinds fun env he s1 laid => ?_))
  subst he
  refine ⟨(en.mod.nolimit.keeps held).keeps laid.toInCall.keep, codeAny_func ?_⟩
  obtain ⟨t, ht, hq⟩ := hbody f cdv A out s H vs Q E noG (room.deeper _) want
  refine wpAny_mono (ht.run [] s1 (start N vs) H _ (inv_start S room.hd en many rel laid) hq) (fun fl s' z => ?_) fun _ _ z => z
  cases fl with
  | ret u =>
    obtain ⟨v, _, H', J, rv, q⟩ := z
    exact (⟨v, H', J.os, J.bare, J.base, J.hok, rv, q⟩ : CE out P w H s Q u s')
  | next =>
    obtain ⟨_, H', J, q⟩ := z
    exact (⟨V.non, H', J.os, J.bare, J.base, J.hok, rfl, q⟩ : CE out P w H s Q Value.none s')
  | brk => exact (let ⟨_, _, _, q⟩ := z; q).elim
  | cont => exact (let ⟨_, _, _, q⟩ := z; q).elim
theorem calG_mk {N : List Str} (D : Here K mg x st) (S : FnScope N ps (defScope st))
    (hb : ∀ (kV doc pm : Value) (an : Option Addr) (cdv ct : Value) (us : List Value), us.length = ps.length → bindArgs (PySem.W.fnOf x x (defArgs st) (defBody st) (defScope st) .none kV doc pm an cdv ct) ⟨us, []⟩ = pure (ps.zip us))
    (len : ∀ vs H Q E, sp vs H Q E → vs.length = ps.length)
    (hbody : ∀ (f : Addr) (cdv : Value) (A : Around) (outer : List Env) (s : Shared) (H : Hp) (vs : List V) (Q : VK) (E : XK), A.guards = some [] → Room k (A.deeper (envOfC x (defScope st) s.heap.objs.size f cdv)) → sp vs H Q E →
      ∃ t, PSs (cxOf CX0 P w K mg base N x (defScope st) f cdv A outer s H E).nox (defBody st) t ∧ t { nx := fun _ H' => Q .non H', rt := Q } (start N vs) H) : CalG P w K mg base (k + 1) x st ps sp := by
  obtain ⟨f, fd, F, g⟩ := D.ex
  exact ⟨f, fd, fnG_of F S len fun f cdv A outer s H vs Q E hg hr h => (hbody f cdv A outer s H vs Q E hg hr h).imp fun _ z => ⟨z.1.nox, z.2⟩, F, g, F.bindsN hb⟩
end
/-- f(e, ..) there -/
theorem pe_g {X : Cx} {k j : Nat} {x : Str} {st : Stmt} {ps : List Str} {sp : Sp} {p pos : Pos} {e : Expr} {es : List Expr} {t : TA} (c : CalG X.prog X.w X.K X.mg X.base k x st ps sp) (noG : X.A.guards = some []) (hr : Room j X.A) (hk : k ≤ j) (hg : Gl X x) (ha : PA X (e :: es) t)
    (hdb : (x == ("__debug__" : Str)) = false := by decide) (he : starEach (e :: es) X.env = (false, eval e X.env) :: starEach es X.env := by rfl) (hpl : (backTo pos (starEach es X.env)).any (·.1) = false := by rfl) :
    PE X (.Call (.Name x p) (e :: es) [] pos) (tCall sp [] E0 t) := by
  obtain ⟨f, fd, F, D, hm, b⟩ := c.ex
  refine ⟨fun pins s σ H Q I hq => wpAny_Call_Name_kw (ld_glob I hg hm ?_ hdb)⟩
  refine PySem.W.callWith_K (h₀ := X.base) I.ok.mod.kin D.kp (thn (ha.run pos pins s σ H _ I hq) fun us s1 ⟨vs, H1, I1, rel, want⟩ => ⟨I1.kIn, ?_⟩) he hpl
  replace want : sp vs H1 Q E0 := by
    have z : sp (vs ++ []) H1 Q E0 := want
    rwa [List.append_nil] at z
  have many := rel.length.symm.trans (F.len _ _ _ _ want)
  have bound := b s1 us I1.kIn (by rw [List.append_nil]; exact many)
  rw [List.append_nil] at bound
  refine wpAny_call (codeAny_mono (F.run X.A X.stack s1 H1 ⟨us, []⟩ us vs Q _ noG (hr.mono hk) I1.env0 bound rel want) fun r s' z => ?_)
  cases r with
  | error e => exact (show False from z).elim
  | ok fl => cases fl with
    | ret u => exact I1.after z
    | next => exact (show False from z).elim
    | brk => exact (show False from z).elim
    | cont => exact (show False from z).elim
/-! ### the end of a law -/
def emptyT : Obj := { cls := .none, data := .fields #[] }
def listO (vs : List Value) : Obj := { cls := .type "list", data := .seq vs.toArray }
/-- what is tracked as the law is called: the tables; the script's list, if it isn't known otherwise -/
def endH (ts : List Addr) (a : Addr) (loose : Bool) (vs : List Value) (xs : List V) : Hp := fun b => if b ∈ ts then some (.tbl #[]) else if b = a ∧ loose = true then some (.frz (listO vs) (.lst xs)) else none
theorem endH_tab {ts : List Addr} {a : Addr} {l : Bool} {vs : List Value} {xs : List V} {b : Addr} (h : b ∈ ts) : endH ts a l vs xs b = some (.tbl #[]) := if_pos h
theorem endH_inv {ts : List Addr} {a : Addr} {l : Bool} {vs : List Value} {xs : List V} {b : Addr} {u : HO} (h : endH ts a l vs xs b = some u) : (b ∈ ts ∧ u = .tbl #[]) ∨ (b ∉ ts ∧ b = a ∧ l = true ∧ u = .frz (listO vs) (.lst xs)) := by
  unfold endH at h
  split at h
  · rename_i m
    exact .inl ⟨m, (Option.some.inj h).symm⟩
  · rename_i m
    split at h
    · rename_i c
      exact .inr ⟨m, c.1, c.2, (Option.some.inj h).symm⟩
    · cases h
theorem law_callG {P : Program} {w : World} {K : PySem.W.Frag} {mg mb : Str → Option Value} {k : Nat} {fa a : Addr} {cs : List (Addr × Addr)} {fd : FuncData} {x : Str} {sp : Sp} {st : Shared} {vs : List Value} {ns : List Int}
    (inK : K.In st.heap) (glob : st.heap.Ns mainGlobals mg) (blt : st.heap.Ns builtinsNs mb) (boot : ∀ y : Str, y ≠ "__name__" → mb y = bootBuiltins y) (lim : st.heap.NoLimit) (noGens : st.gens = #[])
    (tab : ∀ c ∈ cs, st.heap.get? c.2 = some emptyT) (out : ∀ c ∈ cs, K.lookup c.2 = none) (heads : ∀ c ∈ cs, PySem.W.CodeHd st.heap c.1 c.2)
    (bmain : ∃ (bm : Addr) (ob : Obj), mg "__builtins__" = some (.ref bm) ∧ bm ≠ builtinsNs ∧ st.heap.get? bm = some ob ∧ ob.cls = .type "module" ∧ ob.dict = some builtinsNs ∧ ob.data = .plain)
    (list : st.heap.get? a = some (listO vs)) (nums : IntsAre vs ns) (few : ns.length ≤ sizeLine) (room : Room k callerA)
    (F : ∀ base : Heap, K.In base → base.Ns mainGlobals mg → (∀ c ∈ cs, GxR.TabB base mg c.1 c.2) → FnG P w K mg base k fa fd [x] sp) (bind : ∀ (s : Shared) (u : Value), BindsTo s fd ⟨[u], []⟩ [(x, u)])
    (want : ∀ H : Hp, (∀ c ∈ cs, H c.2 = some (.tbl #[])) → SqL K H a (ns.map V.int) → sp [.ref a] H (fun v _ => v = .bl true) fun _ _ _ => False) :
    codeAny (model P w) callerA (.call (.ref fa) ⟨[.ref a], []⟩) (fun r s' => r = .ok (.ret (.bool true)) ∧ OldK st.heap s'.heap ∧ s'.os = st.os ∧ AllBare s'.gens) st := by
  let ts := cs.map Prod.snd
  have tsObj : ∀ b ∈ ts, st.heap.get? b = some emptyT := fun b hb => by
    obtain ⟨c, hc, rfl⟩ := List.mem_map.mp hb
    exact tab c hc
  have inTs : ∀ {c}, c ∈ cs → c.2 ∈ ts := fun hc => List.mem_map.mpr ⟨_, hc, rfl⟩
  have aOut : a ∉ ts := fun z => by
    have e := (tsObj a z).symm.trans list
    injection e with e
    injection e with e1 e2
    cases e1
  let free := (K.lookup a).isNone
  let H := endH ts a free vs (ns.map V.int)
  -- an object of any other sort is not tracked
  have none_ : ∀ {b : Addr} {o : Obj}, st.heap.get? b = some o → o ≠ emptyT → o ≠ listO vs → H b = none := fun {b o} e n1 n2 => by
    cases q : H b with
    | none => rfl
    | some u =>
      rcases endH_inv q with ⟨m, _⟩ | ⟨_, rfl, _, _⟩
      · exact absurd (Option.some.inj ((tsObj b m).symm.trans e)).symm n1
      · exact absurd (Option.some.inj (list.symm.trans e)).symm n2
  have kIn : K.In (hidT st.heap H) := fun b o e => by
    refine hidT_get (inK b o e) ?_
    cases q : H b with
    | none => rfl
    | some u =>
      rcases endH_inv q with ⟨m, _⟩ | ⟨_, rfl, l, _⟩
      · obtain ⟨c, hc, rfl⟩ := List.mem_map.mp m
        exact absurd ((out c hc).symm.trans e) (by simp)
      · have l2 : (K.lookup b).isNone = true := l
        rw [e] at l2
        cases l2
  have ns_ : ∀ {b : Addr} {m : Str → Option Value}, st.heap.Ns b m → (hidT st.heap H).Ns b m := fun ⟨o, es, ep, e, d, r⟩ => by
    refine ⟨o, es, ep, hidT_get e (none_ e (fun z => ?_) fun z => ?_), d, r⟩
    · rw [z] at d; cases d
    · rw [z] at d; cases d
  have modK : L2.Mod K mg (hidT st.heap H) := by
    obtain ⟨mc, z1, z2⟩ := lim
    exact ⟨kIn, ns_ glob, ⟨mb, ns_ blt, boot⟩, mc, ns_ z1, z2⟩
  have tabs : ∀ c ∈ cs, GxR.TabB (hidT st.heap H) mg c.1 c.2 := fun c hc => by
    refine ⟨?_, ?_, fun z => ?_⟩
    · obtain ⟨o, us, file, tf, fl, tg, inF, tx, tt, e, rest⟩ := heads c hc
      refine ⟨o, us, file, tf, fl, tg, inF, tx, tt, hidT_get e (none_ e (fun z => ?_) fun z => ?_), rest⟩
      · have r1 := rest.1
        rw [z] at r1; cases r1
      · have r1 := rest.1
        rw [z] at r1; injection r1 with r2; exact absurd r2 (by decide)
    · obtain ⟨bm, ob, b1, b2, b3, b4, b5, b6⟩ := bmain
      refine ⟨bm, ob, b1, b2, fun z => ?_, fun z => ?_, hidT_get b3 (none_ b3 (fun z => ?_) fun z => ?_), b4, b5, b6⟩
      · obtain ⟨o, es, ep, e, d, _⟩ := glob
        rw [z, e] at b3
        injection b3 with b3
        rw [← b3, d] at b6; cases b6
      · rw [z, tab c hc] at b3
        injection b3 with b3
        rw [← b3] at b6; cases b6
      · rw [z] at b6; cases b6
      · rw [z] at b6; cases b6
    · obtain ⟨o, es, ep, e, d, _⟩ := glob
      rw [z, tab c hc] at e
      injection e with e
      rw [← e] at d; cases d
  have valsV := vals_ints nums
  have hok : HOk P w H st.heap := fun b u q => by
    rcases endH_inv q with ⟨m, rfl⟩ | ⟨_, rfl, _, rfl⟩
    · exact tsObj b m
    · exact ⟨list, by rw [List.length_map]; exact few, vs, _, valsV, list⟩
  have sq : SqL K H a (ns.map V.int) := by
    cases q : K.lookup a with
    | none =>
      refine .inl (.inr ⟨listO vs, (if_neg aOut).trans (if_pos ⟨rfl, ?_⟩)⟩)
      show (K.lookup a).isNone = true
      rw [q] <;> rfl
    | some o =>
      have e := inK a o q
      rw [list] at e
      injection e with e
      subst e
      refine .inr ⟨_, vs.toArray, _, q, rfl, rfl, rfl, ?_, by simpa using valsV⟩
      rw [List.size_toArray, nums.length]
      exact few
  have en : Env0 P w K mg (hidT st.heap H) callerA [] st H := ⟨rfl, modK, fun b o z => of_hidT z, Nat.le_of_eq (hidT_size _ _), trivial, fun b z => (List.not_mem_nil (show b ∈ ([] : List Addr) from z)).elim, hok, .of_eq noGens⟩
  refine codeAny_mono ((F _ kIn (ns_ glob) tabs).run callerA [] st H ⟨[.ref a], []⟩ [.ref a] [.ref a] _ _ rfl room en (bind st (.ref a)) (.cons rfl .nil) (want H (fun c hc => endH_tab (inTs hc)) sq)) fun r s' z => ?_
  cases r with
  | error e => exact (show False from z).elim
  | ok fl => cases fl with
    | next => exact (show False from z).elim
    | brk => exact (show False from z).elim
    | cont => exact (show False from z).elim
    | ret u =>
      obtain ⟨v, H', os, bare, un, hok', rel, q⟩ := z
      have q2 : v = .bl true := q
      subst q2
      have q3 : u = Value.bool true := rel
      subst q3
      have here : ∀ b o, st.heap.get? b = some o → (b ∈ ts ∧ ∃ more : Array Value, s'.heap.get? b = some { cls := .none, data := .fields more }) ∨ (b ∉ ts ∧ s'.heap.get? b = some o) := fun b o e => by
        by_cases m : b ∈ ts
        · obtain ⟨more, z⟩ := un.tbls b #[] (endH_tab m)
          exact .inl ⟨m, _, hok' b _ z⟩
        · refine .inr ⟨m, ?_⟩
          cases q : H b with
          | none => exact un.keep b o e q (fun z => (List.not_mem_nil (show b ∈ ([] : List Addr) from z)).elim) (fun z => (List.not_mem_nil z).elim)
          | some u =>
            rcases endH_inv q with ⟨m2, _⟩ | ⟨_, rfl, _, rfl⟩
            · exact absurd m2 m
            · have z := (hok' b _ (un.frzs b _ _ q)).1
              rw [list] at e
              rw [← Option.some.inj e]
              exact z
      refine ⟨rfl, ⟨fun b o e => ?_, fun b o e => ?_⟩, os, bare⟩
      · rcases here b o e with ⟨m, more, z⟩ | ⟨_, z⟩
        · obtain ⟨c, hc, rfl⟩ := List.mem_map.mp m
          have eT := Option.some.inj ((tab c hc).symm.trans e)
          subst eT
          exact .inr (.inl ⟨((heads c hc).tab (tab c hc)).isCodeTable, rfl, #[], more, rfl, by rw [Array.empty_append]; exact z⟩)
        · exact .inl z
      · rcases here b o e with ⟨_, _, z⟩ | ⟨_, z⟩
        · exact ⟨_, z⟩
        · exact ⟨_, z⟩
/-! ### repr -/
def rRepr (K : PySem.W.Frag) : List V → Hp → VK → Prop := fun xs H Q => ∃ (a : Addr) (d : PyData), xs = [.ref a] ∧ Dp K H (.ref a) d ∧ d.showable = true ∧ d.hasDict = false ∧ d.depth < 100 ∧ d.shown.length ≤ sizeLine ∧ Q (.str d.shown) H
theorem call_reprG {X : Cx} {k : Nat} (noG : X.A.guards = some []) (hr : Room k X.A) : CallR X (.builtin "repr") (rRepr X.K) := by
  intro pins s σ H xs us Q I r h
  obtain ⟨a, d, rfl, hd, h1, h2, h3, h4, q⟩ := h
  obtain ⟨u, rfl, e⟩ := vals1 r
  have e2 : u = Value.ref a := e
  subst e2
  obtain ⟨as, rd⟩ := Dp.reads I d _ _ hd rfl
  refine repr_of_reads' rd h1 (PyData.noDict_hsm h2) noG ?_ (fun _ _ z => z) (fun h' u tk z => ⟨.str _, H, I.kept z, ⟨_, rfl⟩, q⟩) h4
  have := hr.un
  omega
/-! ### a def with a table of code objects -/
structure HereT (K : PySem.W.Frag) (mg : Str → Option Value) (x : Str) (st : Stmt) (c : Addr) : Prop where
  ex : ∃ (f : Addr) (fd : FuncData), FunD K x x (defArgs st) (defBody st) (defScope st) [] [] f fd ∧ mg x = some (.ref f) ∧ fd.code = .ref c
section
variable {P : Program} {w : World} {K : PySem.W.Frag} {mg : Str → Option Value} {base : Heap} {k : Nat} {x : Str} {st : Stmt} {ps : List Str} {sp : Sp} {c : Addr}
theorem calT_mk {N : List Str} (D : HereT K mg x st c) (S : FnScope N ps (defScope st))
    (hb : ∀ (kV doc pm : Value) (an : Option Addr) (cdv ct : Value) (us : List Value), us.length = ps.length → bindArgs (PySem.W.fnOf x x (defArgs st) (defBody st) (defScope st) .none kV doc pm an cdv ct) ⟨us, []⟩ = pure (ps.zip us))
    (len : ∀ vs H Q E, sp vs H Q E → vs.length = ps.length)
    (hbody : ∀ (f : Addr) (cdv : Value) (A : Around) (outer : List Env) (s : Shared) (H : Hp) (vs : List V) (Q : VK) (E : XK), cdv = .ref c → Room k (A.deeper (envOfC x (defScope st) s.heap.objs.size f cdv)) → sp vs H Q E →
      ∃ t, PSs (cxOf CX0 P w K mg base N x (defScope st) f cdv A outer s H E).nox (defBody st) t ∧ t { nx := fun _ H' => Q .non H', rt := Q } (start N vs) H) : CalD P w K mg base (k + 1) x st ps sp := by
  obtain ⟨f, fd, F, g, hc⟩ := D.ex
  have hbs := F.bindsN hb
  have F2 := F
  obtain ⟨_, _, _, _, _, _, _, cdv, _, _, rfl, look, code, _, _⟩ := F2.ex
  refine ⟨f, _, fn_of look code S len fun A outer s H vs Q E hr h => ?_, F, g, hbs⟩
  obtain ⟨t, h1, h2⟩ := hbody f cdv A outer s H vs Q E hc hr h
  exact ⟨t, h1.nox, h2⟩
end
/-! ### heaps in which tables of code objects may have grown -/
def GrO (o o' : HO) : Prop := o' = o ∨ ∃ ps ps' : Array Value, o = .tbl ps ∧ o' = .tbl ps' ∧ TriplesOk ps'.toList
def Gro (H H' : Hp) : Prop := ∀ b o, H b = some o → ∃ o', H' b = some o' ∧ GrO o o'
theorem GrO.trans {a b c : HO} (h : GrO a b) (h2 : GrO b c) : GrO a c := by
  rcases h with rfl | ⟨ps, ps', rfl, rfl, t⟩
  · exact h2
  · rcases h2 with rfl | ⟨qs, qs', _, rfl, t2⟩
    · exact .inr ⟨ps, ps', rfl, rfl, t⟩
    · exact .inr ⟨ps, qs', rfl, rfl, t2⟩
theorem Gro.refl (H : Hp) : Gro H H := fun b o e => ⟨o, e, .inl rfl⟩
theorem Gro.trans {H H1 H2 : Hp} (h : Gro H H1) (h2 : Gro H1 H2) : Gro H H2 := fun b o e => by
  obtain ⟨o1, e1, g1⟩ := h b o e
  obtain ⟨o2, e2, g2⟩ := h2 b o1 e1
  exact ⟨o2, e2, g1.trans g2⟩
theorem Gro.of {H H' : Hp} (h : Same H H') : Gro H H' := fun b o e => ⟨o, h b o e, .inl rfl⟩
theorem Gro.tab {H H' : Hp} {P : Addr} (h : GxR.TabG H P) (t : GxR.Tabbed P H H') : Gro H H' := fun b o e => by
  obtain ⟨ps, hp, _⟩ := h
  obtain ⟨⟨ps', hp', t'⟩, r⟩ := t
  by_cases hb : b = P
  · rw [hb, hp] at e
    cases e
    exact ⟨_, by rw [hb]; exact hp', .inr ⟨ps, ps', rfl, rfl, t'⟩⟩
  · exact ⟨o, by rw [r b hb]; exact e, .inl rfl⟩
theorem Gro.at {H H' : Hp} (h : Gro H H') {b : Addr} {o : HO} (e : H b = some o) (n : ∀ ps, o ≠ .tbl ps := by intro _ z; cases z) : H' b = some o := by
  obtain ⟨o', e', g⟩ := h b o e
  rcases g with rfl | ⟨ps, _, rfl, _⟩
  · exact e'
  · exact absurd rfl (n ps)
theorem Gro.tg {H H' : Hp} {P : Addr} (h : Gro H H') (t : GxR.TabG H P) : GxR.TabG H' P := by
  obtain ⟨ps, hp, tr⟩ := t
  obtain ⟨o', e', g⟩ := h P _ hp
  rcases g with rfl | ⟨_, ps', _, rfl, t'⟩
  · exact ⟨ps, e', tr⟩
  · exact ⟨ps', e', t'⟩
theorem Gro.seq {K : PySem.W.Frag} {H H' : Hp} {a : Addr} {xs : List V} (e : Gro H H') (h : SqL K H a xs) : SqL K H' a xs := by
  rcases h with (h | ⟨o, h⟩) | h
  · exact .inl (.inl (e.at h))
  · exact .inl (.inr ⟨o, e.at h⟩)
  · exact .inr h
theorem Gro.tupS {K : PySem.W.Frag} {H H' : Hp} {a : Addr} {xs : List V} (e : Gro H H') (h : SqT K H a xs) : SqT K H' a xs := by
  rcases h with (h | ⟨o, h⟩) | h
  · exact .inl (.inl (e.at h))
  · exact .inl (.inr ⟨o, e.at h⟩)
  · exact .inr h
mutual
theorem Dp.gro {K : PySem.W.Frag} {H H' : Hp} (s : Gro H H') : ∀ (d : PyData) (v : V), Dp K H v d → Dp K H' v d
  | .none, _, h => by cases h; exact .non
  | .bool b, _, h => by cases h; exact .bl b
  | .int i, _, h => by cases h; exact .int i
  | .str x, _, h => by cases h; exact .str x
  | .list ds, _, h => by
    cases h with
    | lst h1 h2 => exact .lst (s.seq h1) (DpAll.gro s ds _ h2)
  | .tuple ds, _, h => by
    cases h with
    | tup h1 h2 => exact .tup (s.tupS h1) (DpAll.gro s ds _ h2)
  | .dict _, _, h => nomatch h
theorem DpAll.gro {K : PySem.W.Frag} {H H' : Hp} (s : Gro H H') : ∀ (ds : List PyData) (vs : List V), DpAll K H vs ds → DpAll K H' vs ds
  | [], _, h => by cases h; exact .nil
  | d :: ds, _, h => by
    cases h with
    | cons h1 h2 => exact .cons (Dp.gro s d _ h1) (DpAll.gro s ds _ h2)
end
/-- all but the object at a -/
def OffG (a : Addr) (H H' : Hp) : Prop := ∀ b o, b ≠ a → H b = some o → ∃ o', H' b = some o' ∧ GrO o o'
theorem OffG.refl (a : Addr) (H : Hp) : OffG a H H := fun b o _ e => ⟨o, e, .inl rfl⟩
theorem OffG.trans {a : Addr} {H H1 H2 : Hp} (h : OffG a H H1) (h2 : OffG a H1 H2) : OffG a H H2 := fun b o n e => by
  obtain ⟨o1, e1, g1⟩ := h b o n e
  obtain ⟨o2, e2, g2⟩ := h2 b o1 n e1
  exact ⟨o2, e2, g1.trans g2⟩
theorem OffG.of {a : Addr} {H H' : Hp} (h : Gro H H') : OffG a H H' := fun b o _ e => h b o e
theorem OffG.off {a : Addr} {H H' : Hp} (h : Off a H H') : OffG a H H' := fun b o n e => ⟨o, h b o n e, .inl rfl⟩
theorem OffG.at {a : Addr} {H H' : Hp} (h : OffG a H H') {b : Addr} {o : HO} (m : b ≠ a) (e : H b = some o) (n : ∀ ps, o ≠ .tbl ps := by intro _ z; cases z) : H' b = some o := by
  obtain ⟨o', e', g⟩ := h b o m e
  rcases g with rfl | ⟨ps, _, rfl, _⟩
  · exact e'
  · exact absurd rfl (n ps)
theorem OffG.tg {a : Addr} {H H' : Hp} {P : Addr} (h : OffG a H H') (m : P ≠ a) (t : GxR.TabG H P) : GxR.TabG H' P := by
  obtain ⟨ps, hp, tr⟩ := t
  obtain ⟨o', e', g⟩ := h P _ m hp
  rcases g with rfl | ⟨_, ps', _, rfl, t'⟩
  · exact ⟨ps, e', tr⟩
  · exact ⟨ps', e', t'⟩
theorem DeckAt.gro {H H' : Hp} {a : Addr} (h : DeckAt H a) (s : Gro H H') : DeckAt H' a := by
  obtain ⟨x, y, e, h0, h1⟩ := h
  exact ⟨x, y, s.at e, h0, h1⟩
theorem TabG.ne_deck {H : Hp} {a P : Addr} (t : GxR.TabG H P) (h : DeckAt H a) : P ≠ a := fun z => by
  obtain ⟨ps, e, _⟩ := t
  obtain ⟨x, y, e2, _⟩ := h
  rw [z, e2] at e
  cases e
/-! ### the end, for such laws -/
theorem walk_ofG {l : PySem.W.OpenLaw} {n k : Nat} {q : Program} {loose : List Str} {XP : (Str → Option Value) → Heap → Prop} {YP : World → Heap → Prop} {d : DefRec} {x : Str}
    (hn : l.most = some n) (hn2 : n ≤ sizeLine) (hdf : d.params.defaults = []) (hr : Room k callerA)
    (F : ∀ (w : World) (mg : Str → Option Value) (fa : Addr) (h : Heap), YP w h → h.Ns mainGlobals mg → mg d.name = some (.ref fa) →
      ∃ (K : PySem.W.Frag) (fd : FuncData) (cs : List (Addr × Addr)) (sp : Sp), K.In h ∧ (∀ c ∈ cs, h.get? c.2 = some emptyT) ∧ (∀ c ∈ cs, K.lookup c.2 = none) ∧ (∀ c ∈ cs, PySem.W.CodeHd h c.1 c.2) ∧ (∀ (s : Shared) (u : Value), BindsTo s fd ⟨[u], []⟩ [(x, u)]) ∧
        (∀ (H : Hp) (a : Addr) (ns : List Int), ns.length ≤ n → (∀ c ∈ cs, H c.2 = some (.tbl #[])) → SqL K H a (ns.map V.int) → sp [.ref a] H (fun v _ => v = .bl true) fun _ _ _ => False) ∧
        ∀ base : Heap, K.In base → base.Ns mainGlobals mg → (∀ c ∈ cs, GxR.TabB base mg c.1 c.2) → FnG l.prog w K mg base k fa fd [x] sp) :
    PySem.W.WalkO q loose XP YP l.row.toRowW d [] (fun f vs => PySem.call f vs) := by
  refine Att.attach_callB hn hdf fun w s₀ st mg mb fa o pm cd doc a vs ns G Y ho hd hcd hmg hobj hints hlen hbits hg => ?_
  obtain ⟨K, fd, cs, sp, KX, tab, out, heads, bind, want, hF⟩ := F w mg fa _ Y G.T.g hmg
  exact law_callG KX G.T.g G.T.b G.T.builtins G.T.nolimit hg tab out heads G.T.bmain hobj hints (Nat.le_trans hlen hn2) hr hF bind fun H hH hS => want H a ns hlen hH hS
end Ky
/-! ### words as naturals -/
namespace Ky
open PySem PySem.Spec PyProof.Rows L2
theorem or_eq : ∀ (k n m : Nat), n < 2 ^ k → m < 2 ^ k → n ||| m = (n ^^^ m) + (n &&& m)
  | 0, n, m, hn, hm => by
    have e1 : n = 0 := by simpa using hn
    have e2 : m = 0 := by simpa using hm
    subst e1 e2
    rfl
  | k + 1, n, m, hn, hm => by
    have ih := or_eq k (n / 2) (m / 2) (by rw [Nat.pow_succ] at hn; omega) (by rw [Nat.pow_succ] at hm; omega)
    rw [← Nat.or_div_two, ← Nat.xor_div_two, ← Nat.and_div_two] at ih
    have h1 : (n ||| m) % 2 = (n ^^^ m) % 2 + (n &&& m) % 2 := by
      have a1 := Nat.or_mod_two_pow (a := n) (b := m) (n := 1)
      have a2 := Nat.xor_mod_two_pow (a := n) (b := m) (n := 1)
      have a3 := Nat.and_mod_two_pow (a := n) (b := m) (n := 1)
      rw [Nat.pow_one] at a1 a2 a3
      rw [a1, a2, a3]
      rcases Nat.mod_two_eq_zero_or_one n with e | e <;> rcases Nat.mod_two_eq_zero_or_one m with f | f <;> rw [e, f] <;> rfl
    omega
theorem lt_pow_self2 (n m : Nat) : n < 2 ^ (n + m) ∧ m < 2 ^ (n + m) := by
  have h := Nat.lt_two_pow_self (n := n + m)
  omega
theorem bitXor_nat (n m : Nat) : Builtin.bitXor (n : Int) (m : Int) = ((n ^^^ m : Nat) : Int) := by
  have h := or_eq (n + m) n m (lt_pow_self2 n m).1 (lt_pow_self2 n m).2
  show Builtin.bitOr (n : Int) (m : Int) - Builtin.bitAnd (n : Int) (m : Int) = _
  have e2 : Builtin.bitAnd (n : Int) (m : Int) = ((n &&& m : Nat) : Int) := by
    have h1 : (0 : Int) ≤ (n : Int) := by omega
    have h2 : (0 : Int) ≤ (m : Int) := by omega
    unfold Builtin.bitAnd
    simp [h1, h2]
  rw [bitOr_nn (by omega) (by omega), e2, Int.toNat_natCast, Int.toNat_natCast, h]
  omega
/-- how many bits -/
def bl (n : Nat) : Nat := if n = 0 then 0 else n.log2 + 1
theorem bl_int (n : Nat) : Builtin.Int.intBits (n : Int) = bl n := by
  unfold Builtin.Int.intBits bl
  by_cases h : n = 0
  · subst h
    rfl
  · have h1 : ¬ ((n : Int) == 0) = true := by simpa using h
    rw [if_neg h1, if_neg h]
    rfl
theorem bl_le (n w : Nat) : bl n ≤ w ↔ n < 2 ^ w := by
  unfold bl
  by_cases h : n = 0
  · subst h
    rw [if_pos rfl]
    exact ⟨fun _ => Nat.pow_pos (by decide), fun _ => Nat.zero_le _⟩
  · rw [if_neg h]
    have := Nat.log2_lt (n := n) (k := w) h
    omega
/-- the width -/
def wid (n : Nat) : Nat := max 1 (bl n)
theorem wid_of {n f : Nat} (h1 : 1 ≤ f) (h : n < 2 ^ f) (h2 : f = 1 ∨ 2 ^ (f - 1) ≤ n) : f = wid n := by
  have a := (bl_le n f).mpr h
  unfold wid
  rcases h2 with e | e
  · omega
  · have b : ¬ bl n ≤ f - 1 := fun q => by
      have := (bl_le n (f - 1)).mp q
      omega
    omega
/-- the places of the bits below t -/
def plc (n t : Nat) : List Nat := (List.range t).filter fun k => n.testBit k
theorem plc_succ (n t : Nat) : plc n (t + 1) = plc n t ++ if n.testBit t = true then [t] else [] := by
  unfold plc
  rw [List.range_succ, List.filter_append]
  congr 1
  by_cases h : n.testBit t = true
  · rw [if_pos h]
    simp [h]
  · rw [if_neg h]
    simp [h]
theorem plc_more {n t : Nat} (h : n < 2 ^ t) : ∀ d, plc n (t + d) = plc n t
  | 0 => rfl
  | d + 1 => by
    have e : n.testBit (t + d) = false := Nat.testBit_lt_two_pow (Nat.lt_of_lt_of_le h (Nat.pow_le_pow_right (by decide) (Nat.le_add_right _ _)))
    rw [show t + (d + 1) = (t + d) + 1 from rfl, plc_succ, plc_more h d, if_neg (by rw [e]; decide), List.append_nil]
theorem plc_eq {n t s : Nat} (h : n < 2 ^ t) (h2 : n < 2 ^ s) : plc n t = plc n s := by
  rcases Nat.le_total t s with e | e
  · obtain ⟨d, rfl⟩ := Nat.le.dest e
    exact (plc_more h d).symm
  · obtain ⟨d, rfl⟩ := Nat.le.dest e
    exact plc_more h2 d
theorem plc_len (n t : Nat) : (plc n t).length ≤ t := by
  unfold plc
  exact Nat.le_trans (List.length_filter_le _ _) (by rw [List.length_range]; exact Nat.le_refl _)
theorem testBit_mod (n t : Nat) : n.testBit t = decide (n / 2 ^ t % 2 = 1) := Nat.testBit_eq_decide_div_mod_eq
/-- bits by halves -/
theorem low_succ (x t : Nat) : x % 2 ^ (t + 1) = x % 2 ^ t + 2 ^ t * (x / 2 ^ t % 2) := by
  rw [Nat.pow_succ, Nat.mod_mul]
theorem xor_bit (n m t : Nat) : (n ^^^ m) / 2 ^ t % 2 = if n / 2 ^ t % 2 = m / 2 ^ t % 2 then 0 else 1 := by
  have h : (n ^^^ m).testBit t = (n.testBit t ^^ m.testBit t) := Nat.testBit_xor ..
  rw [testBit_mod, testBit_mod, testBit_mod] at h
  rcases Nat.mod_two_eq_zero_or_one (n / 2 ^ t) with e | e <;> rcases Nat.mod_two_eq_zero_or_one (m / 2 ^ t) with f | f <;> rcases Nat.mod_two_eq_zero_or_one ((n ^^^ m) / 2 ^ t) with g | g <;> simp_all
theorem half_pow (n t : Nat) : n / 2 ^ t / 2 = n / 2 ^ (t + 1) := by
  rw [Nat.div_div_eq_div_mul, Nat.pow_succ]
theorem lt_of_div {n t : Nat} (h : n / 2 ^ t = 0) : n < 2 ^ t := by
  have := Nat.div_eq_zero_iff.mp h
  have p : 0 < 2 ^ t := Nat.pow_pos (by decide)
  omega
theorem nat_zero {a : Nat} (h : ¬ decide ((0 : Int) < (a : Int)) = true) : a = 0 := by
  have h1 : ¬ (0 : Int) < (a : Int) := fun e => h (decide_eq_true e)
  omega
theorem nat_pos {a : Nat} (h : decide ((0 : Int) < (a : Int)) = true) : a ≠ 0 := by
  have h1 : (0 : Int) < (a : Int) := of_decide_eq_true h
  omega
theorem cast_half (a : Nat) : (a : Int) / 2 = ((a / 2 : Nat) : Int) := by omega
theorem cast_mod2 (a : Nat) : (a : Int) % 2 = ((a % 2 : Nat) : Int) := by omega
theorem half_lt {a b : Nat} (h : ¬ (a = 0 ∧ b = 0)) : a / 2 + b / 2 < a + b := by omega
theorem half_lt1 {a : Nat} (h : a ≠ 0) : a / 2 < a := by omega
end Ky
/-! ### sums of words -/
namespace Ky
def xorAll (l : List Nat) : Nat := l.foldl (fun a b => a ^^^ b) 0
theorem xor_fold (l : List Nat) : ∀ a, l.foldl (fun a b => a ^^^ b) a = a ^^^ xorAll l := by
  induction l with
  | nil => intro a; show a = a ^^^ 0; rw [Nat.xor_zero]
  | cons x l ih =>
    intro a
    show l.foldl (fun a b => a ^^^ b) (a ^^^ x) = a ^^^ l.foldl (fun a b => a ^^^ b) (0 ^^^ x)
    rw [ih, ih, Nat.zero_xor, Nat.xor_assoc]
theorem xorAll_cons (x : Nat) (l : List Nat) : xorAll (x :: l) = x ^^^ xorAll l := by
  show l.foldl (fun a b => a ^^^ b) (0 ^^^ x) = _
  rw [xor_fold, Nat.zero_xor]
theorem xorAll_append (l m : List Nat) : xorAll (l ++ m) = xorAll l ^^^ xorAll m := by
  unfold xorAll
  rw [List.foldl_append, xor_fold m]
  rfl
theorem xorAll_perm {l m : List Nat} (h : l.Perm m) : xorAll l = xorAll m := by
  induction h with
  | nil => rfl
  | cons x _ ih => rw [xorAll_cons, xorAll_cons, ih]
  | swap x y l => rw [xorAll_cons, xorAll_cons, xorAll_cons, xorAll_cons, ← Nat.xor_assoc, ← Nat.xor_assoc, Nat.xor_comm y x]
  | trans _ _ h1 h2 => rw [h1, h2]
theorem xorAll_lt {k : Nat} : ∀ {l : List Nat}, (∀ n ∈ l, n < 2 ^ k) → xorAll l < 2 ^ k
  | [], _ => Nat.pow_pos (by decide)
  | x :: l, h => by
    rw [xorAll_cons]
    exact Nat.xor_lt_two_pow (h x List.mem_cons_self) (xorAll_lt fun n hn => h n (List.mem_cons_of_mem _ hn))
theorem xorAll_take {l : List Nat} {i n : Nat} (e : l[i]? = some n) : xorAll (l.take (i + 1)) = xorAll (l.take i) ^^^ n := by
  rw [List.take_add_one, e, xorAll_append]
  show _ ^^^ xorAll [n] = _
  rw [xorAll_cons]
  show _ ^^^ (n ^^^ 0) = _
  rw [Nat.xor_zero]
theorem xor_div (a b i : Nat) : (a ^^^ b) / 2 ^ i = (a / 2 ^ i) ^^^ (b / 2 ^ i) := by
  rw [← Nat.shiftRight_eq_div_pow, ← Nat.shiftRight_eq_div_pow, ← Nat.shiftRight_eq_div_pow, Nat.shiftRight_xor_distrib]
theorem xor_mod2 (a b : Nat) : (a ^^^ b) % 2 = (a % 2 + b % 2) % 2 := by
  have z := Nat.xor_mod_two_pow (a := a) (b := b) (n := 1)
  rw [Nat.pow_one] at z
  rw [z]
  rcases Nat.mod_two_eq_zero_or_one a with e | e <;> rcases Nat.mod_two_eq_zero_or_one b with f | f <;> rw [e, f] <;> rfl
theorem sum_bits (i : Nat) : ∀ l : List Nat, (l.map fun n => n / 2 ^ i % 2).sum % 2 = xorAll l / 2 ^ i % 2
  | [] => by
    show 0 % 2 = 0 / 2 ^ i % 2
    rw [Nat.zero_div]
  | x :: l => by
    have ih := sum_bits i l
    rw [xorAll_cons, xor_div, xor_mod2, ← ih, List.map_cons, List.sum_cons]
    omega
theorem half_step (n i : Nat) : n / 2 ^ i / 2 = n / 2 ^ (i + 1) := by
  rw [Nat.div_div_eq_div_mul, Nat.pow_succ]
theorem plc_bl {n t : Nat} (h : n < 2 ^ t) : plc n (bl n) = plc n t := by
  have h1 := (bl_le n t).mpr h
  have h2 := (bl_le n (bl n)).mp (Nat.le_refl _)
  have e := plc_more h2 (t - bl n)
  rw [show bl n + (t - bl n) = t by omega] at e
  exact e.symm
end Ky
/-! ### the promises of the words' functions -/
namespace Ky
open PySem PySem.Spec PyProof.Rows L2
def isIntD : PyData → Int → Bool
  | .int i, l => decide (l ≤ i)
  | _, _ => false
def spIsInt (K : PySem.W.Frag) : Sp := fun vs H Q _ => ∃ (x : V) (d : PyData) (l : Int), vs = [x, .int l] ∧ Dp K H x d ∧ Q (.bl (isIntD d l)) H
def spCheckWord : Sp := fun vs H Q _ => ∃ n : Nat, vs = [.int (n : Int)] ∧ Q .non H
def spAdded : Sp := fun vs H Q _ => ∃ n m : Nat, vs = [.int (n : Int), .int (m : Int)] ∧ Q (.int ((n ^^^ m : Nat) : Int)) H
def intsV (l : List Nat) : List V := l.map fun (k : Nat) => V.int (k : Int)
def spBits : Sp := fun vs H Q _ => ∃ n : Nat, vs = [.int (n : Int)] ∧ bl n ≤ 100000 ∧ ∀ (H' : Hp) (p : Addr), Same H H' → H' p = some (.tup (intsV (plc n (bl n)))) → Q (.ref p) H'
def spWidth : Sp := fun vs H Q _ => ∃ n : Nat, vs = [.int (n : Int)] ∧ Q (.int (wid n : Int)) H
def isWordD : PyData → Nat → Bool
  | .int i, w => decide (0 ≤ i) && decide (i < 2 ^ w)
  | _, _ => false
def spIsWord (K : PySem.W.Frag) : Sp := fun vs H Q _ => ∃ (x : V) (d : PyData) (w : Nat), vs = [.int (w : Int), x] ∧ 1 ≤ w ∧ Dp K H x d ∧ Q (.bl (isWordD d w)) H
/-- a drawn word -/
def spWord : Sp := fun vs H Q _ => ∃ (a : Addr) (most : Nat), vs = [.ref a, .int (most : Int)] ∧ DeckAt H a ∧ most ≤ 1000 ∧ ∀ (n : Nat) (H' : Hp), n < 2 ^ (most + 2) → Off a H H' → DeckAt H' a → Q (.int (n : Int)) H'
def spSum : Sp := fun vs H Q _ => ∃ n m : Nat, vs = [.int (n : Int), .int (m : Int)] ∧ n < 2 ^ 1100 ∧ m < 2 ^ 1100 ∧ ∀ H', Same H H' → Q (.int ((n ^^^ m : Nat) : Int)) H'
def spPower : Sp := fun vs H Q _ => ∃ n : Nat, vs = [.int (n : Int)] ∧ n ≤ 100000 ∧ Q (.int ((2 ^ n : Nat) : Int)) H
def spPlaces : Sp := fun vs H Q _ => ∃ n : Nat, vs = [.int (n : Int)] ∧ bl n ≤ 100000 ∧ ∀ (H' : Hp) (p : Addr), Same H H' → H' p = some (.tup (intsV (plc n (bl n)))) → Q (.ref p) H'
def spWidthL : Sp := fun vs H Q _ => ∃ n : Nat, vs = [.int (n : Int)] ∧ bl n ≤ 100000 ∧ ∀ H', Same H H' → Q (.int (wid n : Int)) H'
def spRight : Sp := fun vs H Q _ => ∃ a : Addr, vs = [.ref a] ∧ DeckAt H a ∧ ∀ H', Off a H H' → Q (.bl true) H'
theorem cmulx {n m a b : Nat} (h1 : n < 2 ^ a) (h2 : m < 2 ^ b) (h : a + b ≤ 134217728) : CMulX (n : Int) (m : Int) := mulx_ok (a := a) (b := b) (by simpa using h1) (by simpa using h2) h
theorem cast_pow (t : Nat) : ((2 ^ t : Nat) : Int) = (2 : Int) ^ t := by
  rw [Int.natCast_pow]
  rfl
theorem bl_pow_le {n w : Nat} (h : n < 2 ^ w) : bl n ≤ w := (bl_le n w).mpr h
theorem intsV_map (l : List Nat) : intsV l = (l.map fun k : Nat => (k : Int)).map V.int := by
  unfold intsV
  rw [List.map_map]
  rfl
/-- two tuples of naturals -/
theorem dpT {K : PySem.W.Frag} {H : Hp} {p : Addr} (l : List Nat) (h : H p = some (.tup (intsV l))) : Dp K H (.ref p) (.tuple ((l.map fun k : Nat => (k : Int)).map PyData.int)) := by
  rw [intsV_map] at h
  exact .tup (SqT.of h) (dpI _)
theorem wid_pos (n : Nat) : 1 ≤ wid n := by
  unfold wid
  omega
theorem wid_lt (n : Nat) : n < 2 ^ wid n := (bl_le n (wid n)).mp (by unfold wid; omega)
theorem wid_le {n w : Nat} (hw : 1 ≤ w) : n < 2 ^ w ↔ wid n ≤ w := by
  have := bl_le n w
  unfold wid
  omega
theorem isWord_nat (n w : Nat) : isWordD (.int (n : Int)) w = decide (n < 2 ^ w) := by
  show (decide (0 ≤ (n : Int)) && decide ((n : Int) < 2 ^ w)) = _
  rw [decide_eq_true (by omega : 0 ≤ (n : Int)), Bool.true_and, ← cast_pow]
  by_cases h : n < 2 ^ w
  · rw [decide_eq_true h, decide_eq_true (Int.ofNat_lt.mpr h)]
  · rw [decide_eq_false h, decide_eq_false (fun e => h (Int.ofNat_lt.mp e))]
theorem isWord_3 (n low : Nat) (h : 1 ≤ low) : [isWordD (.int (n : Int)) (wid n), isWordD (.int (n : Int)) low, isWordD (.int (n : Int)) (wid n + 1)] = [true, decide ((wid n : Int) ≤ (low : Int)), true] := by
  have h1 := wid_lt n
  have h2 : n < 2 ^ (wid n + 1) := Nat.lt_trans h1 (Nat.pow_lt_pow_right (by decide) (by omega))
  rw [isWord_nat, isWord_nat, isWord_nat, decide_eq_true h1, decide_eq_true h2]
  have h3 := wid_le (n := n) h
  by_cases h4 : n < 2 ^ low
  · rw [decide_eq_true h4, decide_eq_true (Int.ofNat_le.mpr (h3.mp h4))]
  · rw [decide_eq_false h4, decide_eq_false (fun e => h4 (h3.mpr (Int.ofNat_le.mp e)))]
theorem isWord_less {n : Nat} (h : 1 < wid n) : isWordD (.int (n : Int)) (wid n - 1) = false := by
  rw [isWord_nat]
  refine decide_eq_false fun e => ?_
  have := (wid_le (n := n) (w := wid n - 1) (by omega)).mp e
  omega
theorem isWord_pow (low : Nat) : [isWordD (.int ((2 ^ low : Nat) : Int)) low, isWordD (.int (((2 ^ low : Nat) : Int) - 1)) low] = [false, true] := by
  have hp : 0 < 2 ^ low := Nat.pow_pos (by decide)
  rw [show (((2 ^ low : Nat) : Int) - 1) = ((2 ^ low - 1 : Nat) : Int) by omega, isWord_nat, isWord_nat, decide_eq_false (Nat.lt_irrefl _), decide_eq_true (by omega)]
theorem isWord_neg {i : Int} (h : i < 0) (w : Nat) : isWordD (.int i) w = false := by
  show (decide (0 ≤ i) && _) = false
  rw [decide_eq_false (by omega), Bool.false_and]
def spCheckNum : Sp := fun vs H Q _ => ∃ n l : Nat, vs = [.int (n : Int), .int (l : Int)] ∧ l ≤ n ∧ Q .non H
def isBelowD : PyData → Int → Bool
  | .int i, t => decide (0 ≤ i) && decide (i < t)
  | _, _ => false
def spIsBelow (K : PySem.W.Frag) : Sp := fun vs H Q _ => ∃ (x : V) (d : PyData) (t : Int), vs = [x, .int t] ∧ Dp K H x d ∧ Q (.bl (isBelowD d t)) H
theorem isBelow_no {d : PyData} {t : Int} (h : ¬ isIntD d 0 = true) : isBelowD d t = isIntD d 0 := by
  cases d with
  | int i =>
    have e : isIntD (.int i) 0 = false := Bool.not_eq_true _ ▸ h
    rw [e]
    show (decide (0 ≤ i) && decide (i < t)) = false
    have e2 : decide (0 ≤ i) = false := e
    rw [e2, Bool.false_and]
  | _ => rfl
theorem isBelow_nat {k t : Nat} (h : k < t) : isBelowD (.int (k : Int)) (t : Int) = true := by
  show (decide (0 ≤ (k : Int)) && decide ((k : Int) < (t : Int))) = true
  rw [decide_eq_true (Int.natCast_nonneg k), decide_eq_true (Int.ofNat_lt.mpr h)]
  rfl
end Ky
/-! ### all(..) over a list or a tuple of data; the bundles that laws with tables need -/
namespace Ky
open PySem PySem.Spec PyProof.Rows L2
/-- a list or a tuple walked -/
def iSeq (K : PySem.W.Frag) (tl : TE) : TI := fun σ H R => tl σ H fun x H1 => ∃ a, x = .ref a ∧ (((∃ xs, SqL K H1 a xs) ∧ R (Itl K a) H1) ∨ ((∃ xs, SqT K H1 a xs) ∧ R (Itt K a) H1))
theorem pi_seq {X : Cx} {tg l : Expr} {tl : TE} (hl : PE X l tl) : PI X tg l (iSeq X.K tl) := by
  refine ⟨fun pins s σ H R I h => thn (hl.run pins s σ H _ I h) fun v s1 ⟨x, H1, I1, r1, a, ex, q⟩ => ?_⟩
  subst ex
  have ev : v = Value.ref a := r1
  subst ev
  have fp : ∀ b ∈ [s1.heap.objs.size], FpOk X pins H1 b := fun b hb => by
    rw [List.mem_singleton.mp hb]
    exact I1.fpOk (Nat.le_refl _) (I1.hok.fresh (Nat.le_refl _))
  have kept : ∀ o : Obj, Inv X pins σ H1 { s1 with heap := s1.heap.push o } := fun o => I1.kept (t' := s1.toks) fun b u z => Heap.get?_push_of_some _ z
  rcases q with ⟨⟨xs, sq⟩, q⟩ | ⟨⟨xs, sq⟩, q⟩
  · obtain ⟨its, rv, p, _⟩ := I1.list sq
    exact wpAny_pyIter_list p.isList ⟨s1.heap.objs.size, [s1.heap.objs.size], _, _, H1, rfl, kept _, turn_list a _, ⟨_, Heap.get?_push_size _ rfl, rfl, rfl⟩, fp, q⟩
  · obtain ⟨its, rv, p, _⟩ := I1.tuple sq
    exact wpAny_pyIter_tuple (show s1.heap.IsTuple a its.toArray from p) ⟨s1.heap.objs.size, [s1.heap.objs.size], _, _, H1, rfl, kept _, turn_tuple a _, ⟨_, Heap.get?_push_size _ rfl, rfl, rfl⟩, fp, q⟩
/-- all(te for x in xs), each item's answer known -/
theorem asks_of {J : It} {xs : List V} {f : Nat → Bool} {σ : L2.St} {vs : List Nat} {i : Nat} {te : TE} {Q : VK} {H0 H2 : Hp} (g : Gro H0 H2)
    (hgo : ∀ k H, k < xs.length → Gro H0 H → J.go k H) (hy : ∀ k H x H', Gro H0 H → J.yld k H x H' → H' = H ∧ xs[k]? = some x) (hs : ∀ H, Gro H0 H → J.stop xs.length H)
    (hw : ∀ v, wipe ((wipe σ vs).set i (some v)) vs = wipe σ vs)
    (el : ∀ k v H, xs[k]? = some v → Gro H0 H → te ((wipe σ vs).set i (some v)) H fun y H4 => y = .bl (f k) ∧ Gro H0 H4)
    (q : ∀ H, Gro H0 H → Q (.bl ((List.range xs.length).all f)) H) : Gx.Asks σ Q i te vs J H2 := by
  refine ⟨xs.length, f, fun k H => Gro H0 H ∧ ∀ j, j < k → f j = true, fun k H => k < xs.length ∧ Gro H0 H ∧ ∀ j, j < k → f j = true, ⟨g, fun j hj => absurd hj (Nat.not_lt_zero _)⟩, fun k H hk hP => ⟨hgo k H hk hP.1, fun x H' hyl => ?_⟩, fun k H hN hb => ⟨hN.2.1, fun j hj => ?_⟩, fun k H hN hb => ?_, fun H hP => ⟨hs H hP.1, ?_⟩⟩
  · obtain ⟨rfl, hx⟩ := hy k H x H' hP.1 hyl
    refine ⟨hw x, ?_⟩
    have z := el k x H' hx hP.1
    have e : (fun (y : V) H4 => y = .bl (f k) ∧ k < xs.length ∧ Gro H0 H4 ∧ ∀ j, j < k → f j = true) = fun (y : V) H4 => y = .bl (f k) ∧ Gro H0 H4 := by
      funext y H4
      exact propext ⟨fun z => ⟨z.1, z.2.2.1⟩, fun z => ⟨z.1, hk, z.2, hP.2⟩⟩
    show te ((wipe σ vs).set i (some x)) H' fun y H4 => y = .bl (f k) ∧ k < xs.length ∧ Gro H0 H4 ∧ ∀ j, j < k → f j = true
    rw [e]
    exact z
  · rcases Nat.lt_succ_iff_lt_or_eq.mp hj with h | rfl
    · exact hN.2.2 j h
    · exact hb
  · have e : (List.range xs.length).all f = false := by
      rw [← Bool.not_eq_true, List.all_eq_true]
      intro z
      rw [z k (List.mem_range.mpr hN.1)] at hb
      cases hb
    have z := q H hN.2.1
    rwa [e] at z
  · have e : (List.range xs.length).all f = true := List.all_eq_true.mpr fun j hj => hP.2 j (List.mem_range.mp hj)
    have z := q H hP.1
    rwa [e] at z
theorem all_get {α : Type} (l : List α) (p : α → Bool) (f : Nat → Bool) (h : ∀ k x, l[k]? = some x → f k = p x) : (List.range l.length).all f = l.all p := by
  rw [Bool.eq_iff_iff, List.all_eq_true, List.all_eq_true]
  constructor
  · intro z x hx
    obtain ⟨k, hk, rfl⟩ := List.getElem_of_mem hx
    rw [← h k _ (List.getElem?_eq_getElem hk)]
    exact z k (List.mem_range.mpr hk)
  · intro z k hk
    have hk := List.mem_range.mp hk
    rw [h k _ (List.getElem?_eq_getElem hk)]
    exact z _ (List.getElem_mem hk)
/-- .. over data -/
theorem asks_data {J : It} {K : PySem.W.Frag} {xs : List V} {ds : List PyData} (p : PyData → Bool) {σ : L2.St} {vs : List Nat} {i : Nat} {te : TE} {Q : VK} {H0 H2 : Hp} (g : Gro H0 H2) (hd : DpAll K H0 xs ds)
    (hgo : ∀ k H, k < xs.length → Gro H0 H → J.go k H) (hy : ∀ k H x H', Gro H0 H → J.yld k H x H' → H' = H ∧ xs[k]? = some x) (hs : ∀ H, Gro H0 H → J.stop xs.length H)
    (hw : ∀ v, wipe ((wipe σ vs).set i (some v)) vs = wipe σ vs)
    (el : ∀ v d H, d ∈ ds → Dp K H v d → Gro H0 H → te ((wipe σ vs).set i (some v)) H fun y H4 => y = .bl (p d) ∧ Gro H0 H4)
    (q : ∀ H, Gro H0 H → Q (.bl (ds.all p)) H) : Gx.Asks σ Q i te vs J H2 := by
  have hl := DpAll.length _ hd
  refine asks_of (xs := xs) (f := fun k => match ds[k]? with | some d => p d | none => true) g hgo hy hs hw (fun k v H hk hg => ?_) fun H hg => ?_
  · have hlt : k < ds.length := by
      rw [← hl]
      exact (List.getElem?_eq_some_iff.mp hk).1
    obtain ⟨v', hv, hdv⟩ := DpAll.get _ hd (List.getElem?_eq_getElem hlt)
    rw [hk] at hv
    cases hv
    have z := el v _ H (List.getElem_mem hlt) (Dp.gro hg _ _ hdv) hg
    simpa only [List.getElem?_eq_getElem hlt] using z
  · rw [hl, all_get ds p _ (fun k x e => by simp only [e])]
    exact q H hg
theorem go_l {K : PySem.W.Frag} {a : Addr} {xs : List V} {H0 : Hp} (h : SqL K H0 a xs) : ∀ k H, k < xs.length → Gro H0 H → (Itl K a).go k H := fun k H hk g => ⟨xs, _, g.seq h, List.getElem?_eq_getElem hk⟩
theorem yl_l {K : PySem.W.Frag} {a : Addr} {xs : List V} {H0 : Hp} (h : SqL K H0 a xs) : ∀ k H x H', Gro H0 H → (Itl K a).yld k H x H' → H' = H ∧ xs[k]? = some x := fun k H x H' g z => ⟨z.1, z.2 xs (g.seq h)⟩
theorem st_l {K : PySem.W.Frag} {a : Addr} {xs : List V} {H0 : Hp} (h : SqL K H0 a xs) : ∀ H, Gro H0 H → (Itl K a).stop xs.length H := fun H g => ⟨xs, g.seq h, Nat.le_refl _⟩
theorem go_t {K : PySem.W.Frag} {a : Addr} {xs : List V} {H0 : Hp} (h : SqT K H0 a xs) : ∀ k H, k < xs.length → Gro H0 H → (Itt K a).go k H := fun k H hk g => ⟨xs, _, g.tupS h, List.getElem?_eq_getElem hk⟩
theorem yl_t {K : PySem.W.Frag} {a : Addr} {xs : List V} {H0 : Hp} (h : SqT K H0 a xs) : ∀ k H x H', Gro H0 H → (Itt K a).yld k H x H' → H' = H ∧ xs[k]? = some x := fun k H x H' g z => ⟨z.1, z.2 xs (g.tupS h)⟩
theorem st_t {K : PySem.W.Frag} {a : Addr} {xs : List V} {H0 : Hp} (h : SqT K H0 a xs) : ∀ H, Gro H0 H → (Itt K a).stop xs.length H := fun H g => ⟨xs, g.tupS h, Nat.le_refl _⟩
/-- a generator expression's scope within a def's -/
theorem genS_by {env : Env} {sc scope : Scope} {x : Str} {n : Nat} (hc : env.cells = cellsFrom n sc.names []) (h1 : scope.kind = .function) (h2 : scope.isCoroutine = false) (h3 : ∀ y ∈ scope.names, y.2 ≠ .cell) (h4 : scope.names.lookup (".0" : Str) = some NameKind.local)
    (h5 : scope.names.lookup x = some .local) (h6 : ∀ y ∈ scope.names, y.2 = .free → sc.names.lookup y.1 = some .cell) : GxR.GenS env scope x := by
  refine ⟨h1, h2, h3, h4, h5, fun y hy hf => ?_⟩
  obtain ⟨c, e⟩ := cell_has (n := n) (h6 y hy hf)
  exact ⟨c, by rw [hc]; exact e⟩
/-- a def's code object, its table -/
abbrev cA (K : PySem.W.Frag) (x : Str) : Addr := (He.cT K (x, none)).1
abbrev tA (K : PySem.W.Frag) (x : Str) : Addr := (He.cT K (x, none)).2
theorem hereT_mk {fa : List He.Fa} {fn : List He.DefD} {K : PySem.W.Frag} {h : Heap} {mg : Str → Option Value} (X : K.In h) (G : h.Ns mainGlobals mg) (c : He.SaysD fa fn K) (i j : Nat) {x : Str} {st : Stmt}
    (hi : fn[i]? = some ⟨(x, none), x, x, defArgs st, defBody st, defScope st, [], []⟩) (hj : fa[j]? = some (.glo x)) : HereT K mg x st (cA K x) := by
  obtain ⟨fd, F⟩ := c.def_ i hi
  have F2 := F
  obtain ⟨_, _, _, _, _, _, _, cdv, _, _, rfl, look, code, _, _⟩ := F2.ex
  obtain ⟨cc, e⟩ := He.codeIn_ref code
  refine ⟨_, _, F, He.glo_ok X G (c.fact j hj), ?_⟩
  have z := He.codeOf_eq look (c := cc) e
  show cdv = Value.ref (He.codeOf K (x, none))
  rw [z]
  exact e
/-- a law over the script's list, the tables of the defs tf at hand -/
def spLawT (K : PySem.W.Frag) (tf : List Str) : Sp := fun vs H Q _ => ∃ (s : Addr) (ns : List Int), vs = [.ref s] ∧ SqL K H s (ns.map V.int) ∧ ns.length ≤ 63 ∧ (∀ x ∈ tf, GxR.TabG H (tA K x)) ∧ ∀ H', Q (.bl true) H'
theorem law_finG {sx : Str} {P : Program} {w : World} {K : PySem.W.Frag} {h : Heap} {mg : Str → Option Value} {fa : Addr} {k : Nat} {st : Stmt} {fs : List He.Fa} {fn : List He.DefD} {ts : List He.Tab} {ex : PySem.W.Frag → Bool} {tf : List Str} (X : K.In h) (G : h.Ns mainGlobals mg)
    (c : He.SaysX fs fn ts (tf.map fun x => (x, none)) ex w h K) (hmg : mg ("law" : Str) = some (.ref fa)) (D : Here K mg "law" st)
    (hb : ∀ (kV doc pm : Value) (an : Option Addr) (cdv ct : Value) (us : List Value), us.length = ([sx] : List Str).length → bindArgs (PySem.W.fnOf "law" "law" (defArgs st) (defBody st) (defScope st) .none kV doc pm an cdv ct) ⟨us, []⟩ = pure (([sx] : List Str).zip us))
    (C : ∀ base : Heap, (∀ x ∈ tf, GxR.TabB base mg (cA K x) (tA K x)) → CalG P w K mg base k "law" st [sx] (spLawT K tf)) :
    ∃ (K : PySem.W.Frag) (fd : FuncData) (cs : List (Addr × Addr)) (sp : Sp), K.In h ∧ (∀ c ∈ cs, h.get? c.2 = some emptyT) ∧ (∀ c ∈ cs, K.lookup c.2 = none) ∧ (∀ c ∈ cs, PySem.W.CodeHd h c.1 c.2) ∧ (∀ (s : Shared) (u : Value), BindsTo s fd ⟨[u], []⟩ [(sx, u)]) ∧
      (∀ (H : Hp) (a : Addr) (ns : List Int), ns.length ≤ 63 → (∀ c ∈ cs, H c.2 = some (.tbl #[])) → SqL K H a (ns.map V.int) → sp [.ref a] H (fun v _ => v = .bl true) fun _ _ _ => False) ∧
      ∀ base : Heap, K.In base → base.Ns mainGlobals mg → (∀ c ∈ cs, GxR.TabB base mg c.1 c.2) → FnG P w K mg base k fa fd [sx] sp := by
  obtain ⟨f, fd, F, g⟩ := D.ex
  have e := hmg.symm.trans g
  cases e
  have b := FunD.bindsA (ps := [sx]) F hb
  have mem : ∀ q ∈ (tf.map fun x => ((x, none) : He.Defn)).map (He.cT K), ∃ x ∈ tf, q = He.cT K (x, none) := fun q hq => by
    obtain ⟨d, hd, rfl⟩ := List.mem_map.mp hq
    obtain ⟨x, hx, rfl⟩ := List.mem_map.mp hd
    exact ⟨x, hx, rfl⟩
  have back : ∀ x ∈ tf, ((x, none) : He.Defn) ∈ tf.map fun x => ((x, none) : He.Defn) := fun x hx => List.mem_map.mpr ⟨x, hx, rfl⟩
  refine ⟨K, fd, (tf.map fun x => ((x, none) : He.Defn)).map (He.cT K), spLawT K tf, X, fun q hq => ?_, fun q hq => ?_, fun q hq => ?_, fun s v => b s [v] rfl, fun H a ns hl hT hS => ⟨a, ns, rfl, hS, hl, fun x hx => ⟨#[], hT _ (List.mem_map.mpr ⟨_, back x hx, rfl⟩), ?_⟩, fun _ => rfl⟩, fun base _ _ hB => ?_⟩
  · obtain ⟨x, hx, rfl⟩ := mem q hq
    exact c.empty _ (back x hx)
  · obtain ⟨x, hx, rfl⟩ := mem q hq
    exact c.out _ (back x hx)
  · obtain ⟨x, hx, rfl⟩ := mem q hq
    exact PySem.W.codeHd_of_K X (c.hd _ (back x hx))
  · trivial
  obtain ⟨f2, fd2, F2, D2, g2, _⟩ := (C base fun x hx => hB _ (List.mem_map.mpr ⟨_, back x hx, rfl⟩)).ex
  have e2 := g.symm.trans g2
  cases e2
  have e3 : fd = fd2 := by
    obtain ⟨_, _, _, _, _, _, _, _, _, _, _, l1, _⟩ := F.ex
    obtain ⟨_, _, _, _, _, _, _, _, _, _, _, l2, _⟩ := D2.ex
    have l3 := l1.symm.trans l2
    injection l3 with l4
    injection l4 with _ _ l5
    injection l5
  rw [e3]
  exact F2
section
variable {X : Cx}
theorem op_neD_at (K : PySem.W.Frag) (e : X.K = K) (hu : X.A.units + 64 < cLine) : OpR X (compareOp .NotEq) (rNeD K) := by subst e; exact op_neD hu
theorem op_eqD_at (K : PySem.W.Frag) (e : X.K = K) (hu : X.A.units + 64 < cLine) : OpR X (compareOp .Eq) (rEqD K) := by subst e; exact op_eqD hu
theorem call_tuple_of_at (K : PySem.W.Frag) (e : X.K = K) : CallR X (.type "tuple") (fun xs H Q => ∃ p ys, xs = [.ref p] ∧ ((SqL K H p ys ∧ ∀ l, H l = none → Q (.ref l) (upd H l (.tup ys))) ∨ (SqT K H p ys ∧ Q (.ref p) H))) := by subst e; exact call_tuple_of
end
end Ky
/-! ### promises of what the words' and the books' functions share -/
namespace Ky
open PySem PySem.Spec PyProof.Rows L2
def areIntsD : PyData → Int → Bool
  | .list ds, l => ds.all fun d => isIntD d l
  | .tuple ds, l => ds.all fun d => isIntD d l
  | _, _ => false
def spAreInts (K : PySem.W.Frag) : Sp := fun vs H Q _ => ∃ (x : V) (d : PyData) (l : Int), vs = [x, .int l] ∧ Dp K H x d ∧ GxR.TabG H (tA K "are_integers") ∧ ∀ H', Gro H H' → Q (.bl (areIntsD d l)) H'
/-- a list or a tuple of words -/
def WordsAt (K : PySem.W.Frag) (H : Hp) (a : Addr) (l : List Nat) : Prop := SqL K H a (intsV l) ∨ SqT K H a (intsV l)
theorem WordsAt.gro {K : PySem.W.Frag} {H H' : Hp} {a : Addr} {l : List Nat} (h : WordsAt K H a l) (g : Gro H H') : WordsAt K H' a l := h.imp g.seq g.tupS
def spAddedAll (K : PySem.W.Frag) : Sp := fun vs H Q _ => ∃ (a : Addr) (l : List Nat), vs = [.ref a] ∧ WordsAt K H a l ∧ GxR.TabG H (tA K "are_integers") ∧ ∀ H', Gro H H' → Q (.int (xorAll l : Int)) H'
/-- what repr asks of a list of ints -/
theorem ints_show : ∀ l : List Int, (∀ i ∈ l, i.natAbs.log2 < 1900) → PyData.showableAll (l.map PyData.int) = true ∧ PyData.hasDictAll (l.map PyData.int) = false ∧ PyData.depthAll (l.map PyData.int) = 0 ∧ PyData.leavesShortAll 1921 (l.map PyData.int) = true ∧ PyData.bulkAll (l.map PyData.int) = l.length ∧ PyData.canLayAll0 (l.map PyData.int) = true
  | [], _ => ⟨rfl, rfl, rfl, rfl, rfl, rfl⟩
  | i :: l, h => by
    obtain ⟨h1, h2, h3, h4, h5, h6⟩ := ints_show l fun j hj => h j (List.mem_cons_of_mem _ hj)
    have hi := h i List.mem_cons_self
    have z : i.natAbs.log2 < 1920 := by omega
    have len : (PyData.shown (.int i)).length ≤ 1921 := PyProof.Rows.int_text_len_1921 z
    refine ⟨?_, ?_, ?_, ?_, ?_, ?_⟩
    · show (decide (i.natAbs.log2 < 1920) && PyData.showableAll (l.map PyData.int)) = true
      rw [h1, decide_eq_true z] <;> rfl
    · show (false || PyData.hasDictAll (l.map PyData.int)) = false
      rw [h2] <;> rfl
    · show max 0 (PyData.depthAll (l.map PyData.int)) = 0
      rw [h3] <;> rfl
    · show (decide ((PyData.shown (.int i)).length ≤ 1921) && PyData.leavesShortAll 1921 (l.map PyData.int)) = true
      rw [h4, decide_eq_true len] <;> rfl
    · show 0 + 1 + PyData.bulkAll (l.map PyData.int) = l.length + 1
      rw [h5]
      omega
    · show (PyData.canLay0 (.int i) && PyData.canLayAll0 (l.map PyData.int)) = true
      rw [h6] <;> rfl
theorem list_show {l : List Int} (h : ∀ i ∈ l, i.natAbs.log2 < 1900) (hl : l.length ≤ 1000) : (PyData.list (l.map PyData.int)).showable = true ∧ (PyData.list (l.map PyData.int)).hasDict = false ∧ (PyData.list (l.map PyData.int)).depth < 100 ∧ (PyData.list (l.map PyData.int)).shown.length ≤ sizeLine ∧ SeqAt.shaped (.list (l.map PyData.int)) = true := by
  obtain ⟨h1, h2, h3, h4, h5, h6⟩ := ints_show l h
  have d : (PyData.list (l.map PyData.int)).depth = 1 := by
    show PyData.depthAll (l.map PyData.int) + 1 = 1
    rw [h3]
  refine ⟨h1, h2, by rw [d]; decide, ?_, ?_⟩
  · have z := PyData.shown_le_bulk 1921 (by decide) (.list (l.map PyData.int)) h4
    have e : (PyData.list (l.map PyData.int)).bulk = l.length := h5
    rw [e] at z
    have e2 : sizeLine = 16777216 := by decide
    omega
  · unfold SeqAt.shaped
    rw [d]
    show (PyData.canLayAll0 (l.map PyData.int) && _) = true
    rw [h6] <;> rfl
/-! ### decks, once more -/
theorem pick_l {K : PySem.W.Frag} {H : Hp} {a p : Addr} (xs : List V) (x y : Int) (hD : DeckAt H a) (hp : H p = none) :
    SqL K (upd (upd H p (.lst xs)) a (.lst [.int x, .int y])) p xs ∧ Off a H (upd (upd H p (.lst xs)) a (.lst [.int x, .int y])) := by
  have n : a ≠ p := by
    obtain ⟨_, _, e, _⟩ := hD
    exact ne_of_none e hp
  exact ⟨SqL.of (by rw [upd_ne n.symm, upd_same]), (Off.of (same_upd hp)).trans (Off.upd _ _ _)⟩
/-- what a law's turn asks: its deck, tables; the deck alone turns -/
def spTurn (K : PySem.W.Frag) (tf : List Str) : Sp := fun vs H Q _ => ∃ a : Addr, vs = [.ref a] ∧ DeckAt H a ∧ (∀ x ∈ tf, GxR.TabG H (tA K x)) ∧ ∀ H', OffG a H H' → Q (.bl true) H'
theorem OffG.gro {a : Addr} {H H1 H2 : Hp} (g : Gro H H1) (n : H a = none) (o : OffG a H1 H2) : Gro H H2 := fun b u e => by
  obtain ⟨u1, e1, g1⟩ := g b u e
  obtain ⟨u2, e2, g2⟩ := o b u1 (ne_of_none e n) e1
  exact ⟨u2, e2, g1.trans g2⟩
/-- the words' list and the deck within a heap that has gone on -/
structure WD (K : PySem.W.Frag) (tf : List Str) (a p : Addr) (l : List Nat) (H H' : Hp) : Prop where
  off : OffG a H H'
  deck : DeckAt H' a
  tabs : ∀ x ∈ tf, GxR.TabG H' (tA K x)
  ne : p ≠ a
  new : H p = none
  list : H' p = some (.lst (intsV l))
section
variable {K : PySem.W.Frag} {tf : List Str} {a p : Addr} {l : List Nat} {H H1 H2 : Hp}
theorem WD.gro (w : WD K tf a p l H H1) (g : Gro H1 H2) : WD K tf a p l H H2 :=
  ⟨w.off.trans (.of g), w.deck.gro g, fun x hx => g.tg (w.tabs x hx), w.ne, w.new, g.at w.list⟩
theorem WD.turn (w : WD K tf a p l H H1) (o : OffG a H1 H2) (d : DeckAt H2 a) : WD K tf a p l H H2 :=
  ⟨w.off.trans o, d, fun x hx => o.tg (TabG.ne_deck (w.tabs x hx) w.deck) (w.tabs x hx), w.ne, w.new, o.at w.ne w.list⟩
theorem WD.put (w : WD K tf a p l H H1) (l' : List Nat) : WD K tf a p l' H (upd H1 p (.lst (intsV l'))) := by
  obtain ⟨x, y, e, h0, h1⟩ := w.deck
  refine ⟨fun b o n e => ?_, ⟨x, y, by rw [upd_ne w.ne.symm]; exact e, h0, h1⟩, fun x hx => ?_, w.ne, w.new, upd_same⟩
  · rw [upd_ne (ne_of_none e w.new)]
    exact w.off b o n e
  · obtain ⟨ps, e, t⟩ := w.tabs x hx
    refine ⟨ps, ?_, t⟩
    rw [upd_ne (fun z => by rw [z, w.list] at e; cases e)]
    exact e
theorem WD.sq (w : WD K tf a p l H H1) : SqL K H1 p (intsV l) := SqL.of w.list
end
theorem intsV_len (l : List Nat) : (intsV l).length = l.length := List.length_map _
theorem intsV_get {l : List Nat} {i : Nat} (h : i < l.length) : (intsV l)[i]? = some (.int (l[i] : Int)) := by
  unfold intsV
  rw [List.getElem?_map, List.getElem?_eq_getElem h]
  rfl
theorem intsV_at {l : List Nat} {i : Nat} {v : V} (e : (intsV l)[i]? = some v) : ∃ n, l[i]? = some n ∧ v = .int (n : Int) := by
  unfold intsV at e
  rw [List.getElem?_map] at e
  cases h : l[i]? with
  | none => rw [h] at e; cases e
  | some n => rw [h] at e; exact ⟨n, rfl, (Option.some.inj e).symm⟩
theorem dpW {K : PySem.W.Frag} {H : Hp} {p : Addr} (l : List Nat) (h : SqL K H p (intsV l)) : Dp K H (.ref p) (.list ((l.map fun k : Nat => (k : Int)).map PyData.int)) := by
  rw [intsV_map] at h
  exact .lst h (dpI _)
theorem words_show {l : List Nat} (h : ∀ n ∈ l, n < 2 ^ 1000) (hl : l.length ≤ 1000) : ∀ i ∈ l.map fun k : Nat => (k : Int), i.natAbs.log2 < 1900 := fun i hi => by
  obtain ⟨n, hn, rfl⟩ := List.mem_map.mp hi
  have h1 := h n hn
  rw [Int.natAbs_natCast]
  by_cases z : n = 0
  · rw [z]; decide
  · have := (Nat.log2_lt z).mpr h1
    omega
theorem sorted_nats {l : List Nat} {ns' : List Int} (h : ns'.Perm (l.map fun k : Nat => (k : Int))) : ∃ l' : List Nat, ns'.map V.int = intsV l' ∧ l'.Perm l := by
  refine ⟨ns'.map Int.toNat, ?_, ?_⟩
  · have key : (ns'.map Int.toNat).map (fun k : Nat => (k : Int)) = ns' := by
      rw [List.map_map]
      refine (List.map_congr_left (g := id) fun i hi => ?_).trans (List.map_id _)
      obtain ⟨k, _, rfl⟩ := List.mem_map.mp (h.mem_iff.mp hi)
      rfl
    rw [intsV_map, key]
  · have z := h.map Int.toNat
    rw [List.map_map] at z
    have e : l.map (Int.toNat ∘ fun k : Nat => (k : Int)) = l := (List.map_congr_left (g := id) fun i _ => rfl).trans (List.map_id _)
    rwa [e] at z
theorem intsV_app (l m : List Nat) : intsV l ++ intsV m = intsV (l ++ m) := by
  unfold intsV
  rw [List.map_append]
theorem intsV_one (n : Nat) : [V.int (n : Int)] = intsV [n] := rfl
/-! ### comprehensions whose elements only read -/
theorem lc_map {K : PySem.W.Frag} {a : Addr} {xs : List V} (f : V → V) {i : Nat} {te : TE} {vs : List Nat} {σ : L2.St} {H1 : Hp} {D : Addr} {Qd : Hp → Prop} (sq : SqL K H1 a xs) (hD : H1 D = none) (hn : xs.length ≤ 1000000)
    (hw : ∀ v, wipe ((wipe σ vs).set i (some v)) vs = wipe σ vs) (el : ∀ x ∈ xs, ∀ H (Q : VK), Q (f x) H → te ((wipe σ vs).set i (some x)) H Q) (hd : Qd (upd H1 D (.lst (xs.map f)))) :
    ∃ W : Nat → Nat → Hp → Prop, (∃ m, W 0 m (upd H1 D (.lst []))) ∧ ∀ i' m H, W i' m H →
      ((Itl K a).stop i' H ∧ Qd H) ∨ ((Itl K a).go i' H ∧ ∃ Nx : Hp → Prop, (∀ H', Nx H' → ∃ m', m' < m ∧ W (i' + 1) m' H') ∧ ∀ x H', (Itl K a).yld i' H x H' → gName i x (wipe σ vs) H' fun σ2 H2 => wipe σ2 vs = wipe σ vs ∧ tYes σ2 H2 fun b H3 =>
        if b = true then te σ2 H3 fun y H4 => ∃ acc, H4 D = some (.lst acc) ∧ acc.length < sizeLine ∧ Nx (upd H4 D (.lst (acc ++ [y]))) else Nx H3) := by
  refine lc_list (fun k H => H = upd H1 D (.lst ((xs.take k).map f))) rfl (fun k H _ e => by rw [e]; exact Same.seq (same_upd hD) sq) (fun k x H e hP => ⟨hw x, ?_⟩) (fun H hP => ?_)
  · subst hP
    refine el x (List.mem_of_getElem? e) _ _ ⟨_, upd_same, ?_, ?_⟩
    · rw [List.length_map, List.length_take]
      exact Nat.lt_of_le_of_lt (Nat.le_trans (Nat.min_le_right _ _) hn) (by decide)
    · rw [upd_upd, List.take_add_one, e, List.map_append]
      rfl
  · rw [hP, List.take_length]
    exact hd
end Ky
/-! ### powers of wide numbers, math.comb, ways to choose -/
namespace Ky
open PySem PySem.Spec PyProof.Rows L2
/-- a ** b of together at most 2 ^ 27 bits -/
def CPowW (i j : Int) : Prop := 0 ≤ j ∧ (Builtin.Int.intBits i : Int) * j ≤ 2 ^ 27
theorem op_powW {X : Cx} : OpR X (binaryOp .Pow) (rI CPowW fun i j => .int (i ^ j.toNat)) := opI fun _ _ _ _ _ _ _ c z => pow_int c.1 c.2 z
theorem powW_ok {i : Int} {a : Nat} (n : Nat) (h : i.natAbs < 2 ^ a) (h2 : a * n ≤ 134217728) : CPowW i (n : Int) := by
  refine ⟨Int.natCast_nonneg _, ?_⟩
  have b := PyProof.Rows.intBits_le h
  have b2 : Builtin.Int.intBits i * n ≤ a * n := Nat.mul_le_mul_right n b
  have e : (Builtin.Int.intBits i : Int) * (n : Int) = ((Builtin.Int.intBits i * n : Nat) : Int) := (Int.natCast_mul _ _).symm
  rw [e]
  have e2 : (2 : Int) ^ 27 = 134217728 := by decide
  rw [e2]
  omega
/-- ways to choose k of n -/
def ch : Nat → Nat → Nat
  | _, 0 => 1
  | 0, _ + 1 => 0
  | n + 1, k + 1 => ch n k + ch n (k + 1)
theorem ch_zero (n : Nat) : ch n 0 = 1 := by cases n <;> rfl
theorem ch_succ (n k : Nat) : ch (n + 1) (k + 1) = ch n k + ch n (k + 1) := rfl
theorem ch_above : ∀ {n k : Nat}, n < k → ch n k = 0
  | 0, k + 1, _ => rfl
  | n + 1, k + 1, h => by rw [ch_succ, ch_above (by omega), ch_above (by omega)]
theorem ch_self : ∀ n : Nat, ch n n = 1
  | 0 => rfl
  | n + 1 => by rw [ch_succ, ch_self n, ch_above (Nat.lt_succ_self n)]
theorem ch_pos : ∀ {n k : Nat}, k ≤ n → 1 ≤ ch n k
  | n, 0, _ => by rw [ch_zero]; exact Nat.le_refl 1
  | n + 1, k + 1, h => by
    rw [ch_succ]
    have := ch_pos (n := n) (k := k) (by omega)
    omega
theorem ch_mono (n k : Nat) : ch n k ≤ ch (n + 1) k := by
  cases k with
  | zero => rw [ch_zero, ch_zero]; exact Nat.le_refl 1
  | succ k => rw [ch_succ]; omega
theorem ch_lt : ∀ n k : Nat, ch n k < 2 ^ (n + 1)
  | n, 0 => by
    rw [ch_zero]
    exact Nat.one_lt_two_pow (by omega)
  | 0, k + 1 => by show 0 < 2; decide
  | n + 1, k + 1 => by
    have h1 := ch_lt n k
    have h2 := ch_lt n (k + 1)
    rw [ch_succ, Nat.pow_succ 2 (n + 1)]
    omega
theorem ch_sym : ∀ a b : Nat, ch (a + b) a = ch (a + b) b
  | 0, b => by rw [ch_zero, Nat.zero_add, ch_self]
  | a + 1, 0 => by rw [ch_zero, Nat.add_zero, ch_self]
  | a + 1, b + 1 => by
    have e1 : ch (a + (b + 1)) a = ch (a + (b + 1)) (b + 1) := ch_sym a (b + 1)
    have e2 : ch (a + 1 + b) (a + 1) = ch (a + 1 + b) b := ch_sym (a + 1) b
    have e3 : a + 1 + (b + 1) = (a + (b + 1)) + 1 := by omega
    have e4 : a + 1 + b = a + (b + 1) := by omega
    rw [e4] at e2
    rw [e3, ch_succ, ch_succ, e1, e2]
    exact Nat.add_comm _ _
theorem ch_flip {n k : Nat} (h : k ≤ n) : ch n (n - k) = ch n k := by
  have := ch_sym k (n - k)
  rw [show k + (n - k) = n by omega] at this
  exact this.symm
section
open PySem.W
theorem fp_up (n : Int) : ∀ k : Nat, Builtin.Math.fallingProduct (n + 1) (k + 1) = (n + 1) * Builtin.Math.fallingProduct n k
  | 0 => by
    rw [mc_fp_succ, mc_fp_zero, mc_fp_zero]
    omega
  | k + 1 => by
    rw [mc_fp_succ (n + 1) (k + 1), fp_up n k, mc_fp_succ n k, Int.mul_assoc]
    have : n + 1 - ((k + 1 : Nat) : Int) = n - (k : Int) := by omega
    rw [this]
theorem ch_fp : ∀ n k : Nat, (ch n k : Int) * Builtin.Math.fallingProduct (k : Int) k = Builtin.Math.fallingProduct (n : Int) k
  | n, 0 => by rw [ch_zero, mc_fp_zero, mc_fp_zero]; rfl
  | 0, k + 1 => by
    have z : Builtin.Math.fallingProduct ((0 : Nat) : Int) (k + 1) = 0 := by
      clear ch_fp
      induction k with
      | zero => rw [mc_fp_succ, mc_fp_zero]; rfl
      | succ k ih => rw [mc_fp_succ, ih]; exact Int.zero_mul _
    rw [z]
    exact Int.zero_mul _
  | n + 1, k + 1 => by
    have h1 := ch_fp n k
    have h2 := ch_fp n (k + 1)
    have e1 := fp_up (k : Int) k
    have e2 := fp_up (n : Int) k
    have e3 := mc_fp_succ (n : Int) k
    have c1 : (((k + 1 : Nat)) : Int) = (k : Int) + 1 := by omega
    have c2 : (((n + 1 : Nat)) : Int) = (n : Int) + 1 := by omega
    rw [c1] at h2 ⊢
    rw [c2]
    rw [e1] at h2 ⊢
    rw [e2, ch_succ, Int.natCast_add, Int.add_mul, h2, e3]
    rw [← h1]
    generalize Builtin.Math.fallingProduct (k : Int) k = z
    generalize (ch n k : Int) = y
    rw [show y * (((k : Int) + 1) * z) = (y * z) * ((k : Int) + 1) by rw [Int.mul_comm ((k : Int) + 1) z, Int.mul_assoc], ← Int.mul_add, Int.mul_comm ((n : Int) + 1)]
    congr 1
    omega
theorem comb_ch {n k : Nat} : mcComb (n : Int) (k : Int) = (ch n k : Int) := by
  by_cases h : n < k
  · rw [mcComb_above (by omega), ch_above h]
    rfl
  · obtain ⟨m, hm, e⟩ : ∃ m : Nat, min (k : Int) ((n : Int) - (k : Int)) = (m : Int) ∧ ch n k = ch n m := by
      by_cases h2 : k ≤ n - k
      · exact ⟨k, by omega, rfl⟩
      · exact ⟨n - k, by omega, (ch_flip (by omega)).symm⟩
    rw [mcComb_at (Int.natCast_nonneg _) (by omega) hm, e, Int.toNat_natCast, ← ch_fp n m]
    have p := mc_fp_pos (n := (m : Int)) m (Int.le_refl _)
    exact Int.mul_ediv_cancel _ (by omega)
end
/-- comb(n, k) -/
def rComb : List V → Hp → VK → Prop := fun vs H Q => ∃ n k : Nat, vs = [.int (n : Int), .int (k : Int)] ∧ n ≤ 18000 ∧ Q (.int (ch n k : Int)) H
theorem cr_comb {X : Cx} : CallR X (.builtin "math.comb") rComb := by
  intro pins s σ H vs us Q I r h
  obtain ⟨n, k, rfl, hn, q⟩ := h
  obtain ⟨t, u, rfl⟩ := Vals.int2 r
  refine PySem.W.mc_comb_v (Int.natCast_nonneg _) (Int.natCast_nonneg _) (by omega) (.inr (by omega)) comb_ch ?_
  exact ⟨.int _, H, I.tok _, ⟨_, rfl⟩, q⟩
/-- the bits of a ceiling -/
theorem ceil_bits {w e : Nat} (he : 1 ≤ e) (hw : 1 ≤ w) (b : Nat) : bl ((w + e - 1) / e - 1) ≤ b ↔ w ≤ 2 ^ b * e := by
  rw [bl_le]
  have hd : 1 ≤ (w + e - 1) / e := (Nat.le_div_iff_mul_le he).mpr (by omega)
  have h1 : (w + e - 1) / e ≤ 2 ^ b ↔ (w + e - 1) / e < 2 ^ b + 1 := Nat.lt_succ_iff.symm
  have h2 : (w + e - 1) / e < 2 ^ b + 1 ↔ w + e - 1 < (2 ^ b + 1) * e := Nat.div_lt_iff_lt_mul he
  have h3 : (2 ^ b + 1) * e = 2 ^ b * e + e := Nat.succ_mul _ _
  have hp : 0 < 2 ^ b := Nat.pow_pos (by decide)
  generalize (w + e - 1) / e = d at *
  generalize 2 ^ b = p at *
  generalize p * e = pe at *
  omega
/-- least b with w ≤ 2 ^ b * e -/
def lb (w e : Nat) : Nat := bl ((w + e - 1) / e - 1)
theorem lb_ok {w e : Nat} (he : 1 ≤ e) (hw : 1 ≤ w) : w ≤ 2 ^ lb w e * e := (ceil_bits he hw _).mp (Nat.le_refl _)
theorem lb_least {w e b : Nat} (he : 1 ≤ e) (hw : 1 ≤ w) (h : b < lb w e) : 2 ^ b * e < w := by
  refine Nat.lt_of_not_le fun z => ?_
  have := (ceil_bits he hw b).mpr z
  unfold lb at h
  omega
theorem lb_mono {w e e2 : Nat} (he : 1 ≤ e) (hw : 1 ≤ w) (h : e ≤ e2) : lb w e2 ≤ lb w e :=
  (ceil_bits (Nat.le_trans he h) hw _).mpr (Nat.le_trans (lb_ok he hw) (Nat.mul_le_mul_left _ h))
/-! ### wells of drawn numbers -/
def WellAt (H : Hp) (a : Addr) (k : Nat) : Prop := ∃ x y z : Int, H a = some (.lst [.int x, .int y, .int z]) ∧ 0 ≤ y ∧ y < 2 ^ 100 ∧ 0 ≤ z ∧ z ≤ (k : Int)
theorem WellAt.same {H H' : Hp} {a : Addr} {k : Nat} (h : WellAt H a k) (s : Same H H') : WellAt H' a k := by
  obtain ⟨x, y, z, e, r⟩ := h
  exact ⟨x, y, z, s _ _ e, r⟩
theorem WellAt.mono {H : Hp} {a : Addr} {j k : Nat} (h : WellAt H a j) (l : j ≤ k) : WellAt H a k := by
  obtain ⟨x, y, z, e, r0, r1, r2, r3⟩ := h
  exact ⟨x, y, z, e, r0, r1, r2, by omega⟩
theorem WellAt.sq {K : PySem.W.Frag} {H : Hp} {a : Addr} {k : Nat} (h : WellAt H a k) : ∃ x y z : Int, SqL K H a [.int x, .int y, .int z] := by
  obtain ⟨x, y, z, e, _⟩ := h
  exact ⟨x, y, z, SqL.of e⟩
def spWell (K : PySem.W.Frag) : Sp := fun vs H Q _ => ∃ (s : Addr) (ns : List Int) (j : Nat), vs = [.ref s, .int (j : Int)] ∧ SqL K H s (ns.map V.int) ∧ j < 1000000 ∧
  ∀ (H' : Hp) (p : Addr), Same H H' → H p = none → WellAt H' p 0 → Q (.ref p) H'
def spDip : Sp := fun vs H Q _ => ∃ (a : Addr) (m k : Nat), vs = [.ref a, .int (m : Int)] ∧ WellAt H a k ∧ k < 1000000 ∧ 0 < m ∧ m < 2 ^ 200 ∧
  ∀ (t : Nat) (H' : Hp), t < m → Off a H H' → WellAt H' a (k + 1) → Q (.int (t : Int)) H'
def spWaysP : Sp := fun vs H Q _ => ∃ k n : Nat, vs = [.int (k : Int), .int (n : Int)] ∧ k ≤ 18000 ∧ Q (.int (ch k n : Int)) H
def spLeastP : Sp := fun vs H Q _ => ∃ u n f : Nat, vs = [.int (u : Int), .int (n : Int), .int (f : Int)] ∧ n ≤ u ∧ u ≤ 2000 ∧ n + f ≤ 2000 ∧ Q (.int (lb (ch u n) (ch (n + f) n) : Int)) H
def spWaysL : Sp := fun vs H Q _ => ∃ k n : Nat, vs = [.int (k : Int), .int (n : Int)] ∧ k ≤ 100000 ∧ n ≤ 100000 ∧ ∀ H', Same H H' → Q (.int (ch k n : Int)) H'
def spLeastL : Sp := fun vs H Q _ => ∃ u n f : Nat, vs = [.int (u : Int), .int (n : Int), .int (f : Int)] ∧ n ≤ u ∧ u ≤ 2000 ∧ n + f ≤ 2000 ∧ ∀ H', Same H H' → Q (.int (lb (ch u n) (ch (n + f) n) : Int)) H'
/-- the row of ways to choose of t things -/
def chRow (t n : Nat) : List V := (List.range (n + 1)).map fun j => V.int (ch t j : Int)
theorem chRow_len (t n : Nat) : (chRow t n).length = n + 1 := by
  unfold chRow
  rw [List.length_map, List.length_range]
theorem chRow_get {t n j : Nat} (h : j ≤ n) : (chRow t n)[j]? = some (V.int (ch t j : Int)) := by
  unfold chRow
  rw [List.getElem?_map, List.getElem?_range (by omega)]
  rfl
theorem chRow_succ (t n : Nat) : V.int 1 :: (List.range n).map (fun j => V.int ((ch t j : Int) + (ch t (j + 1) : Int))) = chRow (t + 1) n := by
  unfold chRow
  rw [List.range_succ_eq_map, List.map_cons, List.map_map]
  refine congr (congrArg List.cons ?_) (List.map_congr_left fun j _ => ?_)
  · rw [ch_zero]
    rfl
  · show V.int ((ch t j : Int) + (ch t (j + 1) : Int)) = V.int ((ch (t + 1) (j + 1) : Nat) : Int)
    rw [ch_succ, Int.natCast_add]
theorem chRow_zero (n : Nat) : V.int 1 :: (List.replicate n [V.int 0]).flatten = chRow 0 n := by
  unfold chRow
  rw [List.range_succ_eq_map, List.map_cons, List.map_map]
  refine congr (congrArg List.cons ?_) ?_
  · rw [ch_zero]
    rfl
  · have e : (List.replicate n [V.int 0]).flatten = List.replicate n (V.int 0) := by
      induction n with
      | zero => rfl
      | succ n ih => rw [List.replicate_succ, List.replicate_succ, List.flatten_cons, ih]; rfl
    rw [e]
    refine List.ext_getElem? fun i => ?_
    rw [List.getElem?_map]
    by_cases h : i < n
    · rw [List.getElem?_range h, List.getElem?_replicate, if_pos h]
      rfl
    · rw [List.getElem?_eq_none (by rw [List.length_replicate]; omega), List.getElem?_eq_none (by rw [List.length_range]; omega)]
      rfl
theorem lb_small {w e a : Nat} (he : 1 ≤ e) (hw : 1 ≤ w) (h : w < 2 ^ a) : lb w e ≤ a := (ceil_bits he hw a).mpr (Nat.le_trans (Nat.le_of_lt h) (Nat.le_mul_of_pos_right _ he))
/-- min of three -/
theorem min3_int (a b c : Int) : nuMin3 (.int a) (.int b) (.int c) = some (.int (min (min a b) c)) := by
  have e : ∀ i j : Int, nuMin2 (.int i) (.int j) = some (.int (min i j)) := fun i j => by
    show some (if decide (j < i) = true then V.int j else V.int i) = _
    by_cases h : j < i
    · rw [decide_eq_true h, if_pos rfl, Int.min_eq_right (by omega)]
    · rw [decide_eq_false h, if_neg (by decide), Int.min_eq_left (by omega)]
  show (nuMin2 (.int a) (.int b)).bind (fun m => nuMin2 m (.int c)) = _
  rw [e]
  exact e _ _
theorem Off.to_same {p : Addr} {H H1 H2 : Hp} (s : Same H H1) (np : H p = none) (o : Off p H1 H2) : Same H H2 := fun b u e => o b u (ne_of_none e np) (s b u e)
theorem WellAt.ne {p q : Addr} {k : Nat} {H : Hp} (w : WellAt H p k) (hq : H q = none) : q ≠ p := by
  obtain ⟨_, _, _, e, _⟩ := w
  exact (ne_of_none e hq).symm
end Ky
/-! ### promises of the books' functions -/
namespace Ky
open PySem PySem.Spec PyProof.Rows L2
def ascFrom (top : Int) : Int → List PyData → Bool
  | _, [] => true
  | l, d :: ds => match d with
    | .int i => decide (l ≤ i) && (decide (i < top) && ascFrom top (i + 1) ds)
    | _ => false
def isAscD : PyData → Int → Bool
  | .tuple ds, top => ascFrom top 0 ds
  | _, _ => false
def spIsAsc (K : PySem.W.Frag) : Sp := fun vs H Q _ => ∃ (x : V) (d : PyData) (top : Int), vs = [x, .int top] ∧ Dp K H x d ∧ Q (.bl (isAscD d top)) H
def rowOk (m : Int) (d : PyData) : Bool := !PyData.eqv d (.tuple []) && isAscD d m
def isBookM : PyData → PyData → Bool
  | .int m, .tuple ds => decide (1 ≤ m) && ds.all (rowOk m)
  | _, _ => false
def isBookD : PyData → Bool
  | .tuple ds => (match ds with
    | [dm, dr] => isBookM dm dr
    | _ => false)
  | _ => false
theorem isBookD_len {ds : List PyData} (h : ds.length ≠ 2) : isBookD (.tuple ds) = false := by
  cases ds with
  | nil => rfl
  | cons d ds => cases ds with
    | nil => rfl
    | cons e ds => cases ds with
      | nil => exact absurd rfl h
      | cons f ds => rfl
def isTup : PyData → Bool
  | .tuple _ => true
  | _ => false
theorem kit_tup (d : PyData) : kitB (tyD d) "tuple" = some (isTup d) := by
  cases d with
  | none => exact (by decide +kernel : kitB "NoneType" "tuple" = some false)
  | bool b => exact (by decide +kernel : kitB "bool" "tuple" = some false)
  | int b => exact (by decide +kernel : kitB "int" "tuple" = some false)
  | str b => exact (by decide +kernel : kitB "str" "tuple" = some false)
  | list b => exact (by decide +kernel : kitB "list" "tuple" = some false)
  | tuple b => exact (by decide +kernel : kitB "tuple" "tuple" = some true)
  | dict b => exact (by decide +kernel : kitB "dict" "tuple" = some false)
def spIsBook (K : PySem.W.Frag) : Sp := fun vs H Q _ => ∃ (x : V) (d : PyData), vs = [x] ∧ Dp K H x d ∧ SeqAt.shaped d = true ∧ GxR.TabG H (tA K "is_book") ∧ ∀ H', Gro H H' → Q (.bl (isBookD d)) H'
def spCheckBook (K : PySem.W.Frag) : Sp := fun vs H Q _ => ∃ (x : V) (d : PyData), vs = [x] ∧ Dp K H x d ∧ SeqAt.shaped d = true ∧ isBookD d = true ∧ GxR.TabG H (tA K "is_book") ∧ ∀ H', Gro H H' → Q .non H'
theorem shaped_in : ∀ {ds : List PyData} {n : Nat}, PyData.canLayAll0 ds = true → PyData.depthAll ds ≤ n → ∀ d ∈ ds, PyData.canLay0 d = true ∧ PyData.depth d ≤ n
  | [], _, _, _, _, hd => by cases hd
  | e :: es, n, h1, h2, d, hd => by
    obtain ⟨c1, c2⟩ := Bool.and_eq_true_iff.mp (show (PyData.canLay0 e && PyData.canLayAll0 es) = true from h1)
    have h3 : max (PyData.depth e) (PyData.depthAll es) ≤ n := h2
    rcases List.mem_cons.mp hd with rfl | hd
    · exact ⟨c1, by omega⟩
    · exact shaped_in c2 (by omega) d hd
theorem shaped_all {ds : List PyData} (h : SeqAt.shaped (.tuple ds) = true) (d : PyData) (hd : d ∈ ds) : SeqAt.shaped d = true := by
  unfold SeqAt.shaped at h
  obtain ⟨h1, h2⟩ := Bool.and_eq_true_iff.mp h
  have h3 : PyData.depthAll ds + 1 ≤ 64 := of_decide_eq_true h2
  obtain ⟨c1, c2⟩ := shaped_in (n := 63) (show PyData.canLayAll0 ds = true from h1) (by omega) d hd
  unfold SeqAt.shaped
  rw [c1, decide_eq_true (by omega)] <;> rfl
/-! ### pages as data -/
abbrev natsD (l : List Nat) : List PyData := (l.map fun k : Nat => (k : Int)).map PyData.int
def rowD (r : List Nat) : PyData := .tuple (natsD r)
def pageD (m : Nat) (rows : List (List Nat)) : PyData := .tuple [.int (m : Int), .tuple (rows.map rowD)]
/-- ascending, below m -/
def Asc (m : Nat) (r : List Nat) : Prop := r.Pairwise (· < ·) ∧ ∀ k ∈ r, k < m
structure Good (m : Nat) (rows : List (List Nat)) : Prop where
  pos : 1 ≤ m
  few : m ≤ 1000
  many : rows.length ≤ 1000
  row : ∀ r ∈ rows, r ≠ [] ∧ Asc m r
theorem natsD_len (l : List Nat) : (natsD l).length = l.length := (List.length_map _).trans (List.length_map _)
theorem asc_from (top : Nat) : ∀ (r : List Nat) (l : Nat), r.Pairwise (· < ·) → (∀ k ∈ r, l ≤ k ∧ k < top) → ascFrom (top : Int) (l : Int) (natsD r) = true
  | [], _, _, _ => rfl
  | k :: r, l, h, hb => by
    have hk := hb k List.mem_cons_self
    have h1 := List.pairwise_cons.mp h
    have ih := asc_from top r (k + 1) h1.2 fun j hj => ⟨h1.1 j hj, (hb j (List.mem_cons_of_mem _ hj)).2⟩
    show (decide ((l : Int) ≤ (k : Int)) && (decide ((k : Int) < (top : Int)) && ascFrom (top : Int) ((k : Int) + 1) (natsD r))) = true
    rw [decide_eq_true (by omega), decide_eq_true (by omega), show ((k : Int) + 1) = ((k + 1 : Nat) : Int) by omega, ih]
    rfl
theorem isAsc_of {m : Nat} {r : List Nat} (h : Asc m r) : isAscD (.tuple (natsD r)) (m : Int) = true := asc_from m r 0 h.1 fun k hk => ⟨Nat.zero_le _, h.2 k hk⟩
theorem Good.book {m : Nat} {rows : List (List Nat)} (g : Good m rows) : isBookD (pageD m rows) = true := by
  show (decide ((1 : Int) ≤ (m : Int)) && (rows.map rowD).all (rowOk (m : Int))) = true
  have h1 := g.pos
  rw [decide_eq_true (by omega), Bool.true_and, List.all_map]
  refine List.all_eq_true.mpr fun r hr => ?_
  obtain ⟨h1, h2⟩ := g.row r hr
  show (!PyData.eqv (.tuple (natsD r)) (.tuple []) && isAscD (.tuple (natsD r)) (m : Int)) = true
  rw [isAsc_of h2]
  cases r with
  | nil => exact absurd rfl h1
  | cons k r => rfl
theorem canLay_nats : ∀ r : List Nat, PyData.canLayAll0 (natsD r) = true
  | [] => rfl
  | k :: r => canLay_nats r
theorem depth_nats : ∀ r : List Nat, PyData.depthAll (natsD r) = 0
  | [] => rfl
  | k :: r => by
    show max 0 (PyData.depthAll (natsD r)) = 0
    rw [depth_nats r] <;> rfl
theorem rows_lay : ∀ rows : List (List Nat), PyData.canLayAll0 (rows.map rowD) = true ∧ PyData.depthAll (rows.map rowD) ≤ 1
  | [] => ⟨rfl, Nat.zero_le _⟩
  | r :: rows => by
    obtain ⟨h1, h2⟩ := rows_lay rows
    constructor
    · show (PyData.canLayAll0 (natsD r) && PyData.canLayAll0 (rows.map rowD)) = true
      rw [h1, canLay_nats] <;> rfl
    · show max (PyData.depthAll (natsD r) + 1) (PyData.depthAll (rows.map rowD)) ≤ 1
      rw [depth_nats]
      omega
theorem page_shaped (m : Nat) (rows : List (List Nat)) : SeqAt.shaped (pageD m rows) = true := by
  obtain ⟨h1, h2⟩ := rows_lay rows
  unfold SeqAt.shaped
  show ((true && (PyData.canLayAll0 (rows.map rowD) && true)) && decide (max 0 (max (PyData.depthAll (rows.map rowD) + 1) 0) + 1 ≤ 64)) = true
  rw [h1, decide_eq_true (by omega)] <;> rfl
/-! ### tuples put together and cut -/
theorem cat_of {K : PySem.W.Frag} {H : Hp} {Q : VK} {a b : Addr} {xs ys : List V} (ha : SqT K H a xs) (hb : SqT K H b ys) (hz : xs.length + ys.length ≤ sizeLine) (q : ∀ p H', Gro H H' → SqT K H' p (xs ++ ys) → Q (.ref p) H') : rCatA K (.ref a) (.ref b) H Q := by
  refine ⟨a, b, xs, ys, rfl, rfl, ha, hb, hz, fun e => q b H (Gro.refl H) ?_, fun _ e => q a H (Gro.refl H) ?_, fun _ _ p hp => q p _ (.of (same_upd hp)) (SqT.of upd_same)⟩
  · rw [e]; exact hb
  · rw [e, List.append_nil]; exact ha
theorem cut_all {xs : List V} {lo hi : Option Int} (h : HT.sIx xs.length 0 lo = 0 ∧ HT.sIx xs.length xs.length hi = xs.length) : cutV xs lo hi = xs := by
  unfold cutV
  rw [h.1, h.2]
  simp
theorem sl_of {K : PySem.W.Frag} {H : Hp} {Q : VK} {a : Addr} {xs : List V} {lo hi : Option Int} (ha : SqT K H a xs) (q : ∀ p H', Gro H H' → SqT K H' p (cutV xs lo hi) → Q (.ref p) H') : rSlA K (.ref a) lo hi H Q :=
  ⟨a, xs, rfl, ha, fun e => q a H (Gro.refl H) (by rw [cut_all e]; exact ha), fun _ p hp => q p _ (.of (same_upd hp)) (SqT.of upd_same)⟩
theorem cut_to {xs : List V} {k : Nat} (h : k ≤ xs.length) : cutV xs none (some (k : Int)) = xs.take k := by
  unfold cutV
  rw [HT.sIx_none, HT.sIx_nat, Nat.min_eq_left h, List.drop_zero, Nat.sub_zero]
theorem cut_from {xs : List V} {k : Nat} (h : k ≤ xs.length) : cutV xs (some (k : Int)) none = xs.drop k := by
  unfold cutV
  rw [HT.sIx_none, HT.sIx_nat, Nat.min_eq_left h]
  exact List.take_of_length_le (by rw [List.length_drop]; exact Nat.le_refl _)
theorem DpAll.app {K : PySem.W.Frag} {H : Hp} {ys : List V} {es : List PyData} (h2 : DpAll K H ys es) : ∀ {xs : List V} {ds : List PyData}, DpAll K H xs ds → DpAll K H (xs ++ ys) (ds ++ es)
  | _, _, .nil => h2
  | _, _, .cons h t => .cons h (DpAll.app h2 t)
theorem DpAll.take {K : PySem.W.Frag} {H : Hp} : ∀ (k : Nat) {xs : List V} {ds : List PyData}, DpAll K H xs ds → DpAll K H (xs.take k) (ds.take k)
  | 0, _, _, _ => .nil
  | _ + 1, _, _, .nil => .nil
  | k + 1, _, _, .cons h t => .cons h (DpAll.take k t)
theorem DpAll.drop {K : PySem.W.Frag} {H : Hp} : ∀ (k : Nat) {xs : List V} {ds : List PyData}, DpAll K H xs ds → DpAll K H (xs.drop k) (ds.drop k)
  | 0, _, _, h => h
  | _ + 1, _, _, .nil => .nil
  | k + 1, _, _, .cons _ t => DpAll.drop k t
/-- a page's parts -/
theorem page_inv {K : PySem.W.Frag} {H : Hp} {x : V} {m : Nat} {rows : List (List Nat)} (h : Dp K H x (pageD m rows)) : ∃ (a b : Addr) (xs : List V), x = .ref a ∧ SqT K H a [.int (m : Int), .ref b] ∧ SqT K H b xs ∧ DpAll K H xs (rows.map rowD) := by
  cases h with
  | tup h1 h2 =>
    cases h2 with
    | cons h3 h4 => cases h4 with
      | cons h5 h6 =>
        cases h6
        cases h3
        cases h5 with
        | tup h7 h8 => exact ⟨_, _, _, rfl, h1, h7, h8⟩
theorem page_mk {K : PySem.W.Frag} {H : Hp} {a b : Addr} {xs : List V} {m : Nat} {rows : List (List Nat)} (h1 : SqT K H a [.int (m : Int), .ref b]) (h2 : SqT K H b xs) (h3 : DpAll K H xs (rows.map rowD)) : Dp K H (.ref a) (pageD m rows) :=
  .tup h1 (.cons (.int _) (.cons (.tup h2 h3) .nil))
/-- a row's items -/
theorem row_inv {K : PySem.W.Frag} {H : Hp} {x : V} {r : List Nat} (h : Dp K H x (rowD r)) : ∃ a, x = .ref a ∧ SqT K H a (intsV r) := by
  have h' : Dp K H x (.tuple (natsD r)) := h
  cases h' with
  | tup h1 h2 =>
    refine ⟨_, rfl, ?_⟩
    have e : ∀ (r : List Nat) (xs : List V), DpAll K H xs (natsD r) → xs = intsV r := by
      intro r
      induction r with
      | nil => intro xs h; cases h; rfl
      | cons k r ih =>
        intro xs h
        have h' : DpAll K H xs (.int (k : Int) :: natsD r) := h
        cases h' with
        | cons h3 h4 =>
          cases h3
          rw [ih _ h4]
          rfl
    rw [← e _ _ h2]
    exact h1
theorem row_mk {K : PySem.W.Frag} {H : Hp} {a : Addr} {r : List Nat} (h : SqT K H a (intsV r)) : Dp K H (.ref a) (rowD r) := by
  rw [intsV_map] at h
  exact .tup h (dpI _)
/-! ### promises -/
def spCheckCell (K : PySem.W.Frag) : Sp := fun vs H Q _ => ∃ (x : V) (m : Nat) (rows : List (List Nat)) (k : Nat), vs = [x, .int (k : Int)] ∧ Dp K H x (pageD m rows) ∧ k < m ∧ Q .non H
def spCheckKey (K : PySem.W.Frag) : Sp := fun vs H Q _ => ∃ (x : V) (m : Nat) (rows : List (List Nat)) (k : Nat), vs = [x, .int (k : Int)] ∧ Dp K H x (pageD m rows) ∧ k < rows.length ∧ Q .non H
def spCheckLot (K : PySem.W.Frag) : Sp := fun vs H Q _ => ∃ (x y : V) (m : Nat) (rows : List (List Nat)) (lot : List Nat), vs = [x, y] ∧ Dp K H x (pageD m rows) ∧ Dp K H y (rowD lot) ∧ Asc rows.length lot ∧ Q .non H
/-- the cells told, once each, ascending -/
def IsRow (cells r : List Nat) : Prop := r.Pairwise (· < ·) ∧ ∀ k, k ∈ r ↔ k ∈ cells
structure Told (m : Nat) (cells : List Nat) : Prop where
  some_ : cells ≠ []
  low : ∀ c ∈ cells, c < m
  few : cells.length ≤ 63
def spRowOf (K : PySem.W.Frag) : Sp := fun vs H Q _ => ∃ (y : Addr) (m : Nat) (cells : List Nat), vs = [.int (m : Int), .ref y] ∧ WordsAt K H y cells ∧ Told m cells ∧ GxR.TabG H (tA K "are_integers") ∧
  ∀ H' p r, Gro H H' → IsRow cells r → SqT K H' p (intsV r) → Q (.ref p) H'
def spWithKey (K : PySem.W.Frag) : Sp := fun vs H Q _ => ∃ (x : V) (y : Addr) (m : Nat) (rows : List (List Nat)) (cells : List Nat), vs = [x, .ref y] ∧ Dp K H x (pageD m rows) ∧ Good m rows ∧ WordsAt K H y cells ∧ Told m cells ∧
  GxR.TabG H (tA K "are_integers") ∧ GxR.TabG H (tA K "is_book") ∧ ∀ H' p r, Gro H H' → IsRow cells r → Dp K H' (.ref p) (pageD m (rows ++ [r])) → Q (.ref p) H'
def spWithoutKey (K : PySem.W.Frag) : Sp := fun vs H Q _ => ∃ (x : V) (m : Nat) (rows : List (List Nat)) (k : Nat), vs = [x, .int (k : Int)] ∧ Dp K H x (pageD m rows) ∧ Good m rows ∧ k < rows.length ∧
  GxR.TabG H (tA K "is_book") ∧ ∀ H' p, Gro H H' → Dp K H' (.ref p) (pageD m (rows.take k ++ rows.drop (k + 1))) → Q (.ref p) H'
/-- the rows at a lot's keys -/
def pick (rows : List (List Nat)) (lot : List Nat) : List (List Nat) := lot.map fun k => rows.getD k []
def spPart (K : PySem.W.Frag) : Sp := fun vs H Q _ => ∃ (x y : V) (m : Nat) (rows : List (List Nat)) (lot : List Nat), vs = [x, y] ∧ Dp K H x (pageD m rows) ∧ Good m rows ∧ Dp K H y (rowD lot) ∧ Asc rows.length lot ∧
  GxR.TabG H (tA K "is_book") ∧ ∀ H' p, Gro H H' → Dp K H' (.ref p) (pageD m (pick rows lot)) → Q (.ref p) H'
theorem asc_from_len : ∀ (r : List Nat) (l m : Nat), r.Pairwise (· < ·) → (∀ k ∈ r, l ≤ k ∧ k < m) → r.length ≤ m - l
  | [], _, _, _, _ => Nat.zero_le _
  | k :: r, l, m, h, hb => by
    obtain ⟨h1, h2⟩ := List.pairwise_cons.mp h
    have hk := hb k List.mem_cons_self
    have ih := asc_from_len r (k + 1) m h2 fun j hj => ⟨h1 j hj, (hb j (List.mem_cons_of_mem _ hj)).2⟩
    rw [List.length_cons]
    omega
theorem asc_len {m : Nat} {r : List Nat} (h : Asc m r) : r.length ≤ m := by
  have := asc_from_len r 0 m h.1 fun k hk => ⟨Nat.zero_le _, h.2 k hk⟩
  omega
theorem lc_mapT {K : PySem.W.Frag} {a : Addr} {xs : List V} (f : V → V) {i : Nat} {te : TE} {vs : List Nat} {σ : L2.St} {H1 : Hp} {D : Addr} {Qd : Hp → Prop} (sq : SqT K H1 a xs) (hD : H1 D = none) (hn : xs.length ≤ 1000000)
    (hw : ∀ v, wipe ((wipe σ vs).set i (some v)) vs = wipe σ vs) (el : ∀ x ∈ xs, ∀ H (Q : VK), Same H1 H → Q (f x) H → te ((wipe σ vs).set i (some x)) H Q) (hd : Qd (upd H1 D (.lst (xs.map f)))) :
    ∃ W : Nat → Nat → Hp → Prop, (∃ m, W 0 m (upd H1 D (.lst []))) ∧ ∀ i' m H, W i' m H →
      ((Itt K a).stop i' H ∧ Qd H) ∨ ((Itt K a).go i' H ∧ ∃ Nx : Hp → Prop, (∀ H', Nx H' → ∃ m', m' < m ∧ W (i' + 1) m' H') ∧ ∀ x H', (Itt K a).yld i' H x H' → gName i x (wipe σ vs) H' fun σ2 H2 => wipe σ2 vs = wipe σ vs ∧ tYes σ2 H2 fun b H3 =>
        if b = true then te σ2 H3 fun y H4 => ∃ acc, H4 D = some (.lst acc) ∧ acc.length < sizeLine ∧ Nx (upd H4 D (.lst (acc ++ [y]))) else Nx H3) := by
  refine lc_tup (fun k H => H = upd H1 D (.lst ((xs.take k).map f))) rfl (fun k H _ e => by rw [e]; exact Same.tupS (same_upd hD) sq) (fun k x H e hP => ⟨hw x, ?_⟩) (fun H hP => ?_)
  · subst hP
    refine el x (List.mem_of_getElem? e) _ _ (same_upd hD) ⟨_, upd_same, ?_, ?_⟩
    · rw [List.length_map, List.length_take]
      exact Nat.lt_of_le_of_lt (Nat.le_trans (Nat.min_le_right _ _) hn) (by decide)
    · rw [upd_upd, List.take_add_one, e, List.map_append]
      rfl
  · rw [hP, List.take_length]
    exact hd
theorem nats_back {ns : List Int} (h : ∀ i ∈ ns, 0 ≤ i) : ns.map V.int = intsV (ns.map Int.toNat) := by
  unfold intsV
  rw [List.map_map]
  refine List.map_congr_left fun i hi => ?_
  show V.int i = V.int ((i.toNat : Nat) : Int)
  rw [Int.toNat_of_nonneg (h i hi)]
theorem isRow_of {cells : List Nat} {ns : List Int} (h1 : ns.Pairwise (· < ·)) (h2 : ∀ k : Int, k ∈ ns ↔ k ∈ cells.map fun k : Nat => (k : Int)) : IsRow cells (ns.map Int.toNat) ∧ ∀ i ∈ ns, 0 ≤ i := by
  have pos : ∀ i ∈ ns, 0 ≤ i := fun i hi => by
    obtain ⟨k, _, rfl⟩ := List.mem_map.mp ((h2 i).mp hi)
    exact Int.natCast_nonneg k
  refine ⟨⟨?_, fun k => ⟨fun hk => ?_, fun hk => ?_⟩⟩, pos⟩
  · rw [List.pairwise_map]
    refine h1.imp_of_mem fun {a b} ha hb hlt => ?_
    have := pos a ha
    have := pos b hb
    omega
  · obtain ⟨i, hi, rfl⟩ := List.mem_map.mp hk
    obtain ⟨j, hj, rfl⟩ := List.mem_map.mp ((h2 i).mp hi)
    exact hj
  · exact List.mem_map.mpr ⟨(k : Int), (h2 k).mpr (List.mem_map.mpr ⟨k, hk, rfl⟩), rfl⟩
/-- the same row -/
theorem isRow_uniq : ∀ {r r' : List Nat}, r.Pairwise (· < ·) → r'.Pairwise (· < ·) → (∀ k, k ∈ r ↔ k ∈ r') → r = r'
  | [], [], _, _, _ => rfl
  | [], b :: r', _, _, h => absurd ((h b).mpr List.mem_cons_self) List.not_mem_nil
  | a :: r, [], _, _, h => absurd ((h a).mp List.mem_cons_self) List.not_mem_nil
  | a :: r, b :: r', h1, h2, h => by
    obtain ⟨p1, p2⟩ := List.pairwise_cons.mp h1
    obtain ⟨q1, q2⟩ := List.pairwise_cons.mp h2
    have e : a = b := by
      rcases List.mem_cons.mp ((h a).mp List.mem_cons_self) with e | e
      · exact e
      · rcases List.mem_cons.mp ((h b).mpr List.mem_cons_self) with f | f
        · exact f.symm
        · have := q1 a e
          have := p1 b f
          omega
    subst e
    congr 1
    refine isRow_uniq p2 q2 fun k => ⟨fun hk => ?_, fun hk => ?_⟩
    · rcases List.mem_cons.mp ((h k).mp (List.mem_cons_of_mem _ hk)) with e | e
      · have := p1 k hk
        omega
      · exact e
    · rcases List.mem_cons.mp ((h k).mpr (List.mem_cons_of_mem _ hk)) with e | e
      · have := q1 k hk
        omega
      · exact e
end Ky
/-! ### set(xs), max(xs) of a list or a tuple of ints -/
namespace Ky
open PySem PySem.Spec PyProof.Rows L2
/-- a set that was just made -/
abbrev bareSet (w : World) : Obj := { cls := .type "set", dict := none, data := .set #[] 0 (.fresh 0 0 (!w.params.followText "set-order")) }
section
variable {P : Program} {w : World} {A : Around} {E : Value → Shared → Prop} {s : Shared}
theorem set_of_list {src : Addr} {elems : Array Value} (nums : List Int) {Goal : Value → Shared → Prop} (calm : A.handled = none) (isL : s.heap.IsList src elems) (vals : IntsAre elems.toList nums) (room : nums.length + 1 < scanBound)
    (then_ : ∀ (hp : Heap) (tk c : Nat), SetR w hp s.heap.objs.size (fun j => decide (j ∈ nums)) c → c ≤ nums.length → (∀ b o, s.heap.get? b = some o → hp.get? b = some o) → Goal (.ref s.heap.objs.size) { s with heap := hp, toks := tk }) :
    wpAny (model P w) A (call (.type "set") [.ref src]) Goal E s := by
  have many : elems.size = nums.length := (Array.length_toList (xs := elems)).symm.trans vals.length
  obtain ⟨c0, tl0, order⟩ := F.called_set.mro
  have f1 := F.called_set.made
  have f2 := F.called_set.sub
  refine wpAny_call (codeAny_of_tree ?_)
  show wpAny _ _ (callAny (.type "set") _) _ _ _
  refine wpAny_pure ⟨Code.quiet_builtin _ (by decide +kernel), codeAny_builtin F.entry_type_call ?_⟩
  rw [Around.under_plain (weight_type_call_type "set" [.ref src] []) rfl]
  have f3 := F.called_set.notType
  have f4 := F.called_set.canCreate
  have f5 := F.typeCall_set_1 (.ref src)
  repeat (any_goals (first | assumption | wp_step))
  refine codeAny_mono (code_set_led1 (.ref src) (E := E) (Q₁ := fun made st => made = .ref s.heap.objs.size ∧ st = { s with heap := s.heap.push (bareSet w) }) ⟨rfl, rfl⟩) fun r st z => ?_
  cases r with
  | error e => exact z
  | ok fl =>
    cases fl with
    | ret made =>
      obtain ⟨rfl, rfl⟩ := z
      have own : (s.heap.push (bareSet w)).get? s.heap.objs.size = some (bareSet w) := Heap.get?_push_size _ rfl
      have ty : Shared.TypeIs { s with heap := s.heap.push (bareSet w) } (.ref s.heap.objs.size) "set" := ⟨_, own, rfl⟩
      have f6 := F.called_set.init.lookup
      have f7 := F.called_set.init.bind (.ref s.heap.objs.size)
      repeat (any_goals (first | assumption | wp_step))
      refine codeAny_mono (codeAny_call_builtin (R := wants (fun r st => r = .none ∧ ∃ hp tk c, st = { s with heap := hp, toks := tk } ∧ SetR w hp s.heap.objs.size (fun j => decide (j ∈ nums)) c ∧ c ≤ nums.length ∧
          (∀ b o, s.heap.get? b = some o → hp.get? b = some o)) E) F.called_set.init.plain F.entry_set_init (check_set_init_1 ty ?_)) fun r2 st2 z2 => ?_
      · obtain ⟨ob, gob, cob, mob, dob⟩ := isL
        obtain ⟨cls0, dict0, data0, slots0⟩ := ob
        simp only at cob mob dob
        subst cob
        have gob' : (s.heap.push (bareSet w)).get? src = some _ := Heap.get?_push_of_some _ gob
        have g1 := F.sub_list_set
        have g2 := F.sub_list_frozenset
        have g3 : (Value.type "list" == Value.type "dict") = false := by decide
        have isL2 : (s.heap.push (bareSet w)).IsList src elems := ⟨_, gob', rfl, mob, dob⟩
        unfold Builtin.«set.__init__» noKeywords Builtin.Frozenset.updateFrom
        generalize hIt : pyIter = IT
        wp_walk
        subst hIt
        refine wpAny_pyIter_list isL2 (wpAny_bind (wpAny_runValue ?_))
        have below : src < s.heap.objs.size := Heap.lt_size gob
        have size1 : (s.heap.push (bareSet w)).objs.size = s.heap.objs.size + 1 := Heap.size_push ..
        have calm3 : A.in1.in1.in1.handled = none := by simp [calm]
        have apart : src ≠ (s.heap.push (bareSet w)).objs.size := by
          rw [size1]
          exact Nat.ne_of_lt (Nat.lt_succ_of_lt below)
        have outside : s.heap.objs.size ∉ [(s.heap.push (bareSet w)).objs.size, src] := fun m => by
          rcases List.mem_cons.mp m with z | z
          · rw [size1] at z
            exact Nat.ne_of_lt (Nat.lt_succ_self _) z
          · exact Nat.ne_of_gt below (List.mem_singleton.mp z)
        have each : ∀ (i : Nat) (v : Value), elems[i]? = some v → ∃ k t, nums[i]? = some k ∧ v = .int k t := fun i v e => by
          have lt : i < nums.length := many ▸ (Array.getElem?_eq_some_iff.mp e).1
          obtain ⟨t, z⟩ := PyProof.Rows.IntsAre.int_at vals i v (by rw [Array.getElem?_toList]; exact e)
          refine ⟨nums[i], t, List.getElem?_eq_getElem lt, z.trans ?_⟩
          rw [List.getD_eq_getElem?_getD, List.getElem?_eq_getElem lt] <;> rfl
        refine set_update_ints ((Walks.list calm3 _ src apart elems).toS) s.heap.objs.size outside nums many room each (elems.size - 0) 0 _ (by omega) (Nat.zero_le _) ⟨⟨_, Heap.get?_push_size _ rfl, rfl, rfl⟩, isL2.push _⟩ ?first ?last
        case first =>
          have there : ((s.heap.push (bareSet w)).push { cls := .type "list_iterator", data := .fields #[.ref src, .int 0 0] }).get? s.heap.objs.size = some (bareSet w) := Heap.get?_push_of_some _ own
          exact ⟨0, Nat.le_refl 0, setR_new_at there⟩
        case last =>
          intro sl c moved le R
          obtain ⟨hp, g, d, tk, os⟩ := sl
          have eg : g = s.gens := moved.gens
          have ed : d = s.drawn := moved.drawn
          have eo : os = s.os := moved.os
          subst eg ed eo
          show wpAny _ _ _ _ _ _
          refine wpAny_pure ?_
          show wpAny _ _ (ret Value.none) _ _ _
          rw [many] at le
          refine wpAny_pure ⟨rfl, hp, tk, c, rfl, R, le, fun b o e => ?_⟩
          have lt := Heap.lt_size e
          refine moved.heap b o (fun m => ?_) (Heap.get?_push_of_some _ (Heap.get?_push_of_some _ e))
          rcases List.mem_cons.mp m with z | z
          · exact Nat.ne_of_lt lt z
          · have z2 := List.mem_singleton.mp z
            rw [size1] at z2
            exact Nat.ne_of_lt (Nat.lt_succ_of_lt lt) z2
      · cases r2 with
        | error e => exact z2
        | ok fl2 =>
          cases fl2 with
          | ret r =>
            obtain ⟨rfl, hp, tk, c, rfl, q1, q2, q3⟩ := z2
            repeat (any_goals (first | assumption | wp_step))
            exact then_ _ _ _ q1 q2 q3
          | _ => exact z2.elim
    | _ => exact z.elim
end
/-- set(xs) -/
def rSetNums (K : PySem.W.Frag) (w : World) : List V → Hp → VK → Prop := fun vs H Q => ∃ (a : Addr) (ns : List Int), vs = [V.ref a] ∧ (SqL K H a (ns.map V.int) ∨ SqT K H a (ns.map V.int)) ∧ ns.length ≤ 1000 ∧
  ∀ (p : Addr) (c : Nat), c ≤ ns.length → H p = none → Q (.ref p) (upd H p (SetO w p (fun j => decide (j ∈ ns)) c))
theorem call_setNums {X : Cx} (hc : X.calm = true) : CallR X (.type "set") (rSetNums X.K X.w) := by
  intro pins s σ H xs us Q I r h
  obtain ⟨a, ns, rfl, sq, few, q⟩ := h
  have sb : ns.length + 1 < scanBound := Nat.lt_of_le_of_lt (Nat.succ_le_succ few) (by decide)
  rw [Vals.ref1 r]
  have fin : ∀ (hp : Heap) (tk c : Nat), SetR X.w hp s.heap.objs.size (fun j => decide (j ∈ ns)) c → c ≤ ns.length → (∀ b o, s.heap.get? b = some o → hp.get? b = some o) → EP X pins σ Q (.ref s.heap.objs.size) { s with heap := hp, toks := tk } := fun hp tk c R le kp => by
    have fr : H s.heap.objs.size = none := I.hok.fresh (Nat.le_refl _)
    exact ⟨.ref _, _, I.laid kp (Nat.le_refl _) (setO_new R), rfl, q _ c le fr⟩
  rcases sq with sq | sq
  · obtain ⟨its, rv, p, _⟩ := I.list sq
    exact set_of_list ns (I.ok.hd hc) p.isList rv.ints sb fin
  · obtain ⟨its, rv, p, _⟩ := I.tuple sq
    exact call_set_tupI ns (I.ok.hd hc) (show s.heap.IsTuple a its.toArray from p) rv.ints sb fin
end Ky
namespace Ky
open PySem PySem.Spec PyProof.Rows L2
theorem depth_ints : ∀ l : List Int, PyData.depthAll (l.map PyData.int) = 0
  | [] => rfl
  | i :: l => by
    show max 0 (PyData.depthAll (l.map PyData.int)) = 0
    rw [depth_ints l] <;> rfl
theorem foldl_max (ns : List Int) : ∀ n : Int, (ns.foldl max n = n ∨ ns.foldl max n ∈ ns) ∧ n ≤ ns.foldl max n ∧ ∀ y ∈ ns, y ≤ ns.foldl max n := by
  induction ns with
  | nil => exact fun n => ⟨.inl rfl, Int.le_refl n, fun y hy => by cases hy⟩
  | cons k ks ih =>
    intro n
    obtain ⟨h1, h2, h3⟩ := ih (max n k)
    have e : (k :: ks).foldl max n = ks.foldl max (max n k) := rfl
    rw [e]
    refine ⟨?_, by omega, fun y hy => ?_⟩
    · rcases h1 with h | h
      · rcases Int.le_total n k with z | z
        · exact .inr (by rw [h, Int.max_eq_right z]; exact List.mem_cons_self)
        · exact .inl (by rw [h, Int.max_eq_left z])
      · exact .inr (List.mem_cons_of_mem _ h)
    · rcases List.mem_cons.mp hy with rfl | hy
      · omega
      · exact h3 y hy
def rMaxS (K : PySem.W.Frag) : List V → Hp → VK → Prop := fun vs H Q => ∃ (a : Addr) (ns : List Int), vs = [V.ref a] ∧ (SqL K H a (ns.map V.int) ∨ SqT K H a (ns.map V.int)) ∧ 0 < ns.length ∧ ∀ m, m ∈ ns → (∀ y, y ∈ ns → y ≤ m) → Q (.int m) H
theorem call_maxS {X : Cx} {k : Nat} (hc : X.calm = true) (hr : Room k X.A) : CallR X (.builtin "max") (rMaxS X.K) := by
  intro pins s σ H xs us Q I r h
  obtain ⟨a, ns, rfl, sq, pos, q⟩ := h
  rcases sq with sq | sq
  · exact cr_max hc pins s σ H _ us Q I r ⟨a, ns, rfl, sq, pos, q⟩
  · rw [Vals.ref1 r]
    obtain ⟨as, rd⟩ := Dp.reads I (.tuple (ns.map PyData.int)) (.ref a) (.ref a) (.tup sq (dpI ns)) rfl
    cases ns with
    | nil => cases pos
    | cons n ns =>
      cases rd with
      | tuple h1 h2 h3 h4 =>
        refine PySem.W.max_tuple_data (I.ok.hd hc) ⟨_, h1, h2, _, h3⟩ h4 ⟨fun x hx y hy => ?_, fun x hx => ?_⟩ ?_ fun i v h' tk bs _ rv kp => ?_
        · obtain ⟨i, _, rfl⟩ := List.mem_map.mp (show x ∈ (n :: ns).map PyData.int from hx)
          obtain ⟨j, _, rfl⟩ := List.mem_map.mp (show y ∈ (n :: ns).map PyData.int from hy)
          rfl
        · obtain ⟨i, _, rfl⟩ := List.mem_map.mp (show x ∈ (n :: ns).map PyData.int from hx)
          exact fun z => by cases z
        · have e := depth_ints (n :: ns)
          have e2 : PyData.depthAll (PyData.int n :: List.map PyData.int ns) = 0 := e
          rw [e2]
          have := hr.un
          omega
        · rw [PySem.W.maxD_ints] at rv
          cases rv
          obtain ⟨m1, m2, m3⟩ := foldl_max ns n
          refine ⟨.int _, H, I.kept kp, ⟨_, rfl⟩, q _ ?_ fun y hy => ?_⟩
          · rcases m1 with z | z
            · rw [z]
              exact List.mem_cons_self
            · exact List.mem_cons_of_mem _ z
          · rcases List.mem_cons.mp hy with rfl | hy
            · exact m2
            · exact m3 y hy
end Ky
/-! ### heaps in which lists may have changed, all else is kept; promises of the laws' own helpers -/
namespace Ky
open PySem PySem.Spec PyProof.Rows L2
def Tup (H H' : Hp) : Prop := ∀ b o, H b = some o → (∀ xs, o ≠ .lst xs) → ∃ o', H' b = some o' ∧ GrO o o'
theorem Tup.refl (H : Hp) : Tup H H := fun b o e _ => ⟨o, e, .inl rfl⟩
theorem Tup.trans {H H1 H2 : Hp} (h : Tup H H1) (h2 : Tup H1 H2) : Tup H H2 := fun b o e n => by
  obtain ⟨o1, e1, g1⟩ := h b o e n
  obtain ⟨o2, e2, g2⟩ := h2 b o1 e1 (by
    rcases g1 with rfl | ⟨_, _, _, rfl, _⟩
    · exact n
    · intro xs z; cases z)
  exact ⟨o2, e2, g1.trans g2⟩
theorem Tup.of {H H' : Hp} (h : Gro H H') : Tup H H' := fun b o e _ => h b o e
theorem Tup.off {a : Addr} {H H' : Hp} {xs : List V} (h : OffG a H H') (n : H a = some (.lst xs)) : Tup H H' := fun b o e m => h b o (fun z => by
  rw [z, n] at e
  exact m xs (Option.some.inj e).symm) e
theorem Tup.deck {a : Addr} {H H' : Hp} (h : OffG a H H') (d : DeckAt H a) : Tup H H' := by
  obtain ⟨x, y, e, _⟩ := d
  exact Tup.off h e
theorem Tup.put {H : Hp} {p : Addr} {xs : List V} (ys : List V) (e : H p = some (.lst xs)) : Tup H (upd H p (.lst ys)) := fun b o e2 n => by
  have hb : b ≠ p := fun z => by
    rw [z, e] at e2
    exact n xs (Option.some.inj e2).symm
  exact ⟨o, by rw [upd_ne hb]; exact e2, .inl rfl⟩
theorem Tup.sqt {K : PySem.W.Frag} {H H' : Hp} {b : Addr} {xs : List V} (t : Tup H H') (h : SqT K H b xs) : SqT K H' b xs := by
  rcases h with (h | ⟨o, h⟩) | h
  · obtain ⟨o', e, g⟩ := t b _ h (by intro _ z; cases z)
    rcases g with rfl | ⟨_, _, z, _⟩
    · exact .inl (.inl e)
    · cases z
  · obtain ⟨o', e, g⟩ := t b _ h (by intro _ z; cases z)
    rcases g with rfl | ⟨_, _, z, _⟩
    · exact .inl (.inr ⟨o, e⟩)
    · cases z
  · exact .inr h
theorem Tup.tg {H H' : Hp} {P : Addr} (t : Tup H H') (h : GxR.TabG H P) : GxR.TabG H' P := by
  obtain ⟨ps, e, tr⟩ := h
  obtain ⟨o', e', g⟩ := t P _ e (by intro _ z; cases z)
  rcases g with rfl | ⟨_, ps', _, rfl, t'⟩
  · exact ⟨ps, e', tr⟩
  · exact ⟨ps', e', t'⟩
theorem Tup.row {K : PySem.W.Frag} {H H' : Hp} {v : V} {r : List Nat} (t : Tup H H') (h : Dp K H v (rowD r)) : Dp K H' v (rowD r) := by
  obtain ⟨a, rfl, s⟩ := row_inv h
  exact row_mk (t.sqt s)
theorem Tup.rows {K : PySem.W.Frag} {H H' : Hp} (t : Tup H H') : ∀ {rows : List (List Nat)} {xs : List V}, DpAll K H xs (rows.map rowD) → DpAll K H' xs (rows.map rowD)
  | [], _, h => by cases h; exact .nil
  | r :: rows, _, h => by
    have h' : DpAll K H _ (rowD r :: rows.map rowD) := h
    cases h' with
    | cons h1 h2 => exact .cons (t.row h1) (Tup.rows t h2)
theorem Tup.page {K : PySem.W.Frag} {H H' : Hp} {v : V} {m : Nat} {rows : List (List Nat)} (t : Tup H H') (h : Dp K H v (pageD m rows)) : Dp K H' v (pageD m rows) := by
  obtain ⟨a, b, xs, rfl, h1, h2, h3⟩ := page_inv h
  exact page_mk (t.sqt h1) (t.sqt h2) (t.rows h3)
/-- a lawful row -/
def RowOk (m : Nat) (r : List Nat) : Prop := r ≠ [] ∧ Asc m r
theorem Asc.mono {m n : Nat} {r : List Nat} (h : Asc m r) (l : m ≤ n) : Asc n r := ⟨h.1, fun k hk => Nat.lt_of_lt_of_le (h.2 k hk) l⟩
theorem asc_range (n : Nat) : Asc n (List.range n) := ⟨List.pairwise_lt_range, fun k hk => List.mem_range.mp hk⟩
theorem asc_snoc {m i : Nat} {r : List Nat} (h : Asc i r) (l : i < m) : Asc (i + 1) (r ++ [i]) := by
  refine ⟨List.pairwise_append.mpr ⟨h.1, List.pairwise_singleton _ _, fun a ha b hb => ?_⟩, fun k hk => ?_⟩
  · rw [List.mem_singleton.mp hb]
    exact h.2 a ha
  · rcases List.mem_append.mp hk with z | z
    · exact Nat.lt_succ_of_lt (h.2 k z)
    · rw [List.mem_singleton.mp z]
      exact Nat.lt_succ_self i
theorem rgV_nats (n : Nat) : rgV 0 (n : Int) = intsV (List.range n) := by
  unfold rgV intsV
  rw [Int.sub_zero, Int.toNat_natCast]
  refine List.map_congr_left fun i _ => ?_
  rw [Int.zero_add]
def spCells (K : PySem.W.Frag) : Sp := fun vs H Q _ => ∃ (a : Addr) (m : Nat), vs = [.ref a, .int (m : Int)] ∧ DeckAt H a ∧ 1 ≤ m ∧ m ≤ 1000 ∧
  ∀ H' p r, OffG a H H' → DeckAt H' a → RowOk m r → H' p = some (.tup (intsV r)) → Q (.ref p) H'
def spPage (K : PySem.W.Frag) : Sp := fun vs H Q _ => ∃ (a : Addr) (most : Nat), vs = [.ref a, .int (most : Int)] ∧ DeckAt H a ∧ 1 ≤ most ∧ most ≤ 100 ∧
  ∀ H' p m rows, OffG a H H' → DeckAt H' a → Good m rows → m ≤ most → rows.length ≤ most → Dp K H' (.ref p) (pageD m rows) → Q (.ref p) H'
def spLot (K : PySem.W.Frag) : Sp := fun vs H Q _ => ∃ (a : Addr) (x : V) (m : Nat) (rows : List (List Nat)), vs = [.ref a, x] ∧ DeckAt H a ∧ Dp K H x (pageD m rows) ∧ rows.length ≤ 1000 ∧
  ∀ H' p lot, OffG a H H' → DeckAt H' a → Asc rows.length lot → SqT K H' p (intsV lot) → Q (.ref p) H'
theorem rows_shaped (rows : List (List Nat)) : SeqAt.shaped (.list (rows.map rowD)) = true := by
  obtain ⟨h1, h2⟩ := rows_lay rows
  unfold SeqAt.shaped
  show (PyData.canLayAll0 (rows.map rowD) && decide (PyData.depthAll (rows.map rowD) + 1 ≤ 64)) = true
  rw [h1, decide_eq_true (by omega)] <;> rfl
theorem nats_shaped (r : List Nat) : SeqAt.shaped (.list (natsD r)) = true := by
  unfold SeqAt.shaped
  show (PyData.canLayAll0 (natsD r) && decide (PyData.depthAll (natsD r) + 1 ≤ 64)) = true
  rw [canLay_nats, depth_nats] <;> rfl
/-- a name that was not there before: new, and not the deck -/
theorem new_at {a p : Addr} {H H1 : Hp} (o : OffG a H H1) (d : DeckAt H1 a) (n : H1 p = none) : p ≠ a ∧ H p = none := by
  have h1 : p ≠ a := by
    obtain ⟨_, _, e, _⟩ := d
    exact (ne_of_none e n).symm
  refine ⟨h1, ?_⟩
  cases z : H p with
  | none => rfl
  | some u =>
    obtain ⟨u', e, _⟩ := o p u h1 z
    rw [e] at n
    cases n
theorem OffG.put {a p : Addr} {H H1 : Hp} {u0 : HO} (h : OffG a H H1) (n : H p = none) : OffG a H (upd H1 p u0) := fun b u nb e => by
  rw [upd_ne (ne_of_none e n)]
  exact h b u nb e
theorem deck_put {a p : Addr} {H1 : Hp} {o : HO} (h : DeckAt H1 a) (n : p ≠ a) : DeckAt (upd H1 p o) a := by
  obtain ⟨x, y, e, h0, h1⟩ := h
  exact ⟨x, y, by rw [upd_ne n.symm]; exact e, h0, h1⟩
/-! ### a page at hand, its rows, within a heap that has gone on -/
structure PG4 (K : PySem.W.Frag) (tf : List Str) (a : Addr) (H : Hp) (g B : Addr) (m : Nat) (rows : List (List Nat)) (H' : Hp) : Prop where
  off : OffG a H H'
  deck : DeckAt H' a
  tabs : ∀ x ∈ tf, GxR.TabG H' (tA K x)
  page : Dp K H' (.ref g) (pageD m rows)
  rows : ∃ xs, SqT K H' B xs ∧ DpAll K H' xs (rows.map rowD)
section
variable {K : PySem.W.Frag} {tf : List Str} {a g B : Addr} {m : Nat} {rows : List (List Nat)} {H H1 H2 : Hp}
theorem PG4.gro (w : PG4 K tf a H g B m rows H1) (h : Gro H1 H2) : PG4 K tf a H g B m rows H2 := by
  obtain ⟨xs, h1, h2⟩ := w.rows
  exact ⟨w.off.trans (.of h), w.deck.gro h, fun x hx => h.tg (w.tabs x hx), Dp.gro h _ _ w.page, xs, h.tupS h1, DpAll.gro h _ _ h2⟩
theorem PG4.turn (w : PG4 K tf a H g B m rows H1) (o : OffG a H1 H2) (d : DeckAt H2 a) : PG4 K tf a H g B m rows H2 := by
  obtain ⟨xs, h1, h2⟩ := w.rows
  have t := Tup.deck o w.deck
  exact ⟨w.off.trans o, d, fun x hx => t.tg (w.tabs x hx), t.page w.page, xs, t.sqt h1, t.rows h2⟩
end
theorem fit_row (n : Nat) {m : Nat} {r : List Nat} (h : Asc m r) (hm : m ≤ 1000) : Fit (n + 2) (rowD r) := by
  have hl := asc_len h
  refine ⟨by rw [natsD_len]; omega, fun e he => ?_⟩
  obtain ⟨i, _, rfl⟩ := List.mem_map.mp he
  exact trivial
theorem fit_page (n : Nat) {m : Nat} {rows : List (List Nat)} (h : Good m rows) : Fit (n + 4) (pageD m rows) := by
  have many := h.many
  refine ⟨(by show 2 < 4611686018427387904; decide), fun e he => ?_⟩
  rcases List.mem_cons.mp he with rfl | he
  · exact trivial
  · rcases List.mem_cons.mp he with rfl | he
    · refine ⟨by rw [List.length_map]; omega, fun e he => ?_⟩
      obtain ⟨r, hr, rfl⟩ := List.mem_map.mp he
      exact fit_row n (h.row r hr).2 h.few
    · cases he
theorem same_l {K : PySem.W.Frag} {H : Hp} {p1 p2 : Addr} {vs ws : List V} {ds : List PyData} (h1 : H p1 = some (.lst vs)) (h2 : H p2 = some (.lst ws)) (d1 : DpAll K H vs ds) (d2 : DpAll K H ws ds) : Dp K H (.ref p1) (.list ds) ∧ Dp K H (.ref p2) (.list ds) :=
  ⟨.lst (SqL.of h1) d1, .lst (SqL.of h2) d2⟩
theorem Good.snoc {m : Nat} {rows : List (List Nat)} {r : List Nat} (g : Good m rows) (h : RowOk m r) (l : rows.length < 1000) : Good m (rows ++ [r]) :=
  ⟨g.pos, g.few, by rw [List.length_append]; exact l, fun x hx => by
    rcases List.mem_append.mp hx with z | z
    · exact g.row x z
    · rw [List.mem_singleton.mp z]; exact h⟩
theorem Good.sub {m : Nat} {rows rows' : List (List Nat)} (g : Good m rows) (h : ∀ r ∈ rows', r ∈ rows) (l : rows'.length ≤ 1000) : Good m rows' := ⟨g.pos, g.few, l, fun x hx => g.row x (h x hx)⟩
theorem pick_mem {rows : List (List Nat)} {lot : List Nat} (h : ∀ k ∈ lot, k < rows.length) : ∀ r ∈ pick rows lot, r ∈ rows := fun r hr => by
  obtain ⟨k, hk, rfl⟩ := List.mem_map.mp hr
  have hlt := h k hk
  rw [List.getD_eq_getElem?_getD, List.getElem?_eq_getElem hlt]
  exact List.getElem_mem hlt
theorem pick_range (rows : List (List Nat)) : pick rows (List.range rows.length) = rows := by
  unfold pick
  refine List.ext_getElem (by simp) fun i h1 h2 => ?_
  simp [List.getD_eq_getElem?_getD, h2]
theorem words_shown {K : PySem.W.Frag} {H : Hp} {y : Addr} {l : List Nat} (h : WordsAt K H y l) (hb : ∀ n ∈ l, n < 2 ^ 1000) (hl : l.length ≤ 1000) :
    ∃ d : PyData, Dp K H (.ref y) d ∧ d.showable = true ∧ d.hasDict = false ∧ d.depth < 100 ∧ d.shown.length ≤ sizeLine := by
  obtain ⟨h1, h2, h3, h4, h5, h6⟩ := ints_show _ (words_show hb hl)
  rcases h with h | h
  · obtain ⟨s1, s2, s3, s4, _⟩ := list_show (words_show hb hl) (by rw [List.length_map]; exact hl)
    exact ⟨_, dpW l h, s1, s2, s3, s4⟩
  · rw [intsV_map] at h
    refine ⟨_, .tup h (dpI _), h1, h2, ?_, ?_⟩
    · show PyData.depthAll (natsD l) + 1 < 100
      rw [h3]
      decide
    · have z := PyData.shown_le_bulk 1921 (by decide) (.tuple (natsD l)) h4
      have e : (PyData.tuple (natsD l)).bulk = (l.map fun k : Nat => (k : Int)).length := h5
      rw [e, List.length_map] at z
      have e2 : sizeLine = 16777216 := by decide
      show (PyData.tuple (natsD l)).shown.length ≤ sizeLine
      omega
/-- xs at the keys of a lot -/
def atV (xs : List V) : V → V
  | .int n => xs.getD n.toNat .non
  | _ => .non
theorem atV_nat {xs : List V} {k : Nat} {v : V} (h : xs[k]? = some v) : atV xs (.int (k : Int)) = v := by
  show xs.getD ((k : Int)).toNat .non = v
  rw [Int.toNat_natCast, List.getD_eq_getElem?_getD, h]
  rfl
theorem atV_rows {K : PySem.W.Frag} {H : Hp} {xs : List V} {rows : List (List Nat)} (h : DpAll K H xs (rows.map rowD)) : ∀ {lot : List Nat}, (∀ k ∈ lot, k < rows.length) → DpAll K H ((intsV lot).map (atV xs)) ((pick rows lot).map rowD)
  | [], _ => .nil
  | k :: lot, each => by
    have hk := each k List.mem_cons_self
    obtain ⟨v, e1, e2⟩ := DpAll.get _ h (i := k) (d := rowD rows[k]) (by rw [List.getElem?_map, List.getElem?_eq_getElem hk]; rfl)
    have e4 : rows.getD k [] = rows[k] := by
      rw [List.getD_eq_getElem?_getD, List.getElem?_eq_getElem hk]
      rfl
    refine .cons ?_ (atV_rows h fun j hj => each j (List.mem_cons_of_mem _ hj))
    show Dp K H (atV xs (.int (k : Int))) (rowD (rows.getD k []))
    rw [atV_nat e1, e4]
    exact e2
theorem atV_ints {l : List Nat} : ∀ {lot : List Nat}, (∀ k ∈ lot, k < l.length) → (intsV lot).map (atV (intsV l)) = intsV (lot.map fun k => l.getD k 0)
  | [], _ => rfl
  | k :: lot, each => by
    have hk := each k List.mem_cons_self
    have ih := atV_ints (lot := lot) fun j hj => each j (List.mem_cons_of_mem _ hj)
    show atV (intsV l) (.int (k : Int)) :: (intsV lot).map (atV (intsV l)) = V.int ((l.getD k 0 : Nat) : Int) :: intsV (lot.map fun k => l.getD k 0)
    rw [ih, atV_nat (intsV_get hk), List.getD_eq_getElem?_getD, List.getElem?_eq_getElem hk]
    rfl
theorem lc_at {K : PySem.W.Frag} {c b : Addr} {xs : List V} {lot : List Nat} {i : Nat} {te : TE} {vs : List Nat} {σ : L2.St} {H1 : Hp} {D : Addr} {Qd : Hp → Prop} (sq : SqT K H1 c (intsV lot)) (hD : H1 D = none) (h2 : SqT K H1 b xs) (each : ∀ k ∈ lot, k < xs.length) (few : lot.length ≤ 1000)
    (hw : ∀ v, wipe ((wipe σ vs).set i (some v)) vs = wipe σ vs) (el : ∀ (k : Nat) (v : V) (H : Hp) (Q : VK), SqT K H b xs → atI xs (k : Int) = some v → Q v H → te ((wipe σ vs).set i (some (.int (k : Int)))) H Q) (hd : Qd (upd H1 D (.lst ((intsV lot).map (atV xs))))) :
    ∃ W : Nat → Nat → Hp → Prop, (∃ m, W 0 m (upd H1 D (.lst []))) ∧ ∀ i' m H, W i' m H →
      ((Itt K c).stop i' H ∧ Qd H) ∨ ((Itt K c).go i' H ∧ ∃ Nx : Hp → Prop, (∀ H', Nx H' → ∃ m', m' < m ∧ W (i' + 1) m' H') ∧ ∀ x H', (Itt K c).yld i' H x H' → gName i x (wipe σ vs) H' fun σ2 H2 => wipe σ2 vs = wipe σ vs ∧ tYes σ2 H2 fun b H3 =>
        if b = true then te σ2 H3 fun y H4 => ∃ acc, H4 D = some (.lst acc) ∧ acc.length < sizeLine ∧ Nx (upd H4 D (.lst (acc ++ [y]))) else Nx H3) := by
  refine lc_mapT (atV xs) sq hD (by rw [intsV_len]; omega) hw (fun v hv H Q hs q => ?_) hd
  obtain ⟨k, hk, rfl⟩ := List.mem_map.mp hv
  have hlt := each k hk
  refine el k xs[k] H Q (Same.tupS hs h2) (atI_nat (List.getElem?_eq_getElem hlt)) ?_
  rw [atV_nat (List.getElem?_eq_getElem hlt)] at q
  exact q
theorem pick_len (rows : List (List Nat)) (lot : List Nat) : (pick rows lot).length = lot.length := List.length_map _
theorem asc_pick {l inner : List Nat} {n : Nat} (hl : Asc n l) (hi : Asc l.length inner) : Asc n (inner.map fun k => l.getD k 0) := by
  have key : ∀ k, k < l.length → ∀ (h : k < l.length), l.getD k 0 = l[k] := fun k _ h => by
    rw [List.getD_eq_getElem?_getD, List.getElem?_eq_getElem h]
    rfl
  refine ⟨?_, fun k hk => ?_⟩
  · rw [List.pairwise_map]
    refine hi.1.imp_of_mem fun {a b} ha hb hlt => ?_
    have h1 := hi.2 a ha
    have h2 := hi.2 b hb
    rw [key a h1 h1, key b h2 h2]
    exact List.pairwise_iff_getElem.mp hl.1 a b h1 h2 hlt
  · obtain ⟨j, hj, rfl⟩ := List.mem_map.mp hk
    have h1 := hi.2 j hj
    rw [key j h1 h1]
    exact hl.2 _ (List.getElem_mem h1)
theorem pick_pick {rows : List (List Nat)} {lot inner : List Nat} (hi : ∀ k ∈ inner, k < lot.length) : pick (pick rows lot) inner = pick rows (inner.map fun k => lot.getD k 0) := by
  unfold pick
  rw [List.map_map]
  refine List.map_congr_left fun k hk => ?_
  have hlt := hi k hk
  show (lot.map fun k => rows.getD k []).getD k [] = rows.getD (lot.getD k 0) []
  rw [List.getD_eq_getElem?_getD, List.getElem?_map, List.getD_eq_getElem?_getD (l := lot), List.getElem?_eq_getElem hlt]
  rfl
theorem asc_cut (n k : Nat) : Asc n ((List.range n).take k ++ (List.range n).drop (k + 1)) := by
  have s : ((List.range n).take k ++ (List.range n).drop (k + 1)).Sublist (List.range n) := by
    have e := List.take_append_drop k (List.range n)
    have h := List.Sublist.append (List.Sublist.refl ((List.range n).take k)) (List.drop_sublist 1 ((List.range n).drop k))
    rw [e, List.drop_drop] at h
    exact h
  exact ⟨List.pairwise_lt_range.sublist s, fun j hj => List.mem_range.mp (s.subset hj)⟩
theorem pick_cut (rows : List (List Nat)) (k : Nat) : pick rows ((List.range rows.length).take k ++ (List.range rows.length).drop (k + 1)) = rows.take k ++ rows.drop (k + 1) := by
  have e := pick_range rows
  unfold pick at e ⊢
  rw [List.map_append, List.map_take, List.map_drop, e]
/-- cells in the list of cells so far -/
theorem inV_nats (c : Nat) : ∀ l : List Nat, inV (.int (c : Int)) (intsV l) = decide (c ∈ l)
  | [] => rfl
  | d :: l => by
    have ih := inV_nats c l
    show (eqV (.int (d : Int)) (.int (c : Int)) || inV (.int (c : Int)) (intsV l)) = _
    rw [ih]
    have e : eqV (V.int (d : Int)) (V.int (c : Int)) = decide (c = d) := by
      show decide ((d : Int) = (c : Int)) = _
      by_cases h : c = d
      · rw [h, decide_eq_true rfl, decide_eq_true rfl]
      · rw [decide_eq_false h, decide_eq_false (fun z => h (by omega))]
    rw [e]
    by_cases h : c = d
    · rw [decide_eq_true h, Bool.true_or, decide_eq_true (by rw [h]; exact List.mem_cons_self)]
    · rw [decide_eq_false h, Bool.false_or]
      by_cases h2 : c ∈ l
      · rw [decide_eq_true h2, decide_eq_true (List.mem_cons_of_mem _ h2)]
      · rw [decide_eq_false h2, decide_eq_false (fun z => by rcases List.mem_cons.mp z with z | z <;> contradiction)]
theorem flat_nats (l : List Nat) : (intsV l).all flatV = true := by
  unfold intsV
  rw [List.all_map]
  exact List.all_eq_true.mpr fun _ _ => rfl
/-- sorted cells, each once -/
theorem sorted_row {l : List Nat} {ns : List Int} (h : ns.Perm (l.map fun k : Nat => (k : Int))) (hs : ns.Pairwise (· ≤ ·)) (hn : l.Nodup) : ∃ r : List Nat, ns.map V.int = intsV r ∧ r.Pairwise (· < ·) ∧ ∀ k, k ∈ r ↔ k ∈ l := by
  have hp : ∀ i ∈ ns, 0 ≤ i := fun i hi => by
    obtain ⟨k, _, e⟩ := List.mem_map.mp (h.mem_iff.mp hi)
    omega
  have hm : (ns.map Int.toNat).Perm l := by
    have := h.map Int.toNat
    rw [List.map_map] at this
    have e : l.map (Int.toNat ∘ fun k : Nat => (k : Int)) = l := by
      have : (Int.toNat ∘ fun k : Nat => (k : Int)) = id := funext fun k => Int.toNat_natCast k
      rw [this, List.map_id]
    rw [e] at this
    exact this
  refine ⟨ns.map Int.toNat, nats_back hp, ?_, fun k => hm.mem_iff⟩
  have h1 : (ns.map Int.toNat).Nodup := hm.nodup_iff.mpr hn
  have h2 : (ns.map Int.toNat).Pairwise (· ≤ ·) := by
    rw [List.pairwise_map]
    exact hs.imp fun h => Int.toNat_le_toNat h
  exact (List.Pairwise.and h2 h1).imp fun ⟨a, b⟩ => Nat.lt_of_le_of_ne a b
end Ky
/-! ### t[::-1] of a tuple -/
namespace Ky
open PySem PySem.Spec PyProof.Rows L2
theorem adjust_rev (n : Nat) : Builtin.Slice.sliceAdjust none none (-1) (n : Int) = ((n : Int) - 1, -1) := by
  unfold Builtin.Slice.sliceAdjust
  simp
theorem places_rev (n : Nat) : Builtin.Slice.slicePlaces ((n : Int) - 1) (-1) (-1) = n := by
  unfold Builtin.Slice.slicePlaces
  simp
  omega
theorem fm_congr {α β : Type} {f g : α → Option β} : ∀ {l : List α}, (∀ x ∈ l, f x = g x) → l.filterMap f = l.filterMap g
  | [], _ => rfl
  | a :: l, h => by
    rw [List.filterMap_cons, List.filterMap_cons, h a List.mem_cons_self, fm_congr fun x hx => h x (List.mem_cons_of_mem _ hx)]
theorem pick_rev (xs : Array Value) : ((List.range xs.size).filterMap fun (m : Nat) => xs[(((xs.size : Int) - 1) + (m : Int) * -1).toNat]?).toArray = xs.toList.reverse.toArray := by
  have e : ((List.range xs.size).filterMap fun (m : Nat) => xs[(((xs.size : Int) - 1) + (m : Int) * -1).toNat]?) = xs.toList.reverse := by
    have h : ((List.range xs.size).filterMap fun (m : Nat) => xs[(((xs.size : Int) - 1) + (m : Int) * -1).toNat]?) = ((List.range xs.size).map fun k => xs.size - 1 - k).filterMap (xs[·]?) := by
      rw [List.filterMap_map]
      refine fm_congr fun m hm => ?_
      have := List.mem_range.mp hm
      show xs[(((xs.size : Int) - 1) + (m : Int) * -1).toNat]? = xs[xs.size - 1 - m]?
      congr 1
      omega
    rw [h, PySem.W.krv_range, List.filterMap_reverse, PySem.W.krv_all]
  rw [e]
section
variable {prog : Program} {w : World} {A : Around} {E : Value → Shared → Prop} {s : Shared}
theorem applied_rev {sl : Addr} {vs : Value} {n : Nat} {Goal : Int × Int × Nat → Shared → Prop} (isS : s.heap.IsSliceOf sl .none .none vs) (step : IsPart vs (some (-1))) (then_ : Goal ((n : Int) - 1, -1, n) s) :
    wpAny (model prog w) A (Builtin.Slice.sliceApplied (.ref sl) (pure (n : Int))) Goal E s := by
  obtain ⟨ob, g, c, d⟩ := id isS
  unfold Builtin.Slice.sliceApplied Builtin.Slice.sliceFields
  refine wpAny_bind (wpAny_bind (wpAny_field g d (x := .none) rfl (wpAny_bind (wpAny_field g d (x := .none) rfl (wpAny_bind (wpAny_field g d (x := vs) rfl (wpAny_pure ?_)))))))
  refine wpAny_bind (HT.slicePart_ step ?_)
  show wpAny _ _ (if ((-1 : Int) == 0) = true then _ else _) _ _ s
  rw [if_neg (by decide)]
  refine wpAny_bind (slicePart_none (wpAny_bind (slicePart_none (wpAny_bind (wpAny_pure ?_)))))
  show wpAny _ _ (match Builtin.Slice.sliceAdjust none none (-1) (n : Int) with | (lo, hi) => pure (lo, (-1 : Int), Builtin.Slice.slicePlaces lo hi (-1))) _ _ s
  rw [adjust_rev n]
  show wpAny _ _ (pure ((n : Int) - 1, (-1 : Int), Builtin.Slice.slicePlaces ((n : Int) - 1) (-1) (-1))) _ _ s
  rw [places_rev]
  exact wpAny_pure then_
theorem item_rev {t sl : Addr} {items : Array Value} {vs : Value} {Goal : Value → Shared → Prop} (isT : IsTup s.heap t items) (isS : s.heap.IsSliceOf sl .none .none vs) (step : IsPart vs (some (-1)))
    (then_ : Goal (.ref s.heap.objs.size) { s with heap := s.heap.push { cls := .type "tuple", data := .seq items.toList.reverse.toArray } }) (room : items.size ≤ sizeLine) : wpAny (model prog w) A (getItem (.ref t) (.ref sl)) Goal E s := by
  have fits : sizeOk (.seq items.toList.reverse.toArray) := by
    show items.toList.reverse.toArray.size ≤ sizeLine
    rw [List.size_toArray, List.length_reverse, Array.length_toList]
    exact room
  obtain ⟨ob, g, c, d⟩ := id isS
  have ty : s.TypeIs (.ref sl) "slice" := ⟨ob, g, c⟩
  unfold getItem
  try with_reducible refine wpAny_holding ?_
  first | refine wpAny_bind (wpAny_pure ?_) | skip
  refine wpAny_bind (wpAny_sequenceKey isT.typeIs (by decide) ?_)
  refine wpAny_bind (wpAny_callSpecial?_slot (name := Str.ofString "__getitem__") isT.typeIs PyProof.Rows.slot_tuple_getitem (wpAny_call_entry PyProof.Rows.slot_tuple_getitem isT.typeIs entry_tuple_getitem ?_ (args_tuple_getitem _ _)))
  show wpAny _ _ (Builtin.Tuple.tupleItemsOf (.ref t) >>= _) _ _ s
  refine wpAny_bind (PyProof.Rows.tupleItemsOf_ isT (wpAny_bind (wpAny_typeOf ty ?_)))
  rw [if_pos (by decide)]
  refine wpAny_bind (applied_rev isS step ?_)
  have differs : ¬ ((((items.size : Int) - 1) == 0 && (-1 : Int) == 1 && items.size == items.size) = true) := by
    have e : ((-1 : Int) == 1) = false := by decide
    rw [e, Bool.and_false, Bool.false_and]
    exact Bool.false_ne_true
  show wpAny _ _ (if (((items.size : Int) - 1) == 0 && (-1 : Int) == 1 && items.size == items.size) = true then _ else _) _ _ s
  rw [if_neg differs, pick_rev]
  first
    | exact wpAny_bind (m := Builtin.Tuple.tupleExact _) (wpAny_newObj_type (wpAny_pure ⟨_, rfl, wpAny_pure then_⟩) fits)
    | exact wpAny_bind (m := Builtin.Tuple.tupleExact _) (wpAny_newObj_type (wpAny_bind (wpAny_pure (wpAny_pure ⟨_, rfl, wpAny_pure then_⟩))) fits)
    | exact wpAny_bind (wpAny_bind (m := Builtin.Tuple.tupleExact _) (wpAny_newObj_type (wpAny_pure (wpAny_pure ⟨_, rfl, wpAny_pure then_⟩)) fits))
    | exact wpAny_bind (wpAny_bind (m := Builtin.Tuple.tupleExact _) (wpAny_newObj_type (wpAny_pure ⟨_, rfl, wpAny_pure then_⟩) fits))
end
def tRevT (K : PySem.W.Frag) (te : TE) : TE := fun σ H Q => te σ H fun x H1 => ∃ a xs, x = .ref a ∧ SqT K H1 a xs ∧ ∀ p, H1 p = none → Q (.ref p) (upd H1 p (.tup xs.reverse))
theorem pe_revT {X : Cx} {e : Expr} {te : TE} {k : Nat} {p1 p2 p3 pos : Pos} (he : PE X e te) : PE X (.Subscript e (.Slice none none (some (.UnaryOp .USub (.Constant (.int 1) k p1) p2)) p3) pos) (tRevT X.K te) := by
  refine ⟨fun pins s σ H Q I want => Subscript_ (thn (he.run pins s σ H _ I want) fun v s1 ⟨x, H1, I1, r1, a, xs, ex, sq, q⟩ => ?_)⟩
  subst ex
  have ev : v = Value.ref a := r1
  subst ev
  have down : PO X (some (.UnaryOp .USub (.Constant (.int 1) k p1) p2)) (tPart (tUn (rU fun i => .int (-i)) (tC (.int 1)))) := po_some (pe_un un_neg pe_int)
  refine wpAny_Slice (thn (po_none.run pins s1 σ H1 (fun o G => o = none ∧ G = H1) I1 ⟨rfl, rfl⟩) fun vl s2 ⟨l, H2, I2, pl, el, e2⟩ => ?_)
  subst el e2
  refine thn (po_none.run pins s2 σ H2 (fun o G => o = none ∧ G = H2) I2 ⟨rfl, rfl⟩) fun vu s3 ⟨u, H3, I3, pu, eu, e3⟩ => ?_
  subst eu e3
  refine thn (down.run pins s3 σ H3 (fun o G => o = some (-1) ∧ G = H3) I3 ⟨1, rfl, -1, rfl, rfl, rfl⟩) fun vs s4 ⟨o, H4, I4, ps, eo, e4⟩ => ?_
  subst eo e4
  have I5 : Inv X pins σ H4 { s4 with heap := s4.heap.push { cls := .type "slice", data := .fields #[vl, vu, vs] } } := I4.kept (t' := s4.toks) fun b ob z => Heap.get?_push_of_some _ z
  obtain ⟨its, rel, isT, few⟩ := I5.tuple sq
  have many := rel.length
  cases pl
  cases pu
  show wpAny (model X.prog X.w) X.A (subscriptTail e (.Slice none none (some (.UnaryOp .USub (.Constant (.int 1) k p1) p2)) p3) (.ref a) (.ref s4.heap.objs.size)) (EP X pins σ Q) X.xe { s4 with heap := s4.heap.push { cls := .type "slice", data := .fields #[.none, .none, vs] } }
  refine tail_any (ops := [.ref a, .ref s4.heap.objs.size]) isT.typeIs PyProof.Rows.slot_tuple_getitem.lookup ?_ (by with_unfolding_all rfl)
  refine item_rev isT (Heap.IsSliceOf.new _ .none .none vs) ps ?_ (by rw [List.size_toArray]; omega)
  exact ⟨.ref _, _, I5.laid (t' := s4.toks) (o := .tup xs.reverse) (fun b ob z => Heap.get?_push_of_some _ z) (Nat.le_refl _) ⟨by rw [List.length_reverse]; exact few, _, rel.reverse, IsTup.new _ _⟩, rfl, q _ (I5.hok.fresh (Nat.le_refl _))⟩
end Ky
/-! ### rows told, each a list or a tuple -/
namespace Ky
open PySem PySem.Spec PyProof.Rows L2
/-- the told rows at the items vs -/
def WAll (K : PySem.W.Frag) (H : Hp) (vs : List V) (cs : List (List Nat)) : Prop := vs.length = cs.length ∧ ∀ (i : Nat) (v : V) (c : List Nat), vs[i]? = some v → cs[i]? = some c → ∃ a, v = .ref a ∧ WordsAt K H a c
theorem WAll.gro {K : PySem.W.Frag} {H H' : Hp} {vs : List V} {cs : List (List Nat)} (h : WAll K H vs cs) (g : Gro H H') : WAll K H' vs cs := ⟨h.1, fun i v c e1 e2 => by
  obtain ⟨a, e, w⟩ := h.2 i v c e1 e2
  exact ⟨a, e, w.gro g⟩⟩
/-- the rows are the told ones, put in order -/
def RowsOf (m : Nat) (cs rows : List (List Nat)) : Prop := cs.length = rows.length ∧ ∀ (i : Nat) (c r : List Nat), cs[i]? = some c → rows[i]? = some r → IsRow c r ∧ Told m c
def spBook (K : PySem.W.Frag) : Sp := fun vs H Q _ => ∃ (y : Addr) (m : Nat) (us : List V) (cs rows : List (List Nat)), vs = [.int (m : Int), .ref y] ∧ 1 ≤ m ∧ (SqL K H y us ∨ SqT K H y us) ∧ WAll K H us cs ∧ RowsOf m cs rows ∧ cs.length ≤ 1000 ∧
  GxR.TabG H (tA K "are_integers") ∧ ∀ H' p, Gro H H' → Dp K H' (.ref p) (pageD m rows) → Q (.ref p) H'
def isCellD : PyData → Int → Bool
  | .int i, m => decide (0 ≤ i) && decide (i < m)
  | _, _ => false
def spIsCell (K : PySem.W.Frag) : Sp := fun vs H Q _ => ∃ (x : V) (d : PyData) (m : Int), vs = [.int m, x] ∧ Dp K H x d ∧ Q (.bl (isCellD d m)) H
/-- two by two ascending -/
def adjUp : List PyData → Bool
  | [] => true
  | d :: ds => (match d, ds with
    | .int i, .int j :: _ => decide (i < j)
    | _, _ => true) && adjUp ds
theorem asc_split (m : Int) : ∀ (ds : List PyData) (l : Int), 0 ≤ l → ascFrom m l ds = (ds.all (fun d => isCellD d m) && adjUp ds && (match ds with | .int i :: _ => decide (l ≤ i) | _ => true))
  | [], l, _ => rfl
  | d :: ds, l, h0 => by
    cases d with
    | int i =>
      show (decide (l ≤ i) && (decide (i < m) && ascFrom m (i + 1) ds)) = _
      by_cases h1 : l ≤ i
      · rw [asc_split m ds (i + 1) (by omega)]
        have e1 : isCellD (.int i) m = decide (i < m) := by
          show (decide (0 ≤ i) && decide (i < m)) = _
          rw [decide_eq_true (by omega : 0 ≤ i), Bool.true_and]
        show _ = ((isCellD (.int i) m && ds.all fun d => isCellD d m) && adjUp (.int i :: ds) && decide (l ≤ i))
        rw [e1, decide_eq_true h1]
        have e2 : adjUp (.int i :: ds) = ((match ds with | .int j :: _ => decide (i + 1 ≤ j) | _ => true) && adjUp ds) := by
          cases ds with
          | nil => rfl
          | cons e es => cases e <;> rfl
        rw [e2]
        cases decide (i < m) <;> cases (ds.all fun d => isCellD d m) <;> cases adjUp ds <;> simp
      · show _ = (_ && _ && decide (l ≤ i))
        rw [decide_eq_false h1, Bool.false_and, Bool.and_false]
    | none => rfl
    | bool b => rfl
    | str x => rfl
    | list x => rfl
    | tuple x => rfl
    | dict x => rfl
theorem asc0 (m : Int) (ds : List PyData) : ascFrom m 0 ds = (ds.all (fun d => isCellD d m) && adjUp ds) := by
  rw [asc_split m ds 0 (Int.le_refl 0)]
  cases ds with
  | nil => rfl
  | cons d ds =>
    cases d with
    | int i =>
      show ((isCellD (.int i) m && ds.all fun d => isCellD d m) && adjUp (.int i :: ds) && decide (0 ≤ i)) = ((isCellD (.int i) m && ds.all fun d => isCellD d m) && adjUp (.int i :: ds))
      have e1 : isCellD (.int i) m = (decide (0 ≤ i) && decide (i < m)) := rfl
      rw [e1]
      cases decide (0 ≤ i) <;> simp
    | none => rfl
    | bool b => rfl
    | str x => rfl
    | list x => rfl
    | tuple x => rfl
    | dict x => rfl
theorem adj_iff : ∀ ns : List Int, adjUp (ns.map PyData.int) = true ↔ ∀ j, 1 ≤ j → j < ns.length → ns.getD (j - 1) 0 < ns.getD j 0
  | [] => ⟨fun _ j _ h => absurd h (Nat.not_lt_zero _), fun _ => rfl⟩
  | [n] => ⟨fun _ j h1 h2 => by
      have : j < 1 := h2
      omega, fun _ => rfl⟩
  | n :: k :: ns => by
    have ih := adj_iff (k :: ns)
    show (decide (n < k) && adjUp ((k :: ns).map PyData.int)) = true ↔ _
    rw [Bool.and_eq_true, ih, decide_eq_true_iff]
    constructor
    · intro ⟨h1, h2⟩ j hj1 hj2
      match j, hj1, hj2 with
      | 1, _, _ => exact h1
      | j + 2, _, hj2 =>
        have z := h2 (j + 1) (Nat.succ_le_succ (Nat.zero_le _)) (Nat.lt_of_succ_lt_succ hj2)
        exact z
    · intro h
      refine ⟨h 1 (Nat.le_refl 1) (by show 1 < (n :: k :: ns).length; simp), fun j hj1 hj2 => ?_⟩
      have z := h (j + 1) (by omega) (Nat.succ_lt_succ hj2)
      match j, hj1 with
      | j + 1, _ => exact z
theorem cells_ints {m : Int} : ∀ {ds : List PyData}, (ds.all fun d => isCellD d m) = true → ∃ ns : List Int, ds = ns.map PyData.int
  | [], _ => ⟨[], rfl⟩
  | d :: ds, h => by
    obtain ⟨h1, h2⟩ := Bool.and_eq_true_iff.mp (show (isCellD d m && ds.all fun d => isCellD d m) = true from h)
    obtain ⟨ns, rfl⟩ := cells_ints h2
    cases d with
    | int i => exact ⟨i :: ns, rfl⟩
    | none => cases h1
    | bool b => cases h1
    | str x => cases h1
    | list x => cases h1
    | tuple x => cases h1
    | dict x => cases h1
theorem dp_ints {K : PySem.W.Frag} {H : Hp} : ∀ {ns : List Int} {xs : List V}, DpAll K H xs (ns.map PyData.int) → xs = ns.map V.int
  | [], _, h => by cases h; rfl
  | n :: ns, _, h => by
    have h' : DpAll K H _ (.int n :: ns.map PyData.int) := h
    cases h' with
    | cons h1 h2 =>
      cases h1
      rw [dp_ints h2]
      rfl
def spIsPage (K : PySem.W.Frag) : Sp := fun vs H Q _ => ∃ (x : V) (d : PyData), vs = [x] ∧ Dp K H x d ∧ SeqAt.shaped d = true ∧ (∀ (m : Int) ds, d = .tuple (.int m :: ds) → m < 1000000000) ∧ (∀ dm rs cs, d = .tuple [dm, .tuple rs] → .tuple cs ∈ rs → cs.length ≤ 1000) ∧ ∀ H', Gro H H' → Q (.bl (isBookD d)) H'
theorem shaped_of_all : ∀ {ds : List PyData}, (∀ d ∈ ds, PyData.canLay0 d = true ∧ PyData.depth d ≤ 63) → PyData.canLayAll0 ds = true ∧ PyData.depthAll ds ≤ 63
  | [], _ => ⟨rfl, Nat.zero_le _⟩
  | d :: ds, h => by
    obtain ⟨h1, h2⟩ := shaped_of_all fun e he => h e (List.mem_cons_of_mem _ he)
    obtain ⟨h3, h4⟩ := h d List.mem_cons_self
    constructor
    · show (PyData.canLay0 d && PyData.canLayAll0 ds) = true
      rw [h3, h1] <;> rfl
    · show max (PyData.depth d) (PyData.depthAll ds) ≤ 63
      omega
theorem shaped_sub {cs bs : List PyData} (h : SeqAt.shaped (.tuple cs) = true) (s : ∀ d ∈ bs, d ∈ cs) : SeqAt.shaped (.list bs) = true := by
  unfold SeqAt.shaped at h
  obtain ⟨h1, h2⟩ := Bool.and_eq_true_iff.mp h
  have h3 : PyData.depthAll cs + 1 ≤ 64 := of_decide_eq_true h2
  obtain ⟨c1, c2⟩ := shaped_of_all fun d hd => shaped_in (n := 63) (show PyData.canLayAll0 cs = true from h1) (by omega) d (s d hd)
  unfold SeqAt.shaped
  show (PyData.canLayAll0 bs && decide (PyData.depthAll bs + 1 ≤ 64)) = true
  rw [c1, decide_eq_true (by omega)] <;> rfl
theorem eqv_nil (bs : List PyData) : PyData.eqv (.list bs) (.list []) = bs.isEmpty := by cases bs <;> rfl
theorem eqv_nilT (bs : List PyData) : PyData.eqv (.tuple bs) (.tuple []) = bs.isEmpty := by cases bs <;> rfl
theorem filt_nil {m : Int} {cs : List PyData} : (cs.filter fun d => !isCellD d m).isEmpty = cs.all fun d => isCellD d m := by
  induction cs with
  | nil => rfl
  | cons d ds ih =>
    rw [List.filter_cons, List.all_cons]
    cases h : isCellD d m with
    | true => exact ih
    | false => rfl
theorem rowOk_tup (m : Int) (cs : List PyData) : rowOk m (.tuple cs) = (!cs.isEmpty && ((cs.all fun d => isCellD d m) && adjUp cs)) := by
  show (!PyData.eqv (.tuple cs) (.tuple []) && ascFrom m 0 cs) = _
  rw [eqv_nilT, asc0]
/-! ### rows given, as lists and tuples of one's own -/
/-- the item v holds the cells c; it is neither the deck nor the list of items -/
def ItemAt (K : PySem.W.Frag) (a G : Addr) (H : Hp) (v : V) (c : List Nat) : Prop := ∃ b : Addr, v = .ref b ∧ b ≠ a ∧ b ≠ G ∧ (H b = some (.lst (intsV c)) ∨ SqT K H b (intsV c))
def Items (K : PySem.W.Frag) (a G : Addr) (H : Hp) (vs : List V) (cs : List (List Nat)) : Prop := vs.length = cs.length ∧ ∀ (i : Nat) (v : V) (c : List Nat), vs[i]? = some v → cs[i]? = some c → ItemAt K a G H v c
theorem ItemAt.off {K : PySem.W.Frag} {a G : Addr} {H H' : Hp} {v : V} {c : List Nat} (h : ItemAt K a G H v c) (o : OffG a H H') (d : DeckAt H a) : ItemAt K a G H' v c := by
  obtain ⟨b, rfl, n1, n2, h | h⟩ := h
  · exact ⟨b, rfl, n1, n2, .inl (o.at n1 h)⟩
  · exact ⟨b, rfl, n1, n2, .inr ((Tup.deck o d).sqt h)⟩
theorem ItemAt.put {K : PySem.W.Frag} {a G : Addr} {H : Hp} {v : V} {c : List Nat} {xs : List V} (h : ItemAt K a G H v c) (e : H G = some (.lst xs)) (ys : List V) : ItemAt K a G (upd H G (.lst ys)) v c := by
  obtain ⟨b, rfl, n1, n2, h | h⟩ := h
  · exact ⟨b, rfl, n1, n2, .inl (by rw [upd_ne n2]; exact h)⟩
  · exact ⟨b, rfl, n1, n2, .inr ((Tup.put ys e).sqt h)⟩
theorem Items.off {K : PySem.W.Frag} {a G : Addr} {H H' : Hp} {vs : List V} {cs : List (List Nat)} (h : Items K a G H vs cs) (o : OffG a H H') (d : DeckAt H a) : Items K a G H' vs cs := ⟨h.1, fun i v c e1 e2 => (h.2 i v c e1 e2).off o d⟩
theorem Items.snoc {K : PySem.W.Frag} {a G : Addr} {H : Hp} {vs : List V} {cs : List (List Nat)} {v : V} {c : List Nat} (h : Items K a G H vs cs) (e : H G = some (.lst vs)) (hv : ItemAt K a G H v c) : Items K a G (upd H G (.lst (vs ++ [v]))) (vs ++ [v]) (cs ++ [c]) := by
  refine ⟨by rw [List.length_append, List.length_append, h.1]; rfl, fun i u d e1 e2 => ?_⟩
  by_cases hi : i < vs.length
  · rw [List.getElem?_append_left hi] at e1
    rw [List.getElem?_append_left (by rw [← h.1]; exact hi)] at e2
    exact (h.2 i u d e1 e2).put e _
  · have l1 := (List.getElem?_eq_some_iff.mp e1).1
    rw [List.length_append] at l1
    have ei : i = vs.length := by
      have : i < vs.length + 1 := l1
      omega
    subst ei
    rw [List.getElem?_append_right (Nat.le_refl _), Nat.sub_self] at e1
    rw [h.1, List.getElem?_append_right (Nat.le_refl _), Nat.sub_self] at e2
    cases e1
    cases e2
    exact hv.put e _
theorem Items.all {K : PySem.W.Frag} {a G : Addr} {H : Hp} {vs : List V} {cs : List (List Nat)} (h : Items K a G H vs cs) : WAll K H vs cs := ⟨h.1, fun i v c e1 e2 => by
  obtain ⟨b, e, _, _, w | w⟩ := h.2 i v c e1 e2
  · exact ⟨b, e, .inl (SqL.of w)⟩
  · exact ⟨b, e, .inr w⟩⟩
/-- data that can be shown: small -/
def Shw (d : PyData) : Prop := d.showable = true ∧ d.hasDict = false ∧ d.depth ≤ 1 ∧ d.leavesShort 1921 = true ∧ d.bulk ≤ 100
theorem shw_all : ∀ {ds : List PyData}, (∀ d ∈ ds, Shw d) → PyData.showableAll ds = true ∧ PyData.hasDictAll ds = false ∧ PyData.depthAll ds ≤ 1 ∧ PyData.leavesShortAll 1921 ds = true ∧ PyData.bulkAll ds ≤ 101 * ds.length
  | [], _ => ⟨rfl, rfl, Nat.zero_le _, rfl, Nat.zero_le _⟩
  | d :: ds, h => by
    obtain ⟨h1, h2, h3, h4, h5⟩ := shw_all fun e he => h e (List.mem_cons_of_mem _ he)
    obtain ⟨k1, k2, k3, k4, k5⟩ := h d List.mem_cons_self
    refine ⟨?_, ?_, ?_, ?_, ?_⟩
    · show (d.showable && PyData.showableAll ds) = true
      rw [k1, h1] <;> rfl
    · show (d.hasDict || PyData.hasDictAll ds) = false
      rw [k2, h2] <;> rfl
    · show max d.depth (PyData.depthAll ds) ≤ 1
      omega
    · show (d.leavesShort 1921 && PyData.leavesShortAll 1921 ds) = true
      rw [k4, h4] <;> rfl
    · show d.bulk + 1 + PyData.bulkAll ds ≤ 101 * (d :: ds).length
      rw [List.length_cons]
      omega
theorem shw_nats {c : List Nat} (hb : ∀ n ∈ c, n < 2 ^ 1000) (hl : c.length ≤ 100) : Shw (.list (natsD c)) ∧ Shw (.tuple (natsD c)) := by
  obtain ⟨h1, h2, h3, h4, h5, _⟩ := ints_show _ (words_show hb (by omega))
  rw [List.length_map] at h5
  have d1 : PyData.depthAll (natsD c) + 1 ≤ 1 := by rw [h3]; exact Nat.le_refl _
  have b1 : PyData.bulkAll (natsD c) ≤ 100 := by rw [h5]; exact hl
  exact ⟨⟨h1, h2, d1, h4, b1⟩, ⟨h1, h2, d1, h4, b1⟩⟩
theorem items_data {K : PySem.W.Frag} {H : Hp} {m : Nat} : ∀ {vs : List V} {cs : List (List Nat)}, WAll K H vs cs → (∀ c ∈ cs, Told m c) → m ≤ 1000 → ∃ ds, DpAll K H vs ds ∧ (∀ d ∈ ds, Shw d) ∧ ds.length = cs.length
  | [], [], _, _, _ => ⟨[], .nil, (fun _ h => absurd h List.not_mem_nil), rfl⟩
  | [], _ :: _, h, _, _ => by cases h.1
  | _ :: _, [], h, _, _ => by cases h.1
  | v :: vs, c :: cs, h, ht, hm => by
    obtain ⟨ds, e1, e2, e3⟩ := items_data (vs := vs) (cs := cs) ⟨Nat.succ.inj h.1, fun i u d q1 q2 => h.2 (i + 1) u d q1 q2⟩ (fun d hd => ht d (List.mem_cons_of_mem _ hd)) hm
    obtain ⟨b, rfl, w⟩ := h.2 0 v c rfl rfl
    have tl := ht c List.mem_cons_self
    have few := tl.few
    obtain ⟨s1, s2⟩ := shw_nats (c := c) (fun n hn => Nat.lt_of_lt_of_le (tl.low n hn) (Nat.le_trans hm (by decide +kernel))) (by omega)
    rcases w with w | w
    · refine ⟨.list (natsD c) :: ds, .cons (dpW c w) e1, fun d hd => ?_, by rw [List.length_cons, e3]; rfl⟩
      rcases List.mem_cons.mp hd with rfl | hd
      · exact s1
      · exact e2 d hd
    · rw [intsV_map] at w
      refine ⟨.tuple (natsD c) :: ds, .cons (.tup w (dpI _)) e1, fun d hd => ?_, by rw [List.length_cons, e3]; rfl⟩
      rcases List.mem_cons.mp hd with rfl | hd
      · exact s2
      · exact e2 d hd
theorem shown_list {ds : List PyData} (h : ∀ d ∈ ds, Shw d) (l : ds.length ≤ 50) : (PyData.list ds).showable = true ∧ (PyData.list ds).hasDict = false ∧ (PyData.list ds).depth < 100 ∧ (PyData.list ds).shown.length ≤ sizeLine := by
  obtain ⟨h1, h2, h3, h4, h5⟩ := shw_all h
  refine ⟨h1, h2, ?_, ?_⟩
  · show PyData.depthAll ds + 1 < 100
    omega
  · have z := PyData.shown_le_bulk 1921 (by decide) (.list ds) h4
    have e : (PyData.list ds).bulk ≤ 101 * ds.length := h5
    have e2 : sizeLine = 16777216 := by decide
    omega
def spMade (K : PySem.W.Frag) (tf : List Str) : Sp := fun vs H Q _ => ∃ (a : Addr) (x : V) (m : Nat) (rows : List (List Nat)), vs = [.ref a, x] ∧ DeckAt H a ∧ Dp K H x (pageD m rows) ∧ Good m rows ∧ m ≤ 41 ∧ rows.length ≤ 41 ∧ (∀ x ∈ tf, GxR.TabG H (tA K x)) ∧
  ∀ H', OffG a H H' → DeckAt H' a → Q (.bl true) H'
theorem mem_insert {c : List Nat} {u x : Nat} (k : Nat) : k ∈ c.take u ++ [x] ++ c.drop u ↔ k ∈ c ∨ k = x := by
  rw [List.mem_append, List.mem_append, List.mem_singleton]
  have e := List.take_append_drop u c
  constructor
  · rintro ((h | h) | h)
    · exact .inl (List.mem_of_mem_take h)
    · exact .inr h
    · exact .inl (List.mem_of_mem_drop h)
  · rintro (h | h)
    · rw [← e, List.mem_append] at h
      rcases h with h | h
      · exact .inl (.inl h)
      · exact .inr h
    · exact .inl (.inr h)
theorem intsV_ins (c : List Nat) (u x : Nat) : (intsV c).take u ++ [V.int (x : Int)] ++ (intsV c).drop u = intsV (c.take u ++ [x] ++ c.drop u) := by
  unfold intsV
  rw [List.map_append, List.map_append, List.map_take, List.map_drop]
  rfl
theorem Items.put {K : PySem.W.Frag} {a G : Addr} {H : Hp} {vs : List V} {cs : List (List Nat)} {xs : List V} (h : Items K a G H vs cs) (e : H G = some (.lst xs)) (ys : List V) : Items K a G (upd H G (.lst ys)) vs cs := ⟨h.1, fun i v c e1 e2 => (h.2 i v c e1 e2).put e ys⟩
theorem rev_at {α : Type} {l : List α} {i : Nat} {x : α} (h : l.reverse[i]? = some x) : i < l.length ∧ l[l.length - 1 - i]? = some x := by
  have hi : i < l.length := by
    have := (List.getElem?_eq_some_iff.mp h).1
    rwa [List.length_reverse] at this
  rw [List.getElem?_reverse hi] at h
  exact ⟨hi, h⟩
theorem WAll.rev {K : PySem.W.Frag} {H : Hp} {vs : List V} {cs : List (List Nat)} (h : WAll K H vs cs) : WAll K H vs.reverse cs.reverse := by
  refine ⟨by rw [List.length_reverse, List.length_reverse, h.1], fun i v c e1 e2 => ?_⟩
  obtain ⟨_, f1⟩ := rev_at e1
  obtain ⟨_, f2⟩ := rev_at e2
  rw [← h.1] at f2
  exact h.2 _ v c f1 f2
theorem RowsOf.rev {m : Nat} {cs rows : List (List Nat)} (h : RowsOf m cs rows) : RowsOf m cs.reverse rows.reverse := by
  refine ⟨by rw [List.length_reverse, List.length_reverse, h.1], fun i c r e1 e2 => ?_⟩
  obtain ⟨_, f1⟩ := rev_at e1
  obtain ⟨_, f2⟩ := rev_at e2
  rw [← h.1] at f2
  exact h.2 _ c r f1 f2
theorem DpAll.snoc {K : PySem.W.Frag} {H : Hp} {xs : List V} {ds : List PyData} {v : V} {d : PyData} (h : DpAll K H xs ds) (hv : Dp K H v d) : DpAll K H (xs ++ [v]) (ds ++ [d]) := DpAll.app (.cons hv .nil) h
theorem DpAll.rev {K : PySem.W.Frag} {H : Hp} : ∀ {xs : List V} {ds : List PyData}, DpAll K H xs ds → DpAll K H xs.reverse ds.reverse
  | _, _, .nil => .nil
  | _, _, .cons h t => by
    rw [List.reverse_cons, List.reverse_cons]
    exact DpAll.snoc (DpAll.rev t) h
/-! ### bent pages -/
theorem cut_ints (row : List Nat) (lo hi : Option Int) : ∃ l : List Nat, cutV (intsV row) lo hi = intsV l ∧ l.length ≤ row.length := by
  refine ⟨(row.drop (HT.sIx (intsV row).length 0 lo)).take (HT.sIx (intsV row).length (intsV row).length hi - HT.sIx (intsV row).length 0 lo), ?_, ?_⟩
  · unfold cutV
    show _ = List.map _ _
    rw [List.map_take, List.map_drop]
    rfl
  · rw [List.length_take, List.length_drop]
    omega
/-- what may stand for a row: small -/
structure OddRow (d : PyData) : Prop where
  lay : PyData.canLay0 d = true
  deep : PyData.depth d ≤ 2
  few : ∀ cs, d = .tuple cs → cs.length ≤ 1000
theorem odd_nats {l : List Nat} (h : l.length ≤ 1000) : OddRow (.tuple (natsD l)) := ⟨canLay_nats l, by show PyData.depthAll (natsD l) + 1 ≤ 2; rw [depth_nats]; decide, fun cs e => by
  cases e
  rw [natsD_len]
  exact h⟩
def spBentRow (K : PySem.W.Frag) : Sp := fun vs H Q _ => ∃ (a : Addr) (m : Nat) (v : V) (row : List Nat), vs = [.ref a, .int (m : Int), v] ∧ DeckAt H a ∧ m ≤ 100 ∧ Dp K H v (rowD row) ∧ 1 ≤ row.length ∧ row.length ≤ 100 ∧
  ∀ H' v' d', OffG a H H' → DeckAt H' a → Dp K H' v' d' → OddRow d' → Q v' H'
theorem lay_app : ∀ {ds es : List PyData}, PyData.canLayAll0 ds = true → PyData.canLayAll0 es = true → PyData.canLayAll0 (ds ++ es) = true
  | [], _, _, h => h
  | d :: ds, es, h1, h2 => by
    obtain ⟨a, b⟩ := Bool.and_eq_true_iff.mp (show (PyData.canLay0 d && PyData.canLayAll0 ds) = true from h1)
    show (PyData.canLay0 d && PyData.canLayAll0 (ds ++ es)) = true
    rw [a, lay_app b h2] <;> rfl
theorem depth_app {n : Nat} : ∀ {ds es : List PyData}, PyData.depthAll ds ≤ n → PyData.depthAll es ≤ n → PyData.depthAll (ds ++ es) ≤ n
  | [], _, _, h => h
  | d :: ds, es, h1, h2 => by
    have h3 : max (PyData.depth d) (PyData.depthAll ds) ≤ n := h1
    have ih := depth_app (ds := ds) (es := es) (n := n) (by omega) h2
    show max (PyData.depth d) (PyData.depthAll (ds ++ es)) ≤ n
    omega
theorem odd_mid {l1 l2 : List Nat} {d : PyData} (h1 : PyData.canLay0 d = true) (h2 : PyData.depth d ≤ 1) (n1 : l1.length ≤ 400) (n2 : l2.length ≤ 400) : OddRow (.tuple (natsD l1 ++ [d] ++ natsD l2)) := by
  refine ⟨lay_app (lay_app (canLay_nats l1) (by show (PyData.canLay0 d && true) = true; rw [h1] <;> rfl)) (canLay_nats l2), ?_, fun cs e => ?_⟩
  · have z : PyData.depthAll (natsD l1 ++ [d] ++ natsD l2) ≤ 1 := depth_app (depth_app (by rw [depth_nats]; decide) (by show max (PyData.depth d) 0 ≤ 1; omega)) (by rw [depth_nats]; decide)
    show PyData.depthAll (natsD l1 ++ [d] ++ natsD l2) + 1 ≤ 2
    omega
  · cases e
    rw [List.length_append, List.length_append, natsD_len, natsD_len]
    show l1.length + 1 + l2.length ≤ 1000
    omega
/-- laid, of depth n at most -/
def Lay (n : Nat) (d : PyData) : Prop := PyData.canLay0 d = true ∧ PyData.depth d ≤ n
theorem lay_all {n : Nat} : ∀ {ds : List PyData}, (∀ d ∈ ds, Lay n d) → PyData.canLayAll0 ds = true ∧ PyData.depthAll ds ≤ n
  | [], _ => ⟨rfl, Nat.zero_le _⟩
  | d :: ds, h => by
    obtain ⟨h1, h2⟩ := lay_all fun e he => h e (List.mem_cons_of_mem _ he)
    obtain ⟨h3, h4⟩ := h d List.mem_cons_self
    constructor
    · show (PyData.canLay0 d && PyData.canLayAll0 ds) = true
      rw [h3, h1] <;> rfl
    · show max (PyData.depth d) (PyData.depthAll ds) ≤ n
      omega
theorem lay_t {n : Nat} {ds : List PyData} (h : ∀ d ∈ ds, Lay n d) : Lay (n + 1) (.tuple ds) := ⟨(lay_all h).1, Nat.succ_le_succ (lay_all h).2⟩
theorem lay_l {n : Nat} {ds : List PyData} (h : ∀ d ∈ ds, Lay n d) : Lay (n + 1) (.list ds) := ⟨(lay_all h).1, Nat.succ_le_succ (lay_all h).2⟩
theorem Lay.up {n k : Nat} {d : PyData} (h : Lay n d) (l : n ≤ k) : Lay k d := ⟨h.1, Nat.le_trans h.2 l⟩
theorem lay_row (r : List Nat) : Lay 1 (rowD r) := ⟨canLay_nats r, by show PyData.depthAll (natsD r) + 1 ≤ 1; rw [depth_nats]; exact Nat.le_refl _⟩
theorem lay_rows (rows : List (List Nat)) : Lay 2 (.tuple (rows.map rowD)) := lay_t fun d hd => by
  obtain ⟨r, _, rfl⟩ := List.mem_map.mp hd
  exact lay_row r
theorem lay_int (i : Int) : Lay 0 (.int i) := ⟨rfl, Nat.le_refl _⟩
/-- what is judged -/
structure Bent (d : PyData) : Prop where
  lay : Lay 10 d
  low : ∀ (m : Int) ds, d = .tuple (.int m :: ds) → m < 1000000000
  few : ∀ dm rs cs, d = .tuple [dm, .tuple rs] → .tuple cs ∈ rs → cs.length ≤ 1000
theorem Bent.shaped {d : PyData} (h : Bent d) : SeqAt.shaped d = true := by
  unfold SeqAt.shaped
  rw [h.lay.1, decide_eq_true (Nat.le_trans h.lay.2 (by decide))] <;> rfl
def spBent (K : PySem.W.Frag) : Sp := fun vs H Q _ => ∃ (a : Addr) (x : V) (m : Nat) (rows : List (List Nat)), vs = [.ref a, x] ∧ DeckAt H a ∧ Dp K H x (pageD m rows) ∧ Good m rows ∧ m ≤ 100 ∧ rows.length ≤ 41 ∧
  ∀ H' v d, OffG a H H' → DeckAt H' a → Dp K H' v d → Bent d → Q v H'
theorem cut_rows {K : PySem.W.Frag} {H : Hp} {xs : List V} {rows : List (List Nat)} (h : DpAll K H xs (rows.map rowD)) (lo hi : Option Int) : ∃ rows' : List (List Nat), DpAll K H (cutV xs lo hi) (rows'.map rowD) ∧ (∀ r ∈ rows', r ∈ rows) ∧ rows'.length ≤ rows.length := by
  refine ⟨(rows.drop (HT.sIx xs.length 0 lo)).take (HT.sIx xs.length xs.length hi - HT.sIx xs.length 0 lo), ?_, fun r hr => List.mem_of_mem_drop (List.mem_of_mem_take hr), ?_⟩
  · rw [List.map_take, List.map_drop]
    exact DpAll.take _ (DpAll.drop _ h)
  · rw [List.length_take, List.length_drop]
    omega
end Ky
/-! ### wells and books; shares -/
namespace Ky
open PySem PySem.Spec PyProof.Rows L2
theorem WellAt.gro {H H' : Hp} {a : Addr} {k : Nat} (h : WellAt H a k) (g : Gro H H') : WellAt H' a k := by
  obtain ⟨x, y, z, e, r⟩ := h
  exact ⟨x, y, z, g.at e, r⟩
theorem WellAt.put {a p : Addr} {k : Nat} {H : Hp} {o : HO} (h : WellAt H a k) (n : p ≠ a) : WellAt (upd H p o) a k := by
  obtain ⟨x, y, z, e, r⟩ := h
  exact ⟨x, y, z, by rw [upd_ne n.symm]; exact e, r⟩
theorem Tup.well {a : Addr} {H H' : Hp} {k : Nat} (h : OffG a H H') (d : WellAt H a k) : Tup H H' := by
  obtain ⟨x, y, z, e, _⟩ := d
  exact Tup.off h e
theorem new_atW {a p : Addr} {H H1 : Hp} {k : Nat} (o : OffG a H H1) (d : WellAt H1 a k) (n : H1 p = none) : p ≠ a ∧ H p = none := by
  have h1 : p ≠ a := d.ne n
  refine ⟨h1, ?_⟩
  cases z : H p with
  | none => rfl
  | some u =>
    obtain ⟨u', e, _⟩ := o p u h1 z
    rw [e] at n
    cases n
def spBitsOf (K : PySem.W.Frag) : Sp := fun vs H Q _ => ∃ (x : V) (m : Nat) (rows : List (List Nat)) (w : Nat), vs = [x, .int (w : Int)] ∧ Dp K H x (pageD m rows) ∧ Good m rows ∧ 1 ≤ w ∧ w ≤ 1000 ∧ GxR.TabG H (tA K "is_book") ∧
  ∀ H', Gro H H' → Q (.int ((m * w : Nat) : Int)) H'
def spShare (K : PySem.W.Frag) : Sp := fun vs H Q _ => ∃ (x : V) (m : Nat) (rows : List (List Nat)) (w : Nat), vs = [x, .int (w : Int)] ∧ Dp K H x (pageD m rows) ∧ Good m rows ∧ 1 ≤ w ∧ w ≤ 1000 ∧ GxR.TabG H (tA K "is_book") ∧
  ∀ (H' : Hp) (p : Addr), Gro H H' → H' p = some (.tup [.int ((rows.length / Nat.gcd rows.length m : Nat) : Int), .int ((m / Nat.gcd rows.length m : Nat) : Int)]) → Q (.ref p) H'
def spBookL (K : PySem.W.Frag) : Sp := fun vs H Q _ => ∃ (a : Addr) (cells keys k : Nat), vs = [.ref a, .int (cells : Int), .int (keys : Int)] ∧ WellAt H a k ∧ k ≤ 500000 ∧ 1 ≤ cells ∧ cells ≤ 100 ∧ keys ≤ 100 ∧
  ∀ (H' : Hp) (p : Addr) (m : Nat) (rows : List (List Nat)), OffG a H H' → WellAt H' a (k + 2000) → Good m rows → m ≤ cells → rows.length ≤ keys → Dp K H' (.ref p) (pageD m rows) → Q (.ref p) H'
def spLowest : Sp := fun vs H Q _ => ∃ t b : Nat, vs = [.int (t : Int), .int (b : Int)] ∧ 0 < b ∧ b < 2 ^ 200 ∧
  ∀ (H' : Hp) (p : Addr), Same H H' → H' p = some (.tup [.int ((t / Nat.gcd t b : Nat) : Int), .int ((b / Nat.gcd t b : Nat) : Int)]) → Q (.ref p) H'
theorem fit_two (n : Nat) (l : List Int) (h : l.length < 1000000) : Fit (n + 3) (.list [.tuple (l.map PyData.int), .tuple (l.map PyData.int)]) := by
  refine ⟨(by show 2 < 4611686018427387904; decide), fun e he => ?_⟩
  have e2 : e = .tuple (l.map PyData.int) := by
    rcases List.mem_cons.mp he with z | z
    · exact z
    · exact List.mem_singleton.mp z
  rw [e2]
  exact (fitI n l h).2
theorem share_eq {n m w : Nat} (hw : 0 < w) : n * w / Nat.gcd (n * w) (m * w) = n / Nat.gcd n m ∧ m * w / Nat.gcd (n * w) (m * w) = m / Nat.gcd n m := by
  rw [Nat.gcd_mul_right]
  exact ⟨Nat.mul_div_mul_right _ _ hw, Nat.mul_div_mul_right _ _ hw⟩
end Ky
/-! ### enumerate(t) of a tuple -/
namespace Ky
open PySem PySem.Spec PyProof.Rows L2
/-- the cell of an enumeration that was just made, its iterator at it -/
abbrev enObj (it : Addr) : Obj := { cls := .type "enumerate", data := .fields #[.none, .bool false, .ref it, rawInt 0, .none, .none] }
theorem meets_enT {v : Value} {o : Obj} {Hh : Heap → Prop} (B : Begins v o Hh) :
    Meets (Builtin.«enumerate.__new__» ⟨[.type "enumerate", v], []⟩) (fun _ R s => Hh s.heap ∧ R (.ok (.ret (.ref (s.heap.push o).objs.size))) { s with heap := (s.heap.push o).push (enObj s.heap.objs.size) }) :=
  .of_wp fun prog w A R s h => by
    obtain ⟨hp, g, d, tk, os⟩ := s
    obtain ⟨b1, h⟩ := h
    have sub := sub_enumerate
    have st1 : ∀ {A' : Around} {E' Q' : Value → Shared → Prop}, Q' (.ref hp.objs.size) ⟨hp.push o, g, d, tk, os⟩ → wpAny (model prog w) A' (pyIter v) Q' E' ⟨hp, g, d, tk, os⟩ := fun q => B.iter prog w _ _ ⟨hp, g, d, tk, os⟩ _ b1 q
    wp_walk using st1
    refine wpAny_stack_any fun st => wpAny_pure ?_
    split
    · rename_i c _ _ _ _ _
      cases (c == Value.type "enumerate") <;> (wp_walk using st1; exact ⟨_, rfl, h⟩)
    · wp_walk using st1
      exact ⟨_, rfl, h⟩
theorem call_enT {prog : Program} {w : World} {A : Around} {E : Value → Shared → Prop} {s : Shared} {t : Addr} {items : Array Value} {Q : Value → Shared → Prop} (ht : s.heap.IsTuple t items)
    (h : ∀ h', IsEnum h' (s.heap.objs.size + 1) s.heap.objs.size 0 .none → h'.IsTupleIter s.heap.objs.size t 0 → (∀ b o, s.heap.get? b = some o → h'.get? b = some o) → Q (.ref (s.heap.objs.size + 1)) { s with heap := h' }) :
    wpAny (model prog w) A (call (.type "enumerate") [.ref t]) Q E s := by
  refine callType_new F.called_enumerate (by decide) (F.typeCall_enumerate_1 _) (F.newCall_enumerate_1 _) (fun obj => F.args_object_init_2 obj _) F.entry_enumerate_new (meets_enT (begins_tuple t items)) ⟨ht, ?_⟩
  have two : (s.heap.push { cls := .type "tuple_iterator", data := .fields #[.ref t, .int 0 0] }).objs.size = s.heap.objs.size + 1 := Heap.size_push ..
  show _ ∧ _
  rw [two]
  have en : ((s.heap.push { cls := .type "tuple_iterator", data := .fields #[.ref t, .int 0 0] }).push (enObj s.heap.objs.size)).get? (s.heap.objs.size + 1) = some (enObj s.heap.objs.size) := by
    have z := Heap.get?_push_size (s.heap.push { cls := .type "tuple_iterator", data := .fields #[.ref t, .int 0 0] }) (o := enObj s.heap.objs.size) rfl
    rw [two] at z
    exact z
  exact ⟨⟨_, en, rfl⟩, h _ en ⟨_, Heap.get?_push_of_some _ (Heap.get?_push_size _ rfl), rfl, rfl⟩ fun b o x => Heap.get?_push_of_some _ (Heap.get?_push_of_some _ x)⟩
theorem enT_end {prog : Program} {w : World} {A : Around} {E : Value → Shared → Prop} {s : Shared} {e it t : Addr} {i : Nat} {c : Int} {old : Value} {items : Array Value} {Q : Option Value → Shared → Prop} (hh : A.handled = none) (he : IsEnum s.heap e it c old)
    (hit : s.heap.IsTupleIter it t i) (ht : s.heap.IsTuple t items) (hx : items[i]? = none) (hQ : ∀ h', Heap.ExtBut it s.heap h' → Q none { s with heap := h' }) : wpAny (model prog w) A (pyNext (.ref e)) Q E s := by
  have ty : s.TypeIs (.ref e) "enumerate" := ⟨_, he, rfl⟩
  unfold pyNext
  refine wpAny_bind (wpAny_attempt (wpAny_callSpecial?_slot (name := Str.ofString "__next__") ty F.slot_enumerate_next (wpAny_call_entry F.slot_enumerate_next ty F.entry_enumerate_next ?_ (F.args_enumerate_next_1 _))))
  show wpAny _ _ (field (.ref e) 2 >>= _) _ _ _
  refine wpAny_bind (wpAny_field he rfl (x := .ref it) rfl (wpAny_bind (wpAny_nextOf_tuple_end hh hit ht hx fun h' x eb so => ?_)))
  obtain ⟨o, ho, hc⟩ := so
  exact wpAny_bind (wpAny_isInstance (T := "StopIteration") (b := true) ⟨o, ho, hc⟩ isSubtype_stop (wpAny_pure (hQ _ eb)))
/-- the tuple at a, each item in a new pair -/
def IteT (K : PySem.W.Frag) (a : Addr) : It :=
  ⟨fun i H => ∃ (xs : List V) (x : V), SqT K H a xs ∧ xs[i]? = some x,
   fun i H v H' => ∃ T x, v = .ref T ∧ H T = none ∧ H' = upd H T (.tup [.int (i : Nat), x]) ∧ ∀ xs, SqT K H a xs → xs[i]? = some x,
   fun i H => ∃ xs : List V, SqT K H a xs ∧ xs.length ≤ i⟩
theorem turn_enumT {P : Program} {w : World} {K : PySem.W.Frag} {elts : List Expr} {kk : Nat} {tpos : Pos} (a e it : Addr) :
    Turn P w K (.Tuple elts kk tpos) (IteT K a) [e, it] e (fun i h => (∃ old, IsEnum h e it ((i : Nat) : Int) old) ∧ h.IsTupleIter it a i ∧ e ≠ it ∧ a ≠ it ∧ e ≠ a) where
  mem := List.mem_cons_self
  obj := fun i h st b hb => by
    obtain ⟨⟨old, he⟩, ⟨o, ho, _, hd⟩, _⟩ := st
    rcases List.mem_cons.mp hb with z | z
    · rw [z]
      exact ⟨_, he, fun v q => nomatch q⟩
    · rw [List.mem_singleton.mp z]
      exact ⟨o, ho, fun v q => by rw [hd] at q; cases q⟩
  keep := fun i h h' st k => by
    obtain ⟨⟨old, he⟩, hi, n1, n2, n3⟩ := st
    exact ⟨⟨old, k e List.mem_cons_self _ he⟩, hi.at fun o q => k it (List.mem_cons_of_mem _ List.mem_cons_self) o q, n1, n2, n3⟩
  item := by
    intro X hP hw hK hc i pins s σ H E I hf st hg
    subst hP hw hK
    obtain ⟨⟨old, he⟩, hit, n1, n2, n3⟩ := st
    obtain ⟨xs, x, hq, hx⟩ := hg
    obtain ⟨its, rv, p, hz⟩ := I.tuple hq
    obtain ⟨u, hu, ru⟩ := rv.get hx
    have le : e < s.heap.objs.size := Heap.lt_size he
    have li : it < s.heap.objs.size := by
      obtain ⟨_, q, _⟩ := hit
      exact Heap.lt_size q
    have hi : i < its.toArray.size := by
      have := (List.getElem?_eq_some_iff.mp hu).1
      simpa using this
    have D := Draws.tuple (prog := X.prog) (w := X.w) (A := X.A.in1) (I.ok.hd hc) it a n2 its.toArray
    refine wpAny_pyNext_enum_itemC D he ⟨hit, p⟩ hi n1 (by simp [n1, n3]) fun y h' tk hy ho hs hT hsz hk => ?_
    have ey : y = u := by
      have z : its.toArray[i]? = some u := by simpa using hu
      exact Option.some.inj (hy.symm.trans z)
    subst ey
    refine ⟨_, rfl, wpAny_letOwnedTupleGo_enum (s := { s with heap := h', toks := tk + 1 }) ho fun h2 he2 sb => ?_⟩
    have hT2 : h2.get? s.heap.objs.size = some { cls := .type "tuple", data := .seq #[.int i tk, y] } := (sb.2 _ (Nat.ne_of_gt le)).trans hT
    have new : ObjOk X.prog X.w (upd H s.heap.objs.size (.tup [.int (i : Nat), x])) h2 s.heap.objs.size (.tup [.int (i : Nat), x]) :=
      ⟨by show 2 ≤ sizeLine; decide, [.int i tk, y], .cons ⟨_, rfl⟩ (.cons ru .nil), ⟨_, hT2, rfl, _, rfl⟩⟩
    have I1 : Inv X pins σ (upd H s.heap.objs.size (.tup [.int (i : Nat), x])) { s with heap := h2, toks := tk + 1 } :=
      I.turnedNew (ch := [e, it]) (fun b ob hb q => (sb.2 b (fun z => hb (by simp [z]))).trans (hk b ob (fun z => hb (by simp [z])) (fun z => hb (by simp [z])) q)) hf (Nat.le_refl _) new
    refine ⟨.ref s.heap.objs.size, _, I1, rfl, ⟨_, x, rfl, I.hok.fresh (Nat.le_refl _), rfl, fun ys hy => by rw [I.tuple_inj hy hq]; exact hx⟩, ⟨⟨y, ?_⟩, hs.1.at fun o q => (sb.2 it (Ne.symm n1)).trans q, n1, n2, n3⟩, fun b hb => ?_⟩
    · have e1 : ((i + 1 : Nat) : Int) = (i : Int) + 1 := by omega
      rw [e1]
      exact he2
    · have lb : b < s.heap.objs.size := by
        rcases List.mem_cons.mp hb with z | z
        · rw [z]; exact le
        · rw [List.mem_singleton.mp z]; exact li
      rw [upd_ne (Nat.ne_of_lt lb)]
      exact (hf b hb).1
  done := by
    intro X hP hw hK hc i pins s σ H E I hf st hg
    subst hP hw hK
    obtain ⟨⟨old, he⟩, hit, n1, n2, n3⟩ := st
    obtain ⟨xs, hq, hx⟩ := hg
    obtain ⟨its, rv, p, hz⟩ := I.tuple hq
    obtain ⟨f0, f1, f2, f3, f4, f5⟩ := hf it (by simp)
    have hl := rv.length
    exact enT_end (I.ok.hd hc) he hit p (by simp; omega) fun h' eb => ⟨rfl, I.turned (t' := s.toks) (fun b o hb q => eb b o hb q) f0 f1 f3 f4 f5⟩
  self := fun A i s Q E st h => by
    obtain ⟨⟨_, he⟩, _⟩ := st
    exact wpAny_pyIter_enum he h
def iEnumT (K : PySem.W.Frag) (ta : TA) : TI := fun σ H R => ta σ H fun vs H1 => ∃ a xs, vs = [.ref a] ∧ SqT K H1 a xs ∧ R (IteT K a) H1
theorem pi_enumT {X : Cx} {e : Expr} {ta : TA} {p pos tpos : Pos} {elts : List Expr} {kk : Nat} (hg : Gl X "enumerate") (hm : X.mg "enumerate" = none) (ha : PA X [e] ta) (hs : starEach [e] X.env = [(false, eval e X.env)] := by rfl) :
    PI X (.Tuple elts kk tpos) (.Call (.Name "enumerate" p) [e] [] pos) (iEnumT X.K ta) := by
  refine ⟨fun pins s σ H R I h => Call_ (ld_blt I hg hm boot_enumerate (PyProof.Rows.callWith_type1 (thn (ha.run pos pins s σ H _ I h) fun us s1 ⟨vs, H1, I1, r1, q1⟩ => ?_) hs rfl))⟩
  obtain ⟨a, xs, ex, hq, q⟩ := q1
  subst ex
  cases r1 with
  | cons r rr =>
    cases rr
    cases r
    obtain ⟨its, rv, pt, hz⟩ := I1.tuple hq
    have la : a < s1.heap.objs.size := by
      obtain ⟨_, z, _⟩ := pt
      exact Heap.lt_size z
    refine call_enT pt fun h' he hit hk => wpAny_pyIter_enum he ?_
    refine ⟨s1.heap.objs.size + 1, [s1.heap.objs.size + 1, s1.heap.objs.size], _, _, H1, rfl, I1.kept (t' := s1.toks) hk, turn_enumT a (s1.heap.objs.size + 1) s1.heap.objs.size, ⟨⟨.none, he⟩, hit, Nat.succ_ne_self _, Nat.ne_of_lt la, Nat.ne_of_gt (Nat.lt_succ_of_lt la)⟩, fun b hb => ?_, q⟩
    have hle : s1.heap.objs.size ≤ b := by
      rcases List.mem_cons.mp hb with z | z
      · rw [z]; exact Nat.le_add_right _ _
      · rw [List.mem_singleton.mp z]; exact Nat.le_refl _
    exact I1.fpOk hle (I1.hok.fresh hle)
theorem walk_enumT {K : PySem.W.Frag} {a : Addr} {xs : List V} : Walk (IteT K a) xs.length (fun H => SqT K H a xs) (YPair (fun i => some (.int (i : Nat))) (fun i => xs[i]?)) := by
  refine ⟨fun i _ hi q => ⟨xs, xs[i], q, by simp [hi]⟩, fun _ q => ⟨xs, q, Nat.le_refl _⟩, fun i H v H' _ q y => ?_⟩
  obtain ⟨T, x, r1, r2, r3, r4⟩ := y
  exact ⟨T, .int (i : Nat), x, r1, r2, r3, rfl, r4 xs q⟩
end Ky
/-! ### sets of ints written as comprehensions: {e for x in xs}, {e for x in xs for y in ys} -/
namespace Ky
open PySem PySem.Spec PyProof.Rows L2
section
variable {Y : Cx}
/-- set.add of an int, as a call -/
theorem into_set {ps : List (Addr × Obj)} {σ : L2.St} {H : Hp} {s : Shared} {E : Value → Shared → Prop} {D : Addr} {S : Int → Bool} {n : Nat} {k : Int} {tk : Tok} {Z : Value → Shared → Prop} (inv : Inv Y ps σ H s) (has : H D = some (SetO Y.w D S n)) (room : n + 1 < scanBound)
    (after : ∀ st, Inv Y ps σ (upd H D (SetO Y.w D (fun j => S j || decide (j = k)) (if S k = true then n else n + 1))) st → Z .none st) :
    wpAny (model Y.prog Y.w) Y.A (call (.builtin "set.add") [.ref D, .int k tk]) Z E s := by
  refine setR_add (setO_get inv has) room fun hp kept now => after _ ?_
  obtain ⟨o, _, _, _, there, _⟩ := id now
  exact inv.write (e := D) (t' := s.toks + 1) (by rw [has]; trivial) (.inl rfl) (fun b u z q => (kept.2 b z).trans q) ⟨o, there⟩ (setO_new now)
/-- one turn of a clause: the iterator's next, the store, what follows -/
theorem clause_turn {tg : Expr} {g : TG} {J : It} {fp : List Addr} {it : Addr} {tn : Nat → Heap → Prop} {ps : List (Addr × Obj)} {σ : L2.St} {H : Hp} {s : Shared} {i : Nat} {E : Value → Shared → Prop} {None_ : Shared → Prop} {More : Shared → Prop}
    (T : Turn Y.prog Y.w Y.K tg J fp it tn) (calm : Y.calm = true) (tgt : PG Y tg g) (xf : Y.xe = fun _ _ => False) (inv : Inv Y ps σ H s) (fine : ∀ b ∈ fp, FpOk Y ps H b) (at_ : tn i s.heap)
    (way : (J.stop i H ∧ ∀ st, Inv Y ps σ H st → None_ st) ∨
      (J.go i H ∧ ∀ x H2, J.yld i H x H2 → ∃ Z : L2.St → Hp → Prop, g x σ H2 Z ∧ ∀ (τ : L2.St) (H3 : Hp) (sa sb : Shared), Z τ H3 → tn (i + 1) sa.heap → Inv Y (ps ++ pinsAt fp sa.heap) τ H3 sb → More sb)) :
    wpAny (model Y.prog Y.w) Y.A (pyNext (.ref it)) (fun r st => match r with
      | none => None_ st
      | some u => wpAny (model Y.prog Y.w) Y.A (letOwnedTupleGo tg (.ref it) u) (fun _ st2 => wpAny (model Y.prog Y.w) Y.A (assign tg Y.env u) (fun _ st3 => More st3) E st2) E st) E s := by
  rcases way with ⟨stop, fin⟩ | ⟨go, on⟩
  · refine thnF (T.done Y rfl rfl rfl calm i ps s σ H _ inv fine at_ stop) fun r st ⟨e, inv2⟩ => ?_
    subst e
    exact fin st inv2
  · refine thnF (T.item Y rfl rfl rfl calm i ps s σ H _ inv fine at_ go) fun r st ⟨u, e, rest⟩ => ?_
    subst e
    refine thnF rest fun _ sa ⟨x, H2, inv2, rel, y, at2, none2⟩ => ?_
    have fine2 : ∀ b ∈ fp, FpOk Y ps H2 b := fun b hb => ⟨none2 b hb, (fine b hb).2⟩
    obtain ⟨Z, stored, more⟩ := on x H2 y
    have z := tgt.run _ sa σ H2 x u Z (inv2.pinned fine2 (T.obj _ _ at2)) rel stored
    rw [xf] at z
    refine thnF z fun _ sb ⟨τ, H3, inv3, got⟩ => ?_
    exact more τ H3 sa sb got at2 inv3
/-- .. and back to the clause's start -/
theorem clause_back {tg : Expr} {J : It} {fp : List Addr} {it : Addr} {tn : Nat → Heap → Prop} {ps : List (Addr × Obj)} {σ τ : L2.St} {H : Hp} {sa sb : Shared} {i : Nat} (T : Turn Y.prog Y.w Y.K tg J fp it tn) (at_ : tn i sa.heap) (inv : Inv Y (ps ++ pinsAt fp sa.heap) τ H sb)
    (len : σ.length = τ.length) (knew : ∀ (j : Nat) v, σ[j]? = some (some v) → τ[j]? = some (some v)) : Inv Y ps σ H sb ∧ tn i sb.heap ∧ ∀ b ∈ fp, H b = none := by
  have held : ∀ b ∈ fp, ∀ o, sa.heap.get? b = some o → sb.heap.get? b = some o ∧ H b = none := fun b hb o e => by
    obtain ⟨z1, z2, _⟩ := inv.pin (b, o) (List.mem_append_right _ (List.mem_append_right _ (mem_pinsAt hb e)))
    exact ⟨z1, z2⟩
  refine ⟨inv.unpinned.weak len knew, T.keep _ _ _ at_ fun b hb o e => (held b hb o e).1, fun b hb => ?_⟩
  obtain ⟨o, e, _⟩ := T.obj _ _ at_ b hb
  exact (held b hb o e).2
end
/-- what a set comprehension of one clause asks; vs: its own names -/
def tSet1 (w : World) (wi : TI) (g : TG) (te : TE) (vs : List Nat) : TE := fun σ H Q => wi σ H fun J H1 => ∀ D, H1 D = none → ∃ W : Nat → Nat → Hp → Prop, (∃ m, W 0 m (upd H1 D (SetO w D (fun _ => false) 0))) ∧ ∀ i m H2, W i m H2 →
  (J.stop i H2 ∧ Q (.ref D) H2) ∨ (J.go i H2 ∧ ∃ N : Hp → Prop, (∀ H3, N H3 → ∃ m2, m2 < m ∧ W (i + 1) m2 H3) ∧ ∀ x H3, J.yld i H2 x H3 → g x (wipe σ vs) H3 fun τ H4 => wipe τ vs = wipe σ vs ∧
    te τ H4 fun y H5 => ∃ (k : Int) (S : Int → Bool) (n : Nat), y = .int k ∧ H5 D = some (SetO w D S n) ∧ n + 1 < scanBound ∧ N (upd H5 D (SetO w D (fun j => S j || decide (j = k)) (if S k = true then n else n + 1))))
/-- .. of two clauses; us: the second one's -/
def tSet2 (w : World) (wi : TI) (g : TG) (wj : TI) (f : TG) (te : TE) (vs us : List Nat) : TE := fun σ H Q => wi σ H fun J H1 => ∀ D, H1 D = none → ∃ W : Nat → Nat → Hp → Prop, (∃ m, W 0 m (upd H1 D (SetO w D (fun _ => false) 0))) ∧ ∀ i m H2, W i m H2 →
  (J.stop i H2 ∧ Q (.ref D) H2) ∨ (J.go i H2 ∧ ∃ N : Hp → Prop, (∀ H3, N H3 → ∃ m2, m2 < m ∧ W (i + 1) m2 H3) ∧ ∀ x H3, J.yld i H2 x H3 → g x (wipe σ vs) H3 fun τ H4 => wipe τ vs = wipe σ vs ∧
    wj τ H4 fun L H5 => ∃ V : Nat → Nat → Hp → Prop, (∃ m, V 0 m H5) ∧ ∀ j k H6, V j k H6 →
      (L.stop j H6 ∧ N H6) ∨ (L.go j H6 ∧ ∃ M : Hp → Prop, (∀ H7, M H7 → ∃ k2, k2 < k ∧ V (j + 1) k2 H7) ∧ ∀ y H7, L.yld j H6 y H7 → f y (wipe τ us) H7 fun ρ H8 => wipe ρ us = wipe τ us ∧
        te ρ H8 fun z H9 => ∃ (k : Int) (S : Int → Bool) (n : Nat), z = .int k ∧ H9 D = some (SetO w D S n) ∧ n + 1 < scanBound ∧ M (upd H9 D (SetO w D (fun j => S j || decide (j = k)) (if S k = true then n else n + 1)))))
section
variable {prog : Program} {w : World} {A : Around} {R : Result → Shared → Prop} {s : Shared} {elt p0 q0 p1 q1 : Expr} {scope : Scope} {pos : Pos} {it acc : Value} {env : Env}
/-- the two clauses' turns as they are written out -/
theorem turn_first (as bs : List Expr) : compTurn (.SetComp elt [⟨p0, q0, as, 0⟩, ⟨p1, q1, bs, 0⟩] scope pos) 0 it acc env = (do
      standAt q0.pos
      match ← pyNext it with
      | none => pure (.done .next)
      | some u =>
        letOwnedTupleGo p0 it u
        assign p0 env u
        let mut yes := true
        for a in as do
          if yes then yes ← isTrue a env (eval a env)
        if yes then
          let src ← eval q1 env
          standAt q1.pos
          let src ← foldedSetIterable q1 env src
          let _ ← runOwn (.compStart (.SetComp elt [⟨p0, q0, as, 0⟩, ⟨p1, q1, bs, 0⟩] scope pos) 1 (← holding [src] (pyIter src)) acc env) env
        again (.compLoop (.SetComp elt [⟨p0, q0, as, 0⟩, ⟨p1, q1, bs, 0⟩] scope pos) 0 it acc env)) := by rfl
theorem turn_second (as bs : List Expr) : compTurn (.SetComp elt [⟨p0, q0, as, 0⟩, ⟨p1, q1, bs, 0⟩] scope pos) 1 it acc env = (do
      standAt q1.pos
      match ← pyNext it with
      | none => pure (.done .next)
      | some u =>
        letOwnedTupleGo p1 it u
        assign p1 env u
        let mut yes := true
        for b in bs do
          if yes then yes ← isTrue b env (eval b env)
        if yes then
          (do let y ← eval elt env; standAt elt.pos; let _ ← call (.builtin "set.add") [acc, y])
        again (.compLoop (.SetComp elt [⟨p0, q0, as, 0⟩, ⟨p1, q1, bs, 0⟩] scope pos) 1 it acc env)) := by rfl
/-- the first clause's loop: a number falls with each turn -/
theorem first_loop (same : ∀ x, foldedSetIterable q1 env x = pure x) (I : Nat → Shared → Prop)
    (each : ∀ (n : Nat) (st : Shared) (E : Value → Shared → Prop), I n st → wpAny (model prog w) A (pyNext it) (fun r s1 => match r with
      | none => R (.ok .next) s1
      | some u => wpAny (model prog w) A (letOwnedTupleGo p0 it u) (fun _ s2 => wpAny (model prog w) A (assign p0 env u) (fun _ s3 =>
          wpAny (model prog w) A (eval q1 env) (fun x s4 => wpAny (model prog w) A (pyIter x) (fun src s5 =>
            codeAny (model prog w) A (.compStart (.SetComp elt [⟨p0, q0, [], 0⟩, ⟨p1, q1, [], 0⟩] scope pos) 1 src acc env) (fun out s6 => match out with
              | .error _ => False
              | .ok _ => ∃ m, m < n ∧ I m s6) s5) E s4) E s3) E s2) E s1) E st)
    (n : Nat) (st : Shared) (now : I n st) : codeAny (model prog w) A (.compLoop (.SetComp elt [⟨p0, q0, [], 0⟩, ⟨p1, q1, [], 0⟩] scope pos) 0 it acc env) R st := by
  refine codeAny_loop rfl I (fun k st hI => ?_) n now
  show wpAny _ A (Sem.onRaise (compTurn _ 0 it acc env) (fun x => do noteFrame x env; theTreesLotGoes x)) _ _ st
  refine wpAny_noted ?_
  rw [turn_first]
  refine wpAny_bind (wpAny_standAt (wpAny_bind (thn (each k st _ hI) fun r s1 h1 => ?_)))
  cases r with
  | none => exact wpAny_pure h1
  | some u =>
    refine wpAny_bind (thn h1 fun _ s2 h2 => wpAny_bind (thn h2 fun _ s3 h3 => wpAny_bind (wpAny_pure ?_)))
    refine wpAny_bind (thn h3 fun x s4 h4 => ?_)
    refine wpAny_bind (wpAny_standAt (wpAny_bind (wpAny_of_eq (same x) (wpAny_bind (wpAny_holding (thn h4 fun src s5 h5 => ?_))))))
    refine wpAny_bind (wpAny_runOwn ?_)
    rw [Around.mark_none]
    refine codeAny_mono h5 fun out s6 h6 => ?_
    cases out with
    | error e => exact h6.elim
    | ok f =>
      first
        | exact wpAny_bind (wpAny_pure (wpAny_pure ⟨rfl, h6⟩))
        | exact wpAny_pure ⟨rfl, h6⟩
/-- the second one's -/
theorem second_loop (I : Nat → Shared → Prop)
    (each : ∀ (n : Nat) (st : Shared) (E : Value → Shared → Prop), I n st → wpAny (model prog w) A (pyNext it) (fun r s1 => match r with
      | none => R (.ok .next) s1
      | some u => wpAny (model prog w) A (letOwnedTupleGo p1 it u) (fun _ s2 => wpAny (model prog w) A (assign p1 env u) (fun _ s3 =>
          wpAny (model prog w) A (eval elt env) (fun y s4 => wpAny (model prog w) A (call (.builtin "set.add") [acc, y]) (fun _ s5 => ∃ m, m < n ∧ I m s5) E s4) E s3) E s2) E s1) E st)
    (n : Nat) (st : Shared) (now : I n st) : codeAny (model prog w) A (.compLoop (.SetComp elt [⟨p0, q0, [], 0⟩, ⟨p1, q1, [], 0⟩] scope pos) 1 it acc env) R st := by
  refine codeAny_loop rfl I (fun k st hI => ?_) n now
  show wpAny _ A (Sem.onRaise (compTurn _ 1 it acc env) (fun x => do noteFrame x env; theTreesLotGoes x)) _ _ st
  refine wpAny_noted ?_
  rw [turn_second]
  refine wpAny_bind (wpAny_standAt (wpAny_bind (thn (each k st _ hI) fun r s1 h1 => ?_)))
  cases r with
  | none => exact wpAny_pure h1
  | some u =>
    refine wpAny_bind (thn h1 fun _ s2 h2 => wpAny_bind (thn h2 fun _ s3 h3 => wpAny_bind (wpAny_pure ?_)))
    exact wpAny_bind (wpAny_bind (thn h3 fun y s4 h4 => wpAny_bind (wpAny_standAt (wpAny_bind (thn h4 fun _ s5 h5 => wpAny_pure (wpAny_pure ⟨rfl, h5⟩))))))
/-- one clause's -/
theorem only_loop (I : Nat → Shared → Prop)
    (each : ∀ (n : Nat) (st : Shared) (E : Value → Shared → Prop), I n st → wpAny (model prog w) A (pyNext it) (fun r s1 => match r with
      | none => R (.ok .next) s1
      | some u => wpAny (model prog w) A (letOwnedTupleGo p0 it u) (fun _ s2 => wpAny (model prog w) A (assign p0 env u) (fun _ s3 =>
          wpAny (model prog w) A (eval elt env) (fun y s4 => wpAny (model prog w) A (call (.builtin "set.add") [acc, y]) (fun _ s5 => ∃ m, m < n ∧ I m s5) E s4) E s3) E s2) E s1) E st)
    (n : Nat) (st : Shared) (now : I n st) : codeAny (model prog w) A (.compLoop (.SetComp elt [⟨p0, q0, [], 0⟩] scope pos) 0 it acc env) R st := by
  refine codeAny_loop rfl I (fun k st hI => ?_) n now
  show wpAny _ A (Sem.onRaise (compTurn _ 0 it acc env) (fun x => do noteFrame x env; theTreesLotGoes x)) _ _ st
  refine wpAny_noted ?_
  rw [PpSet.compTurn_set]
  refine wpAny_bind (wpAny_standAt (wpAny_bind (thn (each k st _ hI) fun r s1 h1 => ?_)))
  cases r with
  | none => exact wpAny_pure h1
  | some u =>
    refine wpAny_bind (thn h1 fun _ s2 h2 => wpAny_bind (thn h2 fun _ s3 h3 => wpAny_bind (wpAny_pure ?_)))
    exact wpAny_bind (wpAny_bind (thn h3 fun y s4 h4 => wpAny_bind (wpAny_standAt (wpAny_bind (thn h4 fun _ s5 h5 => wpAny_pure (wpAny_pure ⟨rfl, h5⟩))))))
/-- where the second clause starts -/
theorem second_start {src : Value} (ready : ∀ E, wpAny (model prog w) A (pyIter src) (fun i2 st => codeAny (model prog w) A (.compLoop (.SetComp elt [⟨p0, q0, [], 0⟩, ⟨p1, q1, [], 0⟩] scope pos) 1 i2 acc env) R st) E s)
    (ready0 : codeAny (model prog w) A (.compLoop (.SetComp elt [⟨p0, q0, [], 0⟩, ⟨p1, q1, [], 0⟩] scope pos) 1 src acc env) R s) :
    codeAny (model prog w) A (.compStart (.SetComp elt [⟨p0, q0, [], 0⟩, ⟨p1, q1, [], 0⟩] scope pos) 1 src acc env) R s := by
  refine codeAny_of_tree ?_
  show wpAny _ _ (Sem.onRaise (compStart _ 1 src acc env) (fun x => do noteFrame x env; standAt theWindowsPlace)) _ _ s
  refine wpAny_notedAt ?_
  unfold compStart
  refine wpAny_bind (wpAny_askSetting (wpAny_ite ?_))
  split
  · first
      | exact wpAny_pure ⟨rfl, ready0⟩
      | exact wpAny_bind (wpAny_pure (wpAny_pure ⟨rfl, ready0⟩))
  · first
      | exact wpAny_bind (wpAny_rule (wpAny_bind (wpAny_standAt (wpAny_bind (thn (ready _) fun _ _ z => wpAny_pure ⟨rfl, z⟩)))))
      | (refine wpAny_bind (wpAny_rule ?_)
         exact wpAny_bind (wpAny_standAt (wpAny_bind (thn (ready _) fun _ _ z => wpAny_pure ⟨rfl, z⟩))))
end
section
variable {X : Cx} {ps : List (Addr × Obj)} {s : Shared} {σ : L2.St} {H : Hp} {Q : VK} {elt tg src : Expr} {rest : List Comprehension} {scope : Scope} {own : List (PySem.Str × Nat)} {pos pos' : Pos} {wi : TI}
/-- the block of a set comprehension, from its first iterator on -/
theorem set_block {G : It → Hp → Prop} (calm : X.calm = true) (nodup : X.N.Nodup) (inv : Inv X ps σ H s) (first : PI X tg src wi) (ok : BlkOk X.N X.env.scope scope own) (same : ∀ x, foldedSetIterable src X.env x = pure x) (want : wi σ H G)
    (cls : clausesOf (.SetComp elt (⟨tg, src, [], 0⟩ :: rest) scope pos) = ⟨tg, src, [], 0⟩ :: rest)
    (body : ∀ (D it : Addr) (fp : List Addr) (tn : Nat → Heap → Prop) (J : It) (H2 : Hp) (s3 s4 : Shared) (cl : List (PySem.Str × Addr)) (B : Cx), B = X.blk s3 (upd H2 D (SetO X.w D (fun _ => false) 0)) scope (compEnvC scope cl s3.heap.objs.size X.env) fp → G J H2 → H2 D = none → Turn X.prog X.w X.K tg J fp it tn →
      Inv B [] (wipe σ (own.map (·.2))) (upd H2 D (SetO X.w D (fun _ => false) 0)) s4 → tn 0 s4.heap → (∀ b ∈ fp, upd H2 D (SetO X.w D (fun _ => false) 0) b = none) → (∀ (τ : L2.St) (H' : Hp) (s' : Shared), Inv B [] τ H' s' → (∀ b ∈ fp, H' b = none) → ∀ b ∈ fp, FpOk B [] H' b) →
      codeAny (model X.prog X.w) X.A (.compLoop (.SetComp elt (⟨tg, src, [], 0⟩ :: rest) scope pos) 0 (.ref it) (.ref D) B.env) (fun out s' => match out with
        | .ok _ => ∃ H5, Inv B [] (wipe σ (own.map (·.2))) H5 s' ∧ Q (.ref D) H5
        | .error _ => False) s4) :
    wpAny (model X.prog X.w) X.A (comprehension (.SetComp elt (⟨tg, src, [], 0⟩ :: rest) scope pos) scope X.env pos' (newSet (.type "set")) false (eval src X.env)) (EP X ps σ Q) X.xe s := by
  have here : ∀ y ∈ scope.names, y.2 = .free → ∃ c, X.env.cells.lookup y.1 = some c := fun y hy e => inv.ok.has _ (ok.free y hy e)
  refine wpAny_comprehension_free (use := none) cls same (closure_ok here) ok.kind (fun y hy e => by rw [ok.uniq y hy, e]) (thn (first.run ps s σ H _ inv want) fun v s1 h1 => thn h1 fun u s2 h2 => ?_)
  obtain ⟨it, fp, tn, J, H2, rfl, inv2, T, at2, fine, want2⟩ := h2
  refine PpSet.newSet_ok (newEnv_comp ?_)
  have new : H2 s2.heap.objs.size = none := inv2.hok.fresh (Nat.le_refl _)
  have grown : (s2.heap.push (bareSet X.w)).objs.size = s2.heap.objs.size + 1 := Heap.size_push ..
  have inv3 : Inv X ps σ (upd H2 s2.heap.objs.size (SetO X.w s2.heap.objs.size (fun _ => false) 0)) { s2 with heap := s2.heap.push (bareSet X.w) } :=
    inv2.laid (t' := s2.toks) (fun b o e => Heap.get?_push_of_some _ e) (Nat.le_refl _) (setO_new (setR_fresh X.w))
  have low : ∀ b ∈ fp, b < s2.heap.objs.size := fun b hb => by
    obtain ⟨o, e, _⟩ := T.obj _ _ at2 b hb
    exact Heap.lt_size e
  have fine3 : ∀ b ∈ fp, FpOk X ps (upd H2 s2.heap.objs.size (SetO X.w s2.heap.objs.size (fun _ => false) 0)) b ∧ b < (s2.heap.push (bareSet X.w)).objs.size := fun b hb => by
    have lt := low b hb
    refine ⟨⟨?_, (fine b hb).2⟩, by rw [grown]; exact Nat.lt_succ_of_lt lt⟩
    rw [upd_ne (Nat.ne_of_lt lt)]
    exact (fine b hb).1
  have inv4 := block_start inv3 ok nodup fine3
  have at4 : tn 0 (pushCells ((s2.heap.push (bareSet X.w)).push { cls := .type "dict", data := .dict #[] }) scope.names) :=
    T.keep _ _ _ at2 fun b _ o e => pushCells_keeps _ _ _ _ (Heap.get?_push_of_some _ (Heap.get?_push_of_some _ e))
  have go := body s2.heap.objs.size it fp tn J H2 { s2 with heap := s2.heap.push (bareSet X.w) } _ _ _ rfl want2 new T inv4 at4 (fun b hb => (fine3 b hb).1.1) (fun τ H' s' i' none' b hb =>
    ⟨none' b hb, (i'.ok.exf b hb).1, i'.ok.exfs b hb, .inl hb, fun x c e => (i'.ok.exf b hb).2 x c e, fun p hp => absurd (show p ∈ ([] : List (Addr × Obj)) ++ [] from hp) (by simp)⟩)
  have loop := codeAny_mono go (R' := compPost (model X.prog X.w) X.A X.xe none (EP X ps σ Q) (.ref s2.heap.objs.size) (s2.heap.push (bareSet X.w)).objs.size) fun out s' z => ?_
  · exact PpSet.codeAny_compStart_set loop (T.self X.A 0 _ _ _ at4 loop)
  · cases out with
    | error e => exact z.elim
    | ok f =>
      obtain ⟨H5, inv5, q⟩ := z
      have inv6 : Inv X ps σ H5 s' := inv3.call' (ch := fp) inv5.os inv5.base inv5.hok inv5.bare fun b hb => ⟨(fine3 b hb).1.2.2.2.1, (fine3 b hb).1.2.1, (fine3 b hb).1.2.2.2.2.1, (fine3 b hb).1.2.2.2.2.2⟩
      have free5 : H5 (s2.heap.push (bareSet X.w)).objs.size = none := inv5.free
      obtain ⟨m, mine, _⟩ := inv5.loc
      refine ⟨m, mine, fun h' but => ?_⟩
      obtain ⟨f0, f1, f2, f3, f4, f5⟩ := inv3.fpOk (H' := H5) (b := (s2.heap.push (bareSet X.w)).objs.size) (Nat.le_refl _) free5
      exact ⟨.ref s2.heap.objs.size, H5, inv6.turned (t' := s'.toks) (fun b o hb e => (but.2 b hb).trans e) f0 f1 f3 f4 f5, rfl, q⟩
end
section
variable {X : Cx} {elt tg src tg1 src1 : Expr} {scope : Scope} {own : List (PySem.Str × Nat)} {us : List Nat} {pos : Pos} {wi wj : TI} {g f : TG} {te : TE}
/-- {elt for tg in src} of ints -/
theorem pe_set1 (calm : X.calm = true) (nodup : X.N.Nodup) (first : PI X tg src wi) (ok : BlkOk X.N X.env.scope scope own)
    (tgt : ∀ (s : Shared) (H : Hp) (C : Addr) (cl : List (PySem.Str × Addr)) (fp : List Addr), PG (X.blk s H scope (compEnvC scope cl C X.env) fp) tg g)
    (each : ∀ (s : Shared) (H : Hp) (C : Addr) (cl : List (PySem.Str × Addr)) (fp : List Addr), PE (X.blk s H scope (compEnvC scope cl C X.env) fp) elt te) (same : ∀ x, foldedSetIterable src X.env x = pure x := by intro _; rfl) :
    PE X (.SetComp elt [⟨tg, src, [], 0⟩] scope pos) (tSet1 X.w wi g te (own.map (·.2))) := by
  refine ⟨fun ps s σ H Q inv want => ?_⟩
  rw [PpSet.eval_SetComp]
  refine set_block calm nodup inv first ok same want rfl fun D it fp tn J H2 s3 s4 cl B eB hG new T inv4 at4 none4 fine => ?_
  obtain ⟨W, ⟨m0, w0⟩, turn⟩ := hG D new
  have Tb : Turn B.prog B.w B.K tg J fp it tn := by rw [eB]; exact T
  have tb : PG B tg g := by rw [eB]; exact tgt _ _ _ _ _
  have eb : PE B elt te := by rw [eB]; exact each _ _ _ _ _
  have cb : B.calm = true := by rw [eB]; exact calm
  have xb : B.xe = fun _ _ => False := by rw [eB]
  have wb : B.w = X.w := by rw [eB]
  have pb : B.prog = X.prog := by rw [eB]
  have ab : B.A = X.A := by rw [eB]
  rw [← wb, ← pb, ← ab]
  refine only_loop (fun n st => ∃ i H5, Inv B [] (wipe σ (own.map (·.2))) H5 st ∧ tn i st.heap ∧ (∀ b ∈ fp, H5 b = none) ∧ W i n H5) ?_ m0 s4 ⟨0, _, inv4, at4, none4, w0⟩
  rintro n st E ⟨i, H5, inv5, at5, none5, w5⟩
  refine clause_turn Tb cb tb xb inv5 (fine _ _ _ inv5 none5) at5 ?_
  rcases turn i n H5 w5 with ⟨stop, q⟩ | ⟨go, N, back, on⟩
  · exact .inl ⟨stop, fun s6 inv6 => ⟨H5, inv6, q⟩⟩
  · refine .inr ⟨go, fun x H6 y => ⟨_, on x H6 y, fun τ H7 sa sb ⟨wz, z⟩ at7 inv7 => ?_⟩⟩
    have zz := eb.run _ sb τ H7 _ inv7 z
    rw [xb] at zz
    refine thnF zz fun u sc ⟨v, H8, inv8, rel, k, S, c, ek, has, room, nx⟩ => ?_
    subst ek
    obtain ⟨tk, rfl⟩ := rel
    rw [← wb] at has nx
    refine into_set inv8 has room fun sd inv9 => ?_
    obtain ⟨m2, less, w2⟩ := back _ nx
    have len : (wipe σ (own.map (·.2))).length = τ.length := by rw [← wz, wipe_length]
    have knew : ∀ (j : Nat) v, (wipe σ (own.map (·.2)))[j]? = some (some v) → τ[j]? = some (some v) := fun j v e => by
      rw [← wz] at e
      exact (wipe_some e).1
    obtain ⟨invZ, atZ, noneZ⟩ := clause_back Tb at7 inv9 len knew
    exact ⟨m2, less, i + 1, _, invZ, atZ, noneZ, w2⟩
/-- {elt for tg in src for tg1 in src1} of ints -/
theorem pe_set2 (calm : X.calm = true) (nodup : X.N.Nodup) (first : PI X tg src wi) (ok : BlkOk X.N X.env.scope scope own) (part : ∀ i ∈ us, i ∈ own.map (·.2))
    (tgt : ∀ (s : Shared) (H : Hp) (C : Addr) (cl : List (PySem.Str × Addr)) (fp : List Addr), PG (X.blk s H scope (compEnvC scope cl C X.env) fp) tg g)
    (second : ∀ (s : Shared) (H : Hp) (C : Addr) (cl : List (PySem.Str × Addr)) (fp : List Addr), PI (X.blk s H scope (compEnvC scope cl C X.env) fp) tg1 src1 wj)
    (tgt1 : ∀ (s : Shared) (H : Hp) (C : Addr) (cl : List (PySem.Str × Addr)) (fp : List Addr), PG (X.blk s H scope (compEnvC scope cl C X.env) fp) tg1 f)
    (each : ∀ (s : Shared) (H : Hp) (C : Addr) (cl : List (PySem.Str × Addr)) (fp : List Addr), PE (X.blk s H scope (compEnvC scope cl C X.env) fp) elt te) (same : ∀ x, foldedSetIterable src X.env x = pure x := by intro _; rfl) (same1 : ∀ env x, foldedSetIterable src1 env x = pure x := by intro _ _; rfl) :
    PE X (.SetComp elt [⟨tg, src, [], 0⟩, ⟨tg1, src1, [], 0⟩] scope pos) (tSet2 X.w wi g wj f te (own.map (·.2)) us) := by
  refine ⟨fun ps s σ H Q inv want => ?_⟩
  rw [PpSet.eval_SetComp]
  refine set_block calm nodup inv first ok same want rfl fun D it fp tn J H2 s3 s4 cl B eB hG new T inv4 at4 none4 fine => ?_
  obtain ⟨W, ⟨m0, w0⟩, turn⟩ := hG D new
  have Tb : Turn B.prog B.w B.K tg J fp it tn := by rw [eB]; exact T
  have tb : PG B tg g := by rw [eB]; exact tgt _ _ _ _ _
  have ub : PG B tg1 f := by rw [eB]; exact tgt1 _ _ _ _ _
  have sb2 : PI B tg1 src1 wj := by rw [eB]; exact second _ _ _ _ _
  have eb : PE B elt te := by rw [eB]; exact each _ _ _ _ _
  have cb : B.calm = true := by rw [eB]; exact calm
  have xb : B.xe = fun _ _ => False := by rw [eB]
  have wb : B.w = X.w := by rw [eB]
  have pb : B.prog = X.prog := by rw [eB]
  have ab : B.A = X.A := by rw [eB]
  rw [← wb, ← pb, ← ab]
  refine first_loop (same1 _) (fun n st => ∃ i H5, Inv B [] (wipe σ (own.map (·.2))) H5 st ∧ tn i st.heap ∧ (∀ b ∈ fp, H5 b = none) ∧ W i n H5) ?_ m0 s4 ⟨0, _, inv4, at4, none4, w0⟩
  rintro n st E ⟨i, H5, inv5, at5, none5, w5⟩
  refine clause_turn Tb cb tb xb inv5 (fine _ _ _ inv5 none5) at5 ?_
  rcases turn i n H5 w5 with ⟨stop, q⟩ | ⟨go, N, back, on⟩
  · exact .inl ⟨stop, fun s6 inv6 => ⟨H5, inv6, q⟩⟩
  · refine .inr ⟨go, fun x H6 y => ⟨_, on x H6 y, fun τ H7 sa sb ⟨wz, z⟩ at7 inv7 => ?_⟩⟩
    have len : (wipe σ (own.map (·.2))).length = τ.length := by rw [← wz, wipe_length]
    have knew : ∀ (j : Nat) v, (wipe σ (own.map (·.2)))[j]? = some (some v) → (wipe τ us)[j]? = some (some v) := fun j v e => by
      rw [← wz] at e
      obtain ⟨e1, e2⟩ := wipe_some e
      rw [wipe_out fun h => e2 (part j h)]
      exact e1
    have zz := sb2.run _ sb τ H7 _ inv7 z
    rw [xb] at zz
    refine thnF zz fun u sc got => ?_
    refine thnF got fun u2 sd ⟨it2, fp2, tn2, L, H8, e2, inv8, T2, at8, fine8, want8⟩ => ?_
    subst e2
    obtain ⟨V, ⟨k0, v0⟩, turn2⟩ := want8
    have loop : codeAny (model B.prog B.w) B.A (.compLoop (.SetComp elt [⟨tg, src, [], 0⟩, ⟨tg1, src1, [], 0⟩] scope pos) 1 (.ref it2) (.ref D) B.env) (fun out s6 => match out with
        | .error _ => False
        | .ok _ => ∃ m, m < n ∧ ∃ i H5, Inv B [] (wipe σ (own.map (·.2))) H5 s6 ∧ tn i s6.heap ∧ (∀ b ∈ fp, H5 b = none) ∧ W i m H5) sd := by
      refine second_loop (fun k st => ∃ j H9, Inv B ([] ++ pinsAt fp sa.heap) (wipe τ us) H9 st ∧ tn2 j st.heap ∧ (∀ b ∈ fp2, H9 b = none) ∧ V j k H9) ?_ k0 sd ⟨0, H8, inv8.weak (wipe_length _ _) (fun j v e => (wipe_some e).1), at8, fun b hb => (fine8 b hb).1, v0⟩
      rintro k se E2 ⟨j, H9, inv9, at9, none9, v9⟩
      refine clause_turn T2 cb ub xb inv9 (fun b hb => ⟨none9 b hb, (fine8 b hb).2⟩) at9 ?_
      rcases turn2 j k H9 v9 with ⟨stop2, nx⟩ | ⟨go2, M, back2, on2⟩
      · refine .inl ⟨stop2, fun s6 inv6 => ?_⟩
        obtain ⟨m2, less, w2⟩ := back _ nx
        obtain ⟨invZ, atZ, noneZ⟩ := clause_back Tb at7 inv6 (len.trans (wipe_length τ us).symm) knew
        exact ⟨m2, less, i + 1, _, invZ, atZ, noneZ, w2⟩
      · refine .inr ⟨go2, fun x2 HA y2 => ⟨_, on2 x2 HA y2, fun ρ HB sf sg ⟨wr, z2⟩ atB invB => ?_⟩⟩
        have z3 := eb.run _ sg ρ HB _ invB z2
        rw [xb] at z3
        refine thnF z3 fun u sh ⟨v, HC, invC, rel, kk, S, c, ek, has, room, nx⟩ => ?_
        subst ek
        obtain ⟨tk, rfl⟩ := rel
        rw [← wb] at has nx
        refine into_set invC has room fun sk invD => ?_
        obtain ⟨k2, less, v2⟩ := back2 _ nx
        obtain ⟨invZ, atZ, noneZ⟩ := clause_back (σ := wipe τ us) T2 atB invD (by rw [← wr, wipe_length]) (fun j v e => by
          rw [← wr] at e
          exact (wipe_some e).1)
        exact ⟨k2, less, j + 1, _, invZ, atZ, noneZ, v2⟩
    exact second_start (fun E3 => T2.self B.A 0 _ _ _ at8 loop) loop
end
end Ky
/-! ### keys that have a cell, cells of a lot -/
namespace Ky
open PySem PySem.Spec PyProof.Rows L2
/-- what a walk steps through -/
theorem walk_steps {J : It} {n : Nat} {G : Hp → Prop} {Y : Nat → Hp → V → Hp → Prop} (w : Walk J n G Y) {Step : V → Hp → (Hp → Prop) → Prop} {Fin_ : Hp → Prop} {H0 : Hp} (Pv : Nat → Hp → Prop) (h0 : Pv 0 H0) (hG : ∀ i H, i ≤ n → Pv i H → G H)
    (hs : ∀ i x H H', i < n → Pv i H → Y i H x H' → Step x H' (Pv (i + 1))) (hd : ∀ H, Pv n H → Fin_ H) :
    ∃ W : Nat → Nat → Hp → Prop, (∃ m, W 0 m H0) ∧ ∀ i m H, W i m H → (J.stop i H ∧ Fin_ H) ∨ (J.go i H ∧ ∃ N : Hp → Prop, (∀ H', N H' → ∃ m', m' < m ∧ W (i + 1) m' H') ∧ ∀ x H', J.yld i H x H' → Step x H' N) := by
  refine ⟨fun i m H => m = n - i ∧ i ≤ n ∧ Pv i H, ⟨n, by simp, Nat.zero_le _, h0⟩, ?_⟩
  rintro i m H ⟨rfl, hi, p⟩
  by_cases hlt : i < n
  · exact .inr ⟨w.goes i H hlt (hG i H hi p), Pv (i + 1), fun H' p' => ⟨n - (i + 1), by omega, rfl, hlt, p'⟩, fun x H' y => hs i x H H' hlt p (w.yields i H x H' hlt (hG i H hi p) y)⟩
  · have e : i = n := by omega
    subst e
    exact .inl ⟨w.stops H (hG _ H (Nat.le_refl _) p), hd H p⟩
section
variable {X : Cx} {tg l : Expr} {tl : TE}
theorem pi_tup_at (K : PySem.W.Frag) (e : X.K = K) (hl : PE X l tl) : PI X tg l (iTup K tl) := by subst e; exact pi_tup hl
theorem pi_seq_at (K : PySem.W.Frag) (e : X.K = K) (hl : PE X l tl) : PI X tg l (iSeq K tl) := by subst e; exact pi_seq hl
theorem op_in_seq_at (K : PySem.W.Frag) (e : X.K = K) : OpR X (compareOp .In) (rIn K false) := by subst e; exact op_in_seq
theorem pg_tup_at (K : PySem.W.Frag) (e : X.K = K) {es : List Expr} {k : Nat} {t : TGs} {n : Nat} {pos : Pos} (hc : X.calm = true) (h : PGs X es t)
    (hn : (assignEach es X.env).length = n := by rfl) (hst : (assignEach es X.env).findIdx? (·.1) = none := by rfl) : PG X (.Tuple es k pos) (gTup K n t) := by subst e; exact pg_tup hc h hn hst
end
/-- whether a key's row has a cell -/
def hasB (rows : List (List Nat)) (c k : Nat) : Bool := decide (c ∈ rows.getD k [])
def keysTo (rows : List (List Nat)) (c n : Nat) : List Nat := (List.range n).filter (hasB rows c)
def keysOf (rows : List (List Nat)) (c : Nat) : List Nat := keysTo rows c rows.length
theorem keysTo_succ (rows : List (List Nat)) (c n : Nat) : keysTo rows c (n + 1) = keysTo rows c n ++ if hasB rows c n = true then [n] else [] := by
  unfold keysTo
  rw [List.range_succ, List.filter_append]
  congr 1
  cases h : hasB rows c n with
  | true => simp [List.filter, h]
  | false => simp [List.filter, h]
theorem keysTo_len (rows : List (List Nat)) (c n : Nat) : (keysTo rows c n).length ≤ n := by
  unfold keysTo
  exact Nat.le_trans (List.length_filter_le _ _) (Nat.le_of_eq List.length_range)
theorem keysTo_asc (rows : List (List Nat)) (c n : Nat) : Asc n (keysTo rows c n) := by
  refine ⟨List.Pairwise.filter _ List.pairwise_lt_range, fun k hk => ?_⟩
  exact List.mem_range.mp (List.mem_filter.mp hk).1
def lotHas (rows : List (List Nat)) (lot : List Nat) (c : Nat) : Bool := lot.any (hasB rows c)
def cellsTo (rows : List (List Nat)) (lot : List Nat) (m : Nat) : List Nat := (List.range m).filter (lotHas rows lot)
theorem cellsTo_succ (rows : List (List Nat)) (lot : List Nat) (n : Nat) : cellsTo rows lot (n + 1) = cellsTo rows lot n ++ if lotHas rows lot n = true then [n] else [] := by
  unfold cellsTo
  rw [List.range_succ, List.filter_append]
  congr 1
  cases h : lotHas rows lot n with
  | true => simp [List.filter, h]
  | false => simp [List.filter, h]
theorem cellsTo_len (rows : List (List Nat)) (lot : List Nat) (n : Nat) : (cellsTo rows lot n).length ≤ n := by
  unfold cellsTo
  exact Nat.le_trans (List.length_filter_le _ _) (Nat.le_of_eq List.length_range)
theorem cellsTo_asc (rows : List (List Nat)) (lot : List Nat) (n : Nat) : Asc n (cellsTo rows lot n) := by
  refine ⟨List.Pairwise.filter _ List.pairwise_lt_range, fun k hk => ?_⟩
  exact List.mem_range.mp (List.mem_filter.mp hk).1
def spKeysOf (K : PySem.W.Frag) : Sp := fun vs H Q _ => ∃ (x : V) (m : Nat) (rows : List (List Nat)) (c : Nat), vs = [x, .int (c : Int)] ∧ Dp K H x (pageD m rows) ∧ Good m rows ∧ c < m ∧ GxR.TabG H (tA K "is_book") ∧
  ∀ (H' : Hp) (p : Addr), Gro H H' → SqT K H' p (intsV (keysOf rows c)) → Q (.ref p) H'
def spCellsOf (K : PySem.W.Frag) : Sp := fun vs H Q _ => ∃ (x y : V) (m : Nat) (rows : List (List Nat)) (lot : List Nat), vs = [x, y] ∧ Dp K H x (pageD m rows) ∧ Good m rows ∧ m ≤ 60 ∧ Dp K H y (rowD lot) ∧ Asc rows.length lot ∧ GxR.TabG H (tA K "is_book") ∧
  ∀ (H' : Hp) (p : Addr), Gro H H' → SqT K H' p (intsV (cellsTo rows lot m)) → Q (.ref p) H'
def spKeysL (K : PySem.W.Frag) : Sp := fun vs H Q _ => ∃ (x : V) (m : Nat) (rows : List (List Nat)) (c : Nat), vs = [x, .int (c : Int)] ∧ Dp K H x (pageD m rows) ∧ rows.length ≤ 1000 ∧
  ∀ (H' : Hp) (p : Addr), Gro H H' → SqT K H' p (intsV (keysOf rows c)) → Q (.ref p) H'
def spCellsL (K : PySem.W.Frag) : Sp := fun vs H Q _ => ∃ (x y : V) (m : Nat) (rows : List (List Nat)) (lot : List Nat), vs = [x, y] ∧ Dp K H x (pageD m rows) ∧ m ≤ 1000 ∧ rows.length ≤ 1000 ∧ Dp K H y (rowD lot) ∧ Asc rows.length lot ∧
  ∀ (H' : Hp) (p : Addr), Gro H H' → SqT K H' p (intsV (cellsTo rows lot m)) → Q (.ref p) H'
theorem nodup_few {m : Nat} {l : List Nat} (h : l.Nodup) (lt : ∀ c ∈ l, c < m) : l.length ≤ m := by
  have p := List.mergeSort_perm l (fun a b => decide (a ≤ b))
  have s := List.pairwise_mergeSort (le := fun a b : Nat => decide (a ≤ b)) (fun a b c h1 h2 => by
    have := of_decide_eq_true h1
    have := of_decide_eq_true h2
    exact decide_eq_true (by omega)) (fun a b => by
    by_cases z : a ≤ b
    · rw [decide_eq_true z]; rfl
    · rw [decide_eq_true (show b ≤ a by omega), Bool.or_true]) l
  rw [← p.length_eq]
  refine asc_len ⟨?_, fun k hk => lt k (p.mem_iff.mp hk)⟩
  have n : (l.mergeSort fun a b => decide (a ≤ b)).Nodup := p.nodup_iff.mpr h
  exact (List.Pairwise.and s n).imp fun ⟨a, b⟩ => Nat.lt_of_le_of_ne (of_decide_eq_true a) b
theorem getD_row {rows : List (List Nat)} {k : Nat} (h : k < rows.length) : rows.getD k [] = rows[k] := by
  rw [List.getD_eq_getElem?_getD, List.getElem?_eq_getElem h]
  rfl
theorem hasB_row {rows : List (List Nat)} {k c : Nat} (h : k < rows.length) : hasB rows c k = decide (c ∈ rows[k]) := by
  unfold hasB
  rw [getD_row h]
/-- the cells met so far -/
def setOf (l : List Nat) : Int → Bool := fun j => decide (j ∈ l.map fun k : Nat => (k : Int))
theorem setOf_old {l : List Nat} {c : Nat} (h : c ∈ l) : (fun j => setOf l j || decide (j = (c : Int))) = setOf l ∧ setOf l (c : Int) = true := by
  have e : setOf l (c : Int) = true := decide_eq_true (List.mem_map.mpr ⟨c, h, rfl⟩)
  refine ⟨funext fun j => ?_, e⟩
  by_cases z : j = (c : Int)
  · rw [z, e, Bool.true_or]
  · rw [decide_eq_false z, Bool.or_false]
theorem setOf_new {l : List Nat} {c : Nat} (h : c ∉ l) : (fun j => setOf l j || decide (j = (c : Int))) = setOf (l ++ [c]) ∧ setOf l (c : Int) = false := by
  have e : setOf l (c : Int) = false := decide_eq_false fun z => by
    obtain ⟨d, hd, e⟩ := List.mem_map.mp z
    have : d = c := by omega
    rw [this] at hd
    exact h hd
  refine ⟨funext fun j => ?_, e⟩
  unfold setOf
  rw [List.map_append]
  by_cases z : j ∈ l.map fun k : Nat => (k : Int)
  · rw [decide_eq_true z, Bool.true_or, decide_eq_true (List.mem_append_left _ z)]
  · rw [decide_eq_false z, Bool.false_or]
    by_cases y : j = (c : Int)
    · rw [decide_eq_true y, decide_eq_true (List.mem_append_right _ (by rw [y]; exact List.mem_singleton.mpr rfl))]
    · rw [decide_eq_false y, decide_eq_false fun q => by
        rcases List.mem_append.mp q with q | q
        · exact z q
        · exact y (List.mem_singleton.mp q)]
/-- a set that holds l -/
def HoldsAt (w : World) (H : Hp) (D : Addr) (l : List Nat) : Prop := H D = some (SetO w D (setOf l) l.length)
theorem HoldsAt.put {w : World} {H : Hp} {D : Addr} {l : List Nat} (c : Nat) (n : l.Nodup) : ∃ l', (c ∈ l' ∧ ∀ d, d ∈ l' ↔ d ∈ l ∨ d = c) ∧ l'.Nodup ∧
    HoldsAt w (upd H D (SetO w D (fun j => setOf l j || decide (j = (c : Int))) (if setOf l (c : Int) = true then l.length else l.length + 1))) D l' := by
  by_cases h : c ∈ l
  · obtain ⟨e1, e2⟩ := setOf_old h
    refine ⟨l, ⟨h, fun d => ⟨.inl, fun z => z.elim id fun e => e ▸ h⟩⟩, n, ?_⟩
    unfold HoldsAt
    rw [upd_same, e1, e2, if_pos rfl]
  · obtain ⟨e1, e2⟩ := setOf_new h
    refine ⟨l ++ [c], ⟨by simp, fun d => by simp⟩, ?_, ?_⟩
    · rw [List.nodup_append]
      exact ⟨n, List.pairwise_singleton _ _, fun x hx y hy e => by rw [List.mem_singleton.mp hy] at e; rw [e] at hx; exact h hx⟩
    · unfold HoldsAt
      rw [upd_same, e1, e2, if_neg (by decide), List.length_append]
      rfl
theorem setO_gro {H H1 : Hp} {w : World} {D : Addr} {S : Int → Bool} {n : Nat} (h : H D = some (SetO w D S n)) (g : Gro H H1) : H1 D = some (SetO w D S n) := g.at h
def spTurn2 (K : PySem.W.Frag) (tf : List Str) : Sp := fun vs H Q _ => ∃ (a : Addr) (most : Nat), vs = [.ref a, .int (most : Int)] ∧ 1 ≤ most ∧ most ≤ 40 ∧ DeckAt H a ∧ (∀ x ∈ tf, GxR.TabG H (tA K x)) ∧ ∀ H', OffG a H H' → Q (.bl true) H'
/-- for each cell the keys that have it -/
def allKeys (m : Nat) (rows : List (List Nat)) : List PyData := (List.range m).map fun c => rowD (keysOf rows c)
def spLotRight (K : PySem.W.Frag) : Sp := fun vs H Q _ => ∃ (x y : V) (ak : Addr) (m : Nat) (rows : List (List Nat)) (lot : List Nat) (ws : List V), vs = [x, y, .ref ak] ∧ Dp K H x (pageD m rows) ∧ Good m rows ∧ m ≤ 60 ∧ Dp K H y (rowD lot) ∧ Asc rows.length lot ∧
  SqL K H ak ws ∧ DpAll K H ws (allKeys m rows) ∧ GxR.TabG H (tA K "is_book") ∧ ∀ H', Gro H H' → Q (.bl true) H'
theorem pick_getD {rows : List (List Nat)} {lot : List Nat} {k : Nat} (h : k < lot.length) : (pick rows lot).getD k [] = rows.getD lot[k] [] := by
  unfold pick
  rw [List.getD_eq_getElem?_getD, List.getElem?_map, List.getElem?_eq_getElem h]
  rfl
/-- the cells of a part's keys -/
theorem cells_pick (rows : List (List Nat)) (lot : List Nat) (m : Nat) : cellsTo (pick rows lot) (List.range lot.length) m = cellsTo rows lot m := by
  unfold cellsTo
  refine List.filter_congr fun c _ => ?_
  unfold lotHas
  rw [Bool.eq_iff_iff, List.any_eq_true, List.any_eq_true]
  constructor
  · rintro ⟨k, hk, h⟩
    have hk2 := List.mem_range.mp hk
    refine ⟨lot[k], List.getElem_mem hk2, ?_⟩
    unfold hasB at h ⊢
    rw [pick_getD hk2] at h
    exact h
  · rintro ⟨k, hk, h⟩
    obtain ⟨i, hi, e⟩ := List.mem_iff_getElem.mp hk
    refine ⟨i, List.mem_range.mpr hi, ?_⟩
    unfold hasB at h ⊢
    rw [pick_getD hi, e]
    exact h
/-- a cell is of the lot's cells exactly if one of its keys is of the lot -/
theorem cell_key {rows : List (List Nat)} {lot : List Nat} {m c : Nat} (hc : c < m) (hA : Asc rows.length lot) : decide (c ∈ cellsTo rows lot m) = !((keysOf rows c).filter fun k => decide (k ∈ lot)).isEmpty := by
  have e : (c ∈ cellsTo rows lot m) ↔ ∃ k, k ∈ (keysOf rows c).filter fun k => decide (k ∈ lot) := by
    unfold cellsTo lotHas keysOf keysTo
    rw [List.mem_filter, List.any_eq_true, List.mem_range]
    constructor
    · rintro ⟨_, k, hk, h⟩
      exact ⟨k, List.mem_filter.mpr ⟨List.mem_filter.mpr ⟨List.mem_range.mpr (hA.2 k hk), h⟩, decide_eq_true hk⟩⟩
    · rintro ⟨k, hk⟩
      obtain ⟨h1, h2⟩ := List.mem_filter.mp hk
      exact ⟨hc, k, of_decide_eq_true h2, (List.mem_filter.mp h1).2⟩
  cases z : (keysOf rows c).filter fun k => decide (k ∈ lot) with
  | nil =>
    rw [z] at e
    exact decide_eq_false fun h => by
      obtain ⟨k, hk⟩ := e.mp h
      exact List.not_mem_nil hk
  | cons k r => exact decide_eq_true (e.mpr ⟨k, by rw [z]; exact List.mem_cons_self⟩)
end Ky
/-! ### sums over cells; a key more, a key less -/
namespace Ky
open PySem PySem.Spec PyProof.Rows L2
def tot (rows : List (List Nat)) (m : Nat) : Nat := ((List.range m).map fun c => (keysOf rows c).length).sum
theorem tot_zero (rows : List (List Nat)) : tot rows 0 = 0 := rfl
theorem tot_succ (rows : List (List Nat)) (m : Nat) : tot rows (m + 1) = tot rows m + (keysOf rows m).length := by
  unfold tot
  rw [List.range_succ, List.map_append, List.sum_append]
  simp
theorem keysTo_count (rows : List (List Nat)) (c : Nat) : ∀ n, n ≤ rows.length → (keysTo rows c n).length = (rows.take n).countP fun r => decide (c ∈ r)
  | 0, _ => rfl
  | n + 1, h => by
    have hn : n < rows.length := by omega
    rw [keysTo_succ, List.length_append, keysTo_count rows c n (by omega), List.take_add_one, List.getElem?_eq_getElem hn, List.countP_append, hasB_row hn]
    congr 1
    cases z : decide (c ∈ rows[n]) with
    | true => simp [z]
    | false => simp [z]
theorem keysOf_count (rows : List (List Nat)) (c : Nat) : (keysOf rows c).length = rows.countP fun r => decide (c ∈ r) := by
  unfold keysOf
  rw [keysTo_count rows c _ (Nat.le_refl _), List.take_length]
theorem sum_add (f g : Nat → Nat) : ∀ l : List Nat, (l.map fun c => f c + g c).sum = (l.map f).sum + (l.map g).sum
  | [] => rfl
  | c :: l => by
    rw [List.map_cons, List.map_cons, List.map_cons, List.sum_cons, List.sum_cons, List.sum_cons, sum_add f g l]
    omega
theorem row_count {m : Nat} {r : List Nat} (h : Asc m r) : ((List.range m).map fun c => if decide (c ∈ r) = true then 1 else 0).sum = r.length := by
  have e : (List.range m).filter (fun c => decide (c ∈ r)) = r := isRow_uniq (List.Pairwise.filter _ List.pairwise_lt_range) h.1 fun k => by
    rw [List.mem_filter, List.mem_range]
    exact ⟨fun z => of_decide_eq_true z.2, fun z => ⟨h.2 k z, decide_eq_true z⟩⟩
  have f : ∀ l : List Nat, (l.map fun c => if decide (c ∈ r) = true then 1 else 0).sum = (l.filter fun c => decide (c ∈ r)).length := fun l => by
    induction l with
    | nil => rfl
    | cons c l ih =>
      rw [List.map_cons, List.sum_cons, ih, List.filter_cons]
      cases z : decide (c ∈ r) with
      | true => simp; omega
      | false => simp
  rw [f, e]
theorem tot_rows {m : Nat} : ∀ {rows : List (List Nat)}, (∀ r ∈ rows, Asc m r) → ((List.range m).map fun c => rows.countP fun r => decide (c ∈ r)).sum = (rows.map List.length).sum
  | [], _ => by
    have : ∀ l : List Nat, (l.map fun c => ([] : List (List Nat)).countP fun r => decide (c ∈ r)).sum = 0 := fun l => by
      induction l with
      | nil => rfl
      | cons c l ih => rw [List.map_cons, List.sum_cons, ih]; rfl
    exact this _
  | r :: rows, h => by
    have e : (fun c => (r :: rows).countP fun r => decide (c ∈ r)) = fun c => (rows.countP fun r => decide (c ∈ r)) + (if decide (c ∈ r) = true then 1 else 0) := funext fun c => by rw [List.countP_cons]
    rw [e, sum_add, tot_rows fun x hx => h x (List.mem_cons_of_mem _ hx), row_count (h r List.mem_cons_self), List.map_cons, List.sum_cons]
    exact Nat.add_comm _ _
theorem tot_all {m : Nat} {rows : List (List Nat)} (g : Good m rows) : tot rows m = (rows.map List.length).sum := by
  rw [← tot_rows fun r hr => (g.row r hr).2]
  unfold tot
  congr 1
  exact List.map_congr_left fun c _ => keysOf_count rows c
/-- a key more -/
theorem keys_more (rows : List (List Nat)) (r : List Nat) (c : Nat) : keysOf (rows ++ [r]) c = keysOf rows c ++ if decide (c ∈ r) = true then [rows.length] else [] := by
  have e : keysTo (rows ++ [r]) c rows.length = keysTo rows c rows.length := by
    unfold keysTo
    refine List.filter_congr fun k hk => ?_
    have hk2 := List.mem_range.mp hk
    unfold hasB
    rw [List.getD_eq_getElem?_getD, List.getD_eq_getElem?_getD, List.getElem?_append_left hk2]
  unfold keysOf
  rw [List.length_append, List.length_singleton, keysTo_succ, e]
  have h : hasB (rows ++ [r]) c rows.length = decide (c ∈ r) := by
    unfold hasB
    rw [List.getD_eq_getElem?_getD, List.getElem?_append_right (Nat.le_refl _), Nat.sub_self]
    rfl
  rw [h]
/-- a key less -/
def lessK (k o : Nat) : Nat := if k < o then o - 1 else o
theorem keys_less {rows : List (List Nat)} {k : Nat} (hk : k < rows.length) (c : Nat) : keysOf (rows.take k ++ rows.drop (k + 1)) c = ((keysOf rows c).filter fun o => decide (o ≠ k)).map (lessK k) := by
  have hl : (rows.take k ++ rows.drop (k + 1)).length = rows.length - 1 := by
    rw [List.length_append, List.length_take, List.length_drop]
    omega
  have hb : ∀ j, j < rows.length - 1 → hasB (rows.take k ++ rows.drop (k + 1)) c j = hasB rows c (if j < k then j else j + 1) := fun j hj => by
    unfold hasB
    rw [List.getD_eq_getElem?_getD, List.getD_eq_getElem?_getD]
    by_cases h : j < k
    · rw [if_pos h, List.getElem?_append_left (by rw [List.length_take]; omega), List.getElem?_take, if_pos h]
    · rw [if_neg h, List.getElem?_append_right (by rw [List.length_take]; omega), List.length_take, List.getElem?_drop]
      rw [show k + 1 + (j - min k rows.length) = j + 1 by omega]
  refine isRow_uniq (keysTo_asc _ _ _).1 ?_ fun j => ?_
  · rw [List.pairwise_map]
    have p := List.Pairwise.filter (fun o => decide (o ≠ k)) (keysTo_asc rows c rows.length).1
    refine List.Pairwise.imp_of_mem (fun {a b} ha hb hab => ?_) p
    have na : a ≠ k := of_decide_eq_true (List.mem_filter.mp ha).2
    have nb : b ≠ k := of_decide_eq_true (List.mem_filter.mp hb).2
    unfold lessK
    split <;> split <;> omega
  · unfold keysOf keysTo
    rw [List.mem_filter, List.mem_range, hl, List.mem_map]
    constructor
    · rintro ⟨h1, h2⟩
      rw [hb j h1] at h2
      refine ⟨if j < k then j else j + 1, List.mem_filter.mpr ⟨List.mem_filter.mpr ⟨List.mem_range.mpr ?_, h2⟩, decide_eq_true ?_⟩, ?_⟩
      · split <;> omega
      · split <;> omega
      · unfold lessK
        split <;> split <;> omega
    · rintro ⟨o, ho, rfl⟩
      obtain ⟨h1, h2⟩ := List.mem_filter.mp ho
      obtain ⟨h3, h4⟩ := List.mem_filter.mp h1
      have h5 := List.mem_range.mp h3
      have h6 : o ≠ k := of_decide_eq_true h2
      have h7 : lessK k o < rows.length - 1 := by unfold lessK; split <;> omega
      refine ⟨h7, ?_⟩
      rw [hb _ h7]
      have h8 : (if lessK k o < k then lessK k o else lessK k o + 1) = o := by
        unfold lessK
        split <;> split <;> omega
      rw [h8]
      exact h4
section
variable {K : PySem.W.Frag} {tf : List Str} {a g B R : Addr} {m : Nat} {rows : List (List Nat)} {H H1 : Hp}
theorem PG4.put (w : PG4 K tf a H g B m rows H1) {xs : List V} (ys : List V) (e : H1 R = some (.lst xs)) (n : H R = none) (na : R ≠ a) : PG4 K tf a H g B m rows (upd H1 R (.lst ys)) := by
  obtain ⟨xs2, h1, h2⟩ := w.rows
  have t := Tup.put ys e
  exact ⟨w.off.put n, deck_put w.deck na, fun x hx => t.tg (w.tabs x hx), t.page w.page, xs2, t.sqt h1, t.rows h2⟩
end
theorem rows_shapedT (rows : List (List Nat)) : SeqAt.shaped (.tuple (rows.map rowD)) = true := rows_shaped rows
end Ky
/-! ### mixings -/
namespace Ky
open PySem PySem.Spec PyProof.Rows L2
def pqD (q : Nat × Nat) : PyData := .tuple [.int (q.1 : Int), .int (q.2 : Int)]
def mixD (m p : Nat) (pairs : List (Nat × Nat)) (mark : Nat × Nat) : PyData := .tuple [.int (m : Int), .int (p : Int), .tuple (pairs.map pqD), pqD mark]
structure MixOk (m p : Nat) (pairs : List (Nat × Nat)) (mark : Nat × Nat) : Prop where
  m1 : 1 ≤ m
  m2 : m ≤ 60
  p1 : 2 ≤ p
  p2 : p ≤ 2000
  some_ : pairs ≠ []
  few : pairs.length ≤ 60
  each : ∀ q ∈ pairs, q.1 < p ∧ q.2 < p
  mkd : mark.1 < p ∧ mark.2 < p
theorem pair_inv {K : PySem.W.Frag} {H : Hp} {v : V} {q : Nat × Nat} (h : Dp K H v (pqD q)) : ∃ a, v = .ref a ∧ SqT K H a [.int (q.1 : Int), .int (q.2 : Int)] := by
  cases h with
  | tup h1 h2 =>
    cases h2 with
    | cons a h2 =>
      cases h2 with
      | cons b h2 =>
        cases h2
        cases a
        cases b
        exact ⟨_, rfl, h1⟩
theorem pair_mk {K : PySem.W.Frag} {H : Hp} {a : Addr} {q : Nat × Nat} (h : SqT K H a [.int (q.1 : Int), .int (q.2 : Int)]) : Dp K H (.ref a) (pqD q) := .tup h (.cons (.int _) (.cons (.int _) .nil))
theorem mix_inv {K : PySem.W.Frag} {H : Hp} {v : V} {m p : Nat} {pairs : List (Nat × Nat)} {mark : Nat × Nat} (h : Dp K H v (mixD m p pairs mark)) :
    ∃ (a b c : Addr) (xs : List V), v = .ref a ∧ SqT K H a [.int (m : Int), .int (p : Int), .ref b, .ref c] ∧ SqT K H b xs ∧ DpAll K H xs (pairs.map pqD) ∧ SqT K H c [.int (mark.1 : Int), .int (mark.2 : Int)] := by
  cases h with
  | tup h1 h2 =>
    cases h2 with
    | cons hm h2 =>
      cases h2 with
      | cons hp h2 =>
        cases h2 with
        | cons hb h2 =>
          cases h2 with
          | cons hc h2 =>
            cases h2
            cases hm
            cases hp
            obtain ⟨c, rfl, hc2⟩ := pair_inv hc
            cases hb with
            | tup b1 b2 => exact ⟨_, _, _, _, rfl, h1, b1, b2, hc2⟩
theorem mix_mk {K : PySem.W.Frag} {H : Hp} {a b : Addr} {c : V} {xs : List V} {m p : Nat} {pairs : List (Nat × Nat)} {mark : Nat × Nat} (h1 : SqT K H a [.int (m : Int), .int (p : Int), .ref b, c]) (h2 : SqT K H b xs) (h3 : DpAll K H xs (pairs.map pqD)) (h4 : Dp K H c (pqD mark)) :
    Dp K H (.ref a) (mixD m p pairs mark) := .tup h1 (.cons (.int _) (.cons (.int _) (.cons (.tup h2 h3) (.cons h4 .nil))))
/-! ### judged -/
def isPairD : PyData → Int → Int → Bool
  | .tuple [a, b], s, t => isBelowD a s && isBelowD b t
  | _, _, _ => false
def arePairsD : PyData → Int → Int → Bool
  | .tuple ds, s, t => ds.all fun d => isPairD d s t
  | _, _, _ => false
def someD : PyData → Bool
  | .tuple ds => !ds.isEmpty
  | _ => false
def isMixD : PyData → Bool
  | .tuple [m, .int p, pairs, mark] => isIntD m 1 && (decide (2 ≤ p) && (arePairsD pairs p p && (someD pairs && isPairD mark p p)))
  | _ => false
def spIsPair (K : PySem.W.Frag) : Sp := fun vs H Q _ => ∃ (x : V) (d : PyData) (s t : Int), vs = [x, .int s, .int t] ∧ Dp K H x d ∧ Q (.bl (isPairD d s t)) H
def spArePairs (K : PySem.W.Frag) : Sp := fun vs H Q _ => ∃ (x : V) (d : PyData) (s t : Int), vs = [x, .int s, .int t] ∧ Dp K H x d ∧ GxR.TabG H (tA K "are_pairs") ∧ ∀ H', Gro H H' → Q (.bl (arePairsD d s t)) H'
def spIsMix (K : PySem.W.Frag) : Sp := fun vs H Q _ => ∃ (x : V) (d : PyData), vs = [x] ∧ Dp K H x d ∧ GxR.TabG H (tA K "are_pairs") ∧ ∀ H', Gro H H' → Q (.bl (isMixD d)) H'
theorem pqD_ok {q : Nat × Nat} {p : Nat} (h : q.1 < p ∧ q.2 < p) : isPairD (pqD q) p p = true := by
  show (isBelowD (.int (q.1 : Int)) p && isBelowD (.int (q.2 : Int)) p) = true
  rw [isBelow_nat h.1, isBelow_nat h.2] <;> rfl
theorem MixOk.is {m p : Nat} {pairs : List (Nat × Nat)} {mark : Nat × Nat} (h : MixOk m p pairs mark) : isMixD (mixD m p pairs mark) = true := by
  have h1 := h.m1
  have h2 := h.p1
  have e1 : isIntD (.int (m : Int)) 1 = true := decide_eq_true (by omega)
  have e2 : decide ((2 : Int) ≤ (p : Int)) = true := decide_eq_true (by omega)
  have e3 : arePairsD (.tuple (pairs.map pqD)) p p = true := by
    show (pairs.map pqD).all _ = true
    rw [List.all_map]
    exact List.all_eq_true.mpr fun q hq => pqD_ok (h.each q hq)
  have e4 : someD (.tuple (pairs.map pqD)) = true := by
    cases hp : pairs with
    | nil => exact absurd hp h.some_
    | cons a l => rfl
  show (isIntD (.int (m : Int)) 1 && (decide ((2 : Int) ≤ (p : Int)) && (arePairsD (.tuple (pairs.map pqD)) p p && (someD (.tuple (pairs.map pqD)) && isPairD (pqD mark) p p)))) = true
  rw [e1, e2, e3, e4, pqD_ok h.mkd] <;> rfl
def spCheckMix (K : PySem.W.Frag) : Sp := fun vs H Q _ => ∃ (x : V) (m p : Nat) (pairs : List (Nat × Nat)) (mark : Nat × Nat), vs = [x] ∧ Dp K H x (mixD m p pairs mark) ∧ MixOk m p pairs mark ∧ GxR.TabG H (tA K "are_pairs") ∧ ∀ H', Gro H H' → Q .non H'
/-! ### reckoned -/
def led (p x : Nat) (q : Nat × Nat) : Nat := (q.1 * x + q.2) % p
def rowM (m p : Nat) (pairs : List (Nat × Nat)) (x : Nat) : List Nat := (List.range m).filter fun c => pairs.any fun q => led p x q % m == c
def seedP (p s : Nat) (q : Nat × Nat) : Nat × Nat := ((q.1 * (2 * s + 1) + s) % p, (q.2 + s * s) % p)
theorem rowM_row {m p x : Nat} {pairs : List (Nat × Nat)} {l : List Nat} (hm : 1 ≤ m) (hp : l.Pairwise (· < ·)) (h : ∀ c, c ∈ l ↔ ∃ q ∈ pairs, led p x q % m = c) : l = rowM m p pairs x := by
  refine isRow_uniq hp (List.Pairwise.filter _ List.pairwise_lt_range) fun c => ?_
  rw [h]
  unfold rowM
  rw [List.mem_filter, List.any_eq_true, List.mem_range]
  constructor
  · rintro ⟨q, hq, e⟩
    exact ⟨by rw [← e]; exact Nat.mod_lt _ (by omega), q, hq, by rw [e]; exact beq_self_eq_true c⟩
  · rintro ⟨_, q, hq, e⟩
    exact ⟨q, hq, eq_of_beq e⟩
theorem rowM_ok {m p x : Nat} {pairs : List (Nat × Nat)} (hm : 1 ≤ m) (hp : pairs ≠ []) : RowOk m (rowM m p pairs x) := by
  refine ⟨fun z => ?_, List.Pairwise.filter _ List.pairwise_lt_range, fun k hk => List.mem_range.mp (List.mem_filter.mp hk).1⟩
  cases pairs with
  | nil => exact hp rfl
  | cons q l =>
    have : led p x q % m ∈ rowM m p (q :: l) x := by
      unfold rowM
      rw [List.mem_filter, List.any_eq_true, List.mem_range]
      exact ⟨Nat.mod_lt _ (by omega), q, List.mem_cons_self, beq_self_eq_true _⟩
    rw [z] at this
    exact List.not_mem_nil this
def spMixed (K : PySem.W.Frag) : Sp := fun vs H Q _ => ∃ (v : V) (q : Nat × Nat) (p x : Nat), vs = [v, .int (p : Int), .int (x : Int)] ∧ Dp K H v (pqD q) ∧ q.1 < p ∧ q.2 < p ∧ p ≤ 2000 ∧ x < 2 ^ 300 ∧ Q (.int (led p x q : Int)) H
def spRowM (K : PySem.W.Frag) : Sp := fun vs H Q _ => ∃ (v : V) (m p : Nat) (pairs : List (Nat × Nat)) (mark : Nat × Nat) (x : Nat), vs = [v, .int (x : Int)] ∧ Dp K H v (mixD m p pairs mark) ∧ MixOk m p pairs mark ∧ x < 2 ^ 300 ∧ GxR.TabG H (tA K "are_pairs") ∧
  ∀ (H' : Hp) (a : Addr), Gro H H' → SqT K H' a (intsV (rowM m p pairs x)) → Q (.ref a) H'
def spMarkM (K : PySem.W.Frag) : Sp := fun vs H Q _ => ∃ (v : V) (m p : Nat) (pairs : List (Nat × Nat)) (mark : Nat × Nat) (w x : Nat), vs = [v, .int (w : Int), .int (x : Int)] ∧ Dp K H v (mixD m p pairs mark) ∧ MixOk m p pairs mark ∧ 1 ≤ w ∧ w ≤ 1000 ∧ x < 2 ^ 300 ∧ GxR.TabG H (tA K "are_pairs") ∧
  ∀ H', Gro H H' → Q (.int ((led p x mark % 2 ^ w : Nat) : Int)) H'
def spSeedP (K : PySem.W.Frag) : Sp := fun vs H Q _ => ∃ (v : V) (q : Nat × Nat) (p s : Nat), vs = [v, .int (p : Int), .int (s : Int)] ∧ Dp K H v (pqD q) ∧ q.1 < p ∧ q.2 < p ∧ p ≤ 2000 ∧ s < 2 ^ 300 ∧ ∀ (H' : Hp) (a : Addr), Gro H H' → SqT K H' a [.int ((seedP p s q).1 : Int), .int ((seedP p s q).2 : Int)] → Q (.ref a) H'
def spSeeded (K : PySem.W.Frag) : Sp := fun vs H Q _ => ∃ (v : V) (m p : Nat) (pairs : List (Nat × Nat)) (mark : Nat × Nat) (s : Nat), vs = [v, .int (s : Int)] ∧ Dp K H v (mixD m p pairs mark) ∧ MixOk m p pairs mark ∧ s < 2 ^ 300 ∧ GxR.TabG H (tA K "are_pairs") ∧
  ∀ (H' : Hp) (a : Addr), Gro H H' → Dp K H' (.ref a) (mixD m p (pairs.map (seedP p s)) (seedP p s mark)) → Q (.ref a) H'
theorem MixOk.seeded {m p : Nat} {pairs : List (Nat × Nat)} {mark : Nat × Nat} (h : MixOk m p pairs mark) (s : Nat) : MixOk m p (pairs.map (seedP p s)) (seedP p s mark) := by
  have hp : 0 < p := by have := h.p1; omega
  have one : ∀ q, (seedP p s q).1 < p ∧ (seedP p s q).2 < p := fun q => ⟨Nat.mod_lt _ hp, Nat.mod_lt _ hp⟩
  refine ⟨h.m1, h.m2, h.p1, h.p2, fun z => h.some_ (List.map_eq_nil_iff.mp z), by rw [List.length_map]; exact h.few, fun q hq => ?_, one mark⟩
  obtain ⟨r, _, rfl⟩ := List.mem_map.mp hq
  exact one r
def spUnlike (K : PySem.W.Frag) : Sp := fun vs H Q _ => ∃ (a : Addr) (ns : List Nat), vs = [.ref a] ∧ WordsAt K H a ns ∧ ns.Nodup ∧ ns.length ≤ 60 ∧ ∀ H', Gro H H' → Q (.bl true) H'
def spCheckNums (K : PySem.W.Frag) : Sp := fun vs H Q _ => ∃ (a : Addr) (ns : List Nat), vs = [.ref a] ∧ WordsAt K H a ns ∧ ns.Nodup ∧ ns.length ≤ 60 ∧ GxR.TabG H (tA K "are_integers") ∧ ∀ H', Gro H H' → Q .non H'
def spBookOf (K : PySem.W.Frag) : Sp := fun vs H Q _ => ∃ (v : V) (a : Addr) (m p : Nat) (pairs : List (Nat × Nat)) (mark : Nat × Nat) (ns : List Nat), vs = [v, .ref a] ∧ Dp K H v (mixD m p pairs mark) ∧ MixOk m p pairs mark ∧ WordsAt K H a ns ∧ ns.Nodup ∧ ns.length ≤ 60 ∧ (∀ x ∈ ns, x < 2 ^ 300) ∧
  GxR.TabG H (tA K "are_pairs") ∧ GxR.TabG H (tA K "are_integers") ∧ ∀ (H' : Hp) (b : Addr), Gro H H' → Dp K H' (.ref b) (pageD m (ns.map (rowM m p pairs))) → Q (.ref b) H'
/-! ### how many there are in a set of ints -/
def rLenO (w : World) : List V → Hp → VK → Prop := fun xs H Q => ∃ (a : Addr) (S : Int → Bool) (n : Nat), xs = [V.ref a] ∧ H a = some (SetO w a S n) ∧ ((∀ l : List Int, l.Nodup → (∀ k, S k = true ↔ k ∈ l) → n = l.length) → Q (.int (n : Int)) H)
theorem call_lenO {X : Cx} : CallR X (.builtin "len") (rLenO X.w) := by
  intro pins s σ H xs us Q I r h
  obtain ⟨a, S, n, rfl, has, q⟩ := h
  rw [Vals.ref1 r]
  obtain ⟨o, es, ep, t, ho, hex, hd, good, nodup, mem, few, fits, size, _, _⟩ := setO_get I has
  have sb : scanBound < 2 ^ 60 := by decide
  refine call_len_set ho hex hd fits (by omega) ⟨.int n, H, I.tok _, ⟨_, by rw [size]⟩, q fun l hl hm => ?_⟩
  have p : (es.toList.map keyOf).Perm l := (List.perm_ext_iff_of_nodup nodup hl).mpr fun k => (mem k).symm.trans (hm k)
  have e := p.length_eq
  rw [List.length_map, Array.length_toList] at e
  omega
theorem mix_len {ds : List PyData} (h : ds.length ≠ 4) : isMixD (.tuple ds) = false := by
  match ds, h with
  | [], _ => rfl
  | [_], _ => rfl
  | [_, b], _ => cases b <;> rfl
  | [_, b, _], _ => cases b <;> rfl
  | [_, _, _, _], h => exact absurd rfl h
  | _ :: b :: _ :: _ :: _ :: _, _ => cases b <;> rfl
theorem mix_1 {d1 d2 d3 d4 : PyData} (h : isIntD d1 1 = false) : isMixD (.tuple [d1, d2, d3, d4]) = false := by
  cases d2 with
  | int p =>
    show (isIntD d1 1 && _) = false
    rw [h, Bool.false_and]
  | _ => rfl
theorem mix_2 {d1 d2 d3 d4 : PyData} (h : isIntD d2 2 = false) : isMixD (.tuple [d1, d2, d3, d4]) = false := by
  cases d2 with
  | int p =>
    show (isIntD d1 1 && (decide (2 ≤ p) && _)) = false
    rw [show decide ((2 : Int) ≤ p) = false from h, Bool.false_and, Bool.and_false]
  | _ => rfl
/-! ### the law's own -/
def spRowL (K : PySem.W.Frag) : Sp := fun vs H Q _ => ∃ (v : V) (m p : Nat) (pairs : List (Nat × Nat)) (mark : Nat × Nat) (x : Nat), vs = [v, .int (x : Int)] ∧ Dp K H v (mixD m p pairs mark) ∧ MixOk m p pairs mark ∧ x < 2 ^ 300 ∧
  ∀ (H' : Hp) (a : Addr), Gro H H' → SqT K H' a (intsV (rowM m p pairs x)) → Q (.ref a) H'
def spMarkL (K : PySem.W.Frag) : Sp := fun vs H Q _ => ∃ (v : V) (m p : Nat) (pairs : List (Nat × Nat)) (mark : Nat × Nat) (w x : Nat), vs = [v, .int (w : Int), .int (x : Int)] ∧ Dp K H v (mixD m p pairs mark) ∧ MixOk m p pairs mark ∧ w ≤ 1000 ∧ x < 2 ^ 300 ∧
  Q (.int ((led p x mark % 2 ^ w : Nat) : Int)) H
def spSeededL (K : PySem.W.Frag) : Sp := fun vs H Q _ => ∃ (v : V) (m p : Nat) (pairs : List (Nat × Nat)) (mark : Nat × Nat) (s : Nat), vs = [v, .int (s : Int)] ∧ Dp K H v (mixD m p pairs mark) ∧ MixOk m p pairs mark ∧ s < 2 ^ 300 ∧
  ∀ (H' : Hp) (a : Addr), Gro H H' → Dp K H' (.ref a) (mixD m p (pairs.map (seedP p s)) (seedP p s mark)) → Q (.ref a) H'
def spNumbers : Sp := fun vs H Q _ => ∃ (a : Addr) (many k : Nat), vs = [.ref a, .int (many : Int)] ∧ WellAt H a k ∧ k ≤ 900000 ∧ many ≤ 100 ∧
  ∀ (H' : Hp) (b : Addr) (ns : List Nat), OffG a H H' → WellAt H' a (k + 300) → H b = none → b ≠ a → H' b = some (.lst (intsV ns)) → ns.Nodup → (∀ x ∈ ns, x < 10 ^ 18) → ns.length ≤ many → Q (.ref b) H'
theorem Tup.pair {K : PySem.W.Frag} {H H' : Hp} {v : V} {q : Nat × Nat} (t : Tup H H') (h : Dp K H v (pqD q)) : Dp K H' v (pqD q) := by
  obtain ⟨a, rfl, s⟩ := pair_inv h
  exact pair_mk (t.sqt s)
theorem Tup.pairs {K : PySem.W.Frag} {H H' : Hp} (t : Tup H H') : ∀ {pairs : List (Nat × Nat)} {xs : List V}, DpAll K H xs (pairs.map pqD) → DpAll K H' xs (pairs.map pqD)
  | [], _, h => by cases h; exact .nil
  | q :: l, _, h => by
    cases h with
    | cons h1 h2 => exact .cons (t.pair h1) (t.pairs h2)
theorem Tup.mix {K : PySem.W.Frag} {H H' : Hp} {v : V} {m p : Nat} {pairs : List (Nat × Nat)} {mark : Nat × Nat} (t : Tup H H') (h : Dp K H v (mixD m p pairs mark)) : Dp K H' v (mixD m p pairs mark) := by
  obtain ⟨a, b, c, xs, rfl, h1, h2, h3, h4⟩ := mix_inv h
  exact mix_mk (t.sqt h1) (t.sqt h2) (t.pairs h3) (pair_mk (t.sqt h4))
def isWholeD : PyData → Bool
  | .int _ => true
  | _ => false
def spWhole (K : PySem.W.Frag) : Sp := fun vs H Q _ => ∃ (x : V) (d : PyData), vs = [x] ∧ Dp K H x d ∧ Q (.bl (isWholeD d)) H
theorem walk_zipT {K : PySem.W.Frag} {a b : Addr} {xs ys : List V} {n : Nat} (hn : n = min xs.length ys.length) : Walk (RZ.ItzT K a b) n (fun H => SqT K H a xs ∧ SqT K H b ys) (YPair (fun i => xs[i]?) (fun i => ys[i]?)) := by
  refine ⟨fun i H hi q => ?_, fun H q => ⟨xs, ys, q.1, q.2, by omega⟩, fun i H v H' hi q y => ?_⟩
  · have l1 : i < xs.length := by omega
    have l2 : i < ys.length := by omega
    exact ⟨xs, ys, xs[i], ys[i], q.1, q.2, List.getElem?_eq_getElem l1, List.getElem?_eq_getElem l2⟩
  · obtain ⟨t, u, z, r1, r2, r3, r4, r5⟩ := y
    exact ⟨t, u, z, r1, r2, r3, r4 xs q.1, r5 ys q.2⟩
theorem all_trues (n : Nat) : (List.replicate n true).all id = true := by
  rw [List.all_eq_true]
  intro x hx
  exact (List.mem_replicate.mp hx).2
def spMixing (K : PySem.W.Frag) : Sp := fun vs H Q _ => ∃ (a : Addr) (k : Nat), vs = [.ref a] ∧ WellAt H a k ∧ k ≤ 900000 ∧
  ∀ (H' : Hp) (b : Addr) (m p : Nat) (pairs : List (Nat × Nat)) (mark : Nat × Nat), OffG a H H' → WellAt H' a (k + 100) → MixOk m p pairs mark → m ≤ 40 → p ≤ 1001 → pairs.length ≤ 10 → Dp K H' (.ref b) (mixD m p pairs mark) → Q (.ref b) H'
theorem DpAll.split {K : PySem.W.Frag} {H : Hp} : ∀ {xs ys : List V} {ds es : List PyData}, DpAll K H (xs ++ ys) (ds ++ es) → xs.length = ds.length → DpAll K H xs ds ∧ DpAll K H ys es
  | [], ys, [], es, h, _ => ⟨.nil, h⟩
  | x :: xs, ys, d :: ds, es, h, l => by
    cases h with
    | cons h1 h2 =>
      obtain ⟨a, b⟩ := DpAll.split h2 (Nat.succ.inj l)
      exact ⟨.cons h1 a, b⟩
  | [], _, _ :: _, _, _, l => absurd l (by simp)
  | _ :: _, _, [], _, _, l => absurd l (by simp)
theorem cut_last (xs : List V) (u : V) : cutV (xs ++ [u]) none (some (-1)) = xs := by
  have e : HT.sIx (xs ++ [u]).length (xs ++ [u]).length (some (-1)) = xs.length := by
    show (if (-1 : Int) < 0 then ((-1 : Int) + ((xs ++ [u]).length : Int)).toNat else min ((-1 : Int)).toNat (xs ++ [u]).length) = xs.length
    rw [if_pos (by decide), List.length_append]
    show ((-1 : Int) + ((xs.length + 1 : Nat) : Int)).toNat = xs.length
    omega
  unfold cutV
  rw [e, HT.sIx_none, List.drop_zero, Nat.sub_zero, List.take_left]
theorem at_last (xs : List V) (u : V) : atI (xs ++ [u]) (-1) = some u := by
  have e : ixN (xs ++ [u]).length (-1) = some xs.length := by
    unfold ixN
    rw [List.length_append, if_neg (by decide)]
    show (if -((xs.length + 1 : Nat) : Int) ≤ -1 then some (-1 + ((xs.length + 1 : Nat) : Int)).toNat else none) = some xs.length
    rw [if_pos (by omega)]
    congr 1
    omega
  unfold atI
  rw [e]
  show (xs ++ [u])[xs.length]? = some u
  rw [List.getElem?_append_right (Nat.le_refl _), Nat.sub_self]
  rfl
/-- of nesting below n, no dicts, lists and tuples of at most 100000 items -/
def FitK : Nat → PyData → Prop
  | 0, _ => False
  | _ + 1, .none => True
  | _ + 1, .bool _ => True
  | _ + 1, .int _ => True
  | _ + 1, .str _ => True
  | n + 1, .list ds => ds.length ≤ 100000 ∧ ∀ e ∈ ds, FitK n e
  | n + 1, .tuple ds => ds.length ≤ 100000 ∧ ∀ e ∈ ds, FitK n e
  | _ + 1, .dict _ => False
def spAlike (K : PySem.W.Frag) (n : Nat) : Sp := fun vs H Q _ => ∃ (x y : V) (d : PyData), vs = [x, y] ∧ Dp K H x d ∧ Dp K H y d ∧ FitK n d ∧ ∀ H', Same H H' → Q (.bl true) H'
theorem fitK_row (n : Nat) {r : List Nat} (h : r.length ≤ 1000) : FitK (n + 2) (rowD r) := by
  refine ⟨by rw [natsD_len]; omega, fun e he => ?_⟩
  obtain ⟨i, _, rfl⟩ := List.mem_map.mp he
  exact trivial
theorem fitK_pair (n : Nat) (q : Nat × Nat) : FitK (n + 2) (pqD q) := by
  refine ⟨(by show 2 ≤ 100000; decide), fun e he => ?_⟩
  rcases List.mem_cons.mp he with rfl | he
  · exact trivial
  · rw [List.mem_singleton.mp he]
    exact trivial
theorem fitK_mix (n : Nat) {m p : Nat} {pairs : List (Nat × Nat)} {mark : Nat × Nat} (h : pairs.length ≤ 60) : FitK (n + 4) (mixD m p pairs mark) := by
  refine ⟨(by show 4 ≤ 100000; decide), fun e he => ?_⟩
  simp only [List.mem_cons, List.not_mem_nil, or_false] at he
  rcases he with rfl | rfl | rfl | rfl
  · exact trivial
  · exact trivial
  · refine ⟨by rw [List.length_map]; omega, fun e he => ?_⟩
    obtain ⟨q, _, rfl⟩ := List.mem_map.mp he
    exact fitK_pair n q
  · exact fitK_pair (n + 1) mark
theorem fitK_page (n : Nat) {m : Nat} {rows : List (List Nat)} (h : rows.length ≤ 1000) (hr : ∀ r ∈ rows, r.length ≤ 1000) : FitK (n + 4) (pageD m rows) := by
  refine ⟨(by show 2 ≤ 100000; decide), fun e he => ?_⟩
  simp only [List.mem_cons, List.not_mem_nil, or_false] at he
  rcases he with rfl | rfl
  · exact trivial
  · refine ⟨by rw [List.length_map]; omega, fun e he => ?_⟩
    obtain ⟨r, hr2, rfl⟩ := List.mem_map.mp he
    exact fitK_row n (hr r hr2)
theorem fitK_list (n : Nat) {ds : List PyData} (h : ds.length ≤ 100000) (h2 : ∀ d ∈ ds, FitK n d) : FitK (n + 1) (.list ds) := ⟨h, h2⟩
/-! ### bent data -/
/-- of nesting at most n, no dicts, lists and tuples of at most L items -/
def Sz (L : Nat) : Nat → PyData → Prop
  | _, .none => True
  | _, .bool _ => True
  | _, .int _ => True
  | _, .str s => PyData.canLay0 (.str s) = true
  | 0, .list _ => False
  | 0, .tuple _ => False
  | n + 1, .list ds => ds.length ≤ L ∧ ∀ e ∈ ds, Sz L n e
  | n + 1, .tuple ds => ds.length ≤ L ∧ ∀ e ∈ ds, Sz L n e
  | _, .dict _ => False
theorem Sz.mono {L L' : Nat} (hl : L ≤ L') : ∀ {n n' : Nat} {d : PyData}, Sz L n d → n ≤ n' → Sz L' n' d
  | _, n', .none, _, _ => by cases n' <;> exact trivial
  | _, n', .bool _, _, _ => by cases n' <;> exact trivial
  | _, n', .int _, _, _ => by cases n' <;> exact trivial
  | n, n', .str _, h, _ => by cases n <;> cases n' <;> exact h
  | 0, _, .list _, h, _ => h.elim
  | 0, _, .tuple _, h, _ => h.elim
  | n + 1, n' + 1, .list ds, h, hn => ⟨Nat.le_trans h.1 hl, fun e he => Sz.mono hl (h.2 e he) (Nat.le_of_succ_le_succ hn)⟩
  | n + 1, n' + 1, .tuple ds, h, hn => ⟨Nat.le_trans h.1 hl, fun e he => Sz.mono hl (h.2 e he) (Nat.le_of_succ_le_succ hn)⟩
  | n + 1, 0, .list _, _, hn => absurd hn (by omega)
  | n + 1, 0, .tuple _, _, hn => absurd hn (by omega)
  | n, _, .dict _, h, _ => by cases n <;> exact h.elim
theorem Sz.lay {L : Nat} : ∀ {n : Nat} {d : PyData}, Sz L n d → Lay n d
  | _, .none, _ => ⟨rfl, Nat.zero_le _⟩
  | _, .bool _, _ => ⟨rfl, Nat.zero_le _⟩
  | _, .int _, _ => ⟨rfl, Nat.zero_le _⟩
  | n, .str _, h => ⟨by cases n <;> exact h, Nat.zero_le _⟩
  | 0, .list _, h => h.elim
  | 0, .tuple _, h => h.elim
  | n + 1, .list ds, h => lay_l fun e he => Sz.lay (h.2 e he)
  | n + 1, .tuple ds, h => lay_t fun e he => Sz.lay (h.2 e he)
  | n, .dict _, h => by cases n <;> exact h.elim
theorem Sz.shaped {L n : Nat} {d : PyData} (h : Sz L n d) (hn : n ≤ 50) : SeqAt.shaped d = true := by
  have l := h.lay
  unfold SeqAt.shaped
  rw [l.1, decide_eq_true (Nat.le_trans l.2 (by omega))] <;> rfl
def spLMix (K : PySem.W.Frag) : Sp := fun vs H Q _ => ∃ (x : V) (d : PyData), vs = [x] ∧ Dp K H x d ∧ Sz 2000 20 d ∧ ∀ H', Gro H H' → Q (.bl (isMixD d)) H'
/-! ### data that stays when the object at a changes -/
theorem OffG.seqN {K : PySem.W.Frag} {a p : Addr} {H H' : Hp} {xs : List V} (o : OffG a H H') (n : p ≠ a) (h : SqL K H p xs) : SqL K H' p xs := by
  rcases h with (h | ⟨u, h⟩) | h
  · exact .inl (.inl (o.at n h))
  · exact .inl (.inr ⟨u, o.at n h⟩)
  · exact .inr h
mutual
inductive DpN (K : PySem.W.Frag) (H : Hp) (a : Addr) : V → PyData → Prop
  | non : DpN K H a .non .none
  | bl (b : Bool) : DpN K H a (.bl b) (.bool b)
  | int (i : Int) : DpN K H a (.int i) (.int i)
  | str (x : Str) : DpN K H a (.str x) (.str x)
  | lst {p : Addr} {xs : List V} {ds : List PyData} : SqL K H p xs → p ≠ a → DpNAll K H a xs ds → DpN K H a (.ref p) (.list ds)
  | tup {p : Addr} {xs : List V} {ds : List PyData} : SqT K H p xs → DpNAll K H a xs ds → DpN K H a (.ref p) (.tuple ds)
inductive DpNAll (K : PySem.W.Frag) (H : Hp) (a : Addr) : List V → List PyData → Prop
  | nil : DpNAll K H a [] []
  | cons {v : V} {vs : List V} {d : PyData} {ds : List PyData} : DpN K H a v d → DpNAll K H a vs ds → DpNAll K H a (v :: vs) (d :: ds)
end
mutual
theorem DpN.dp {K : PySem.W.Frag} {H : Hp} {a : Addr} : ∀ (d : PyData) (v : V), DpN K H a v d → Dp K H v d
  | .none, _, h => by cases h; exact .non
  | .bool b, _, h => by cases h; exact .bl b
  | .int i, _, h => by cases h; exact .int i
  | .str x, _, h => by cases h; exact .str x
  | .list ds, _, h => by
    cases h with
    | lst h1 _ h2 => exact .lst h1 (DpNAll.dp ds _ h2)
  | .tuple ds, _, h => by
    cases h with
    | tup h1 h2 => exact .tup h1 (DpNAll.dp ds _ h2)
  | .dict _, _, h => nomatch h
theorem DpNAll.dp {K : PySem.W.Frag} {H : Hp} {a : Addr} : ∀ (ds : List PyData) (vs : List V), DpNAll K H a vs ds → DpAll K H vs ds
  | [], _, h => by cases h; exact .nil
  | d :: ds, _, h => by
    cases h with
    | cons h1 h2 => exact .cons (DpN.dp d _ h1) (DpNAll.dp ds _ h2)
end
mutual
theorem DpN.off {K : PySem.W.Frag} {H H' : Hp} {a : Addr} (o : OffG a H H') (t : Tup H H') : ∀ (d : PyData) (v : V), DpN K H a v d → DpN K H' a v d
  | .none, _, h => by cases h; exact .non
  | .bool b, _, h => by cases h; exact .bl b
  | .int i, _, h => by cases h; exact .int i
  | .str x, _, h => by cases h; exact .str x
  | .list ds, _, h => by
    cases h with
    | lst h1 n h2 => exact .lst (o.seqN n h1) n (DpNAll.off o t ds _ h2)
  | .tuple ds, _, h => by
    cases h with
    | tup h1 h2 => exact .tup (t.sqt h1) (DpNAll.off o t ds _ h2)
  | .dict _, _, h => nomatch h
theorem DpNAll.off {K : PySem.W.Frag} {H H' : Hp} {a : Addr} (o : OffG a H H') (t : Tup H H') : ∀ (ds : List PyData) (vs : List V), DpNAll K H a vs ds → DpNAll K H' a vs ds
  | [], _, h => by cases h; exact .nil
  | d :: ds, _, h => by
    cases h with
    | cons h1 h2 => exact .cons (DpN.off o t d _ h1) (DpNAll.off o t ds _ h2)
end
theorem Gro.tup {H H' : Hp} (g : Gro H H') : Tup H H' := fun b o e _ => g b o e
theorem DpN.gro {K : PySem.W.Frag} {H H' : Hp} {a : Addr} (g : Gro H H') {d : PyData} {v : V} (h : DpN K H a v d) : DpN K H' a v d := DpN.off (.of g) g.tup d v h
theorem DpNAll.gro {K : PySem.W.Frag} {H H' : Hp} {a : Addr} (g : Gro H H') {ds : List PyData} {vs : List V} (h : DpNAll K H a vs ds) : DpNAll K H' a vs ds := DpNAll.off (.of g) g.tup ds vs h
theorem DpNAll.length {K : PySem.W.Frag} {H : Hp} {a : Addr} : ∀ {vs : List V} {ds : List PyData}, DpNAll K H a vs ds → vs.length = ds.length
  | [], [], _ => rfl
  | _ :: _, _ :: _, .cons _ h => congrArg Nat.succ (DpNAll.length h)
theorem DpNAll.get {K : PySem.W.Frag} {H : Hp} {a : Addr} : ∀ {vs : List V} {ds : List PyData}, DpNAll K H a vs ds → ∀ {i : Nat} {d : PyData}, ds[i]? = some d → ∃ v, vs[i]? = some v ∧ DpN K H a v d
  | [], [], _, _, _, e => by simp at e
  | _ :: _, _ :: _, .cons h1 _, 0, d, e => ⟨_, rfl, by cases Option.some.inj e; exact h1⟩
  | _ :: _, _ :: _, .cons _ h2, i + 1, d, e => h2.get (i := i) e
theorem DpNAll.app {K : PySem.W.Frag} {H : Hp} {a : Addr} {ws : List V} {es : List PyData} (h2 : DpNAll K H a ws es) : ∀ {vs : List V} {ds : List PyData}, DpNAll K H a vs ds → DpNAll K H a (vs ++ ws) (ds ++ es)
  | [], [], _ => h2
  | _ :: _, _ :: _, .cons h1 h => .cons h1 (h2.app h)
theorem DpNAll.rev {K : PySem.W.Frag} {H : Hp} {a : Addr} : ∀ {vs : List V} {ds : List PyData}, DpNAll K H a vs ds → DpNAll K H a vs.reverse ds.reverse
  | [], [], _ => .nil
  | _ :: _, _ :: _, .cons h1 h => by
    rw [List.reverse_cons, List.reverse_cons]
    exact DpNAll.app (.cons h1 .nil) h.rev
theorem DpNAll.take {K : PySem.W.Frag} {H : Hp} {a : Addr} : ∀ {vs : List V} {ds : List PyData}, DpNAll K H a vs ds → ∀ n : Nat, DpNAll K H a (vs.take n) (ds.take n)
  | [], [], _, n => by rw [List.take_nil, List.take_nil]; exact .nil
  | _ :: _, _ :: _, .cons _ _, 0 => .nil
  | _ :: _, _ :: _, .cons h1 h, n + 1 => .cons h1 (h.take n)
theorem DpNAll.drop {K : PySem.W.Frag} {H : Hp} {a : Addr} : ∀ {vs : List V} {ds : List PyData}, DpNAll K H a vs ds → ∀ n : Nat, DpNAll K H a (vs.drop n) (ds.drop n)
  | [], [], _, n => by rw [List.drop_nil, List.drop_nil]; exact .nil
  | _ :: _, _ :: _, .cons h1 h, 0 => .cons h1 h
  | _ :: _, _ :: _, .cons _ h, n + 1 => h.drop n
theorem DpNAll.cut {K : PySem.W.Frag} {H : Hp} {a : Addr} {vs : List V} {ds : List PyData} (h : DpNAll K H a vs ds) (lo hi : Option Int) : ∃ es, DpNAll K H a (cutV vs lo hi) es ∧ es.length ≤ ds.length ∧ ∀ e ∈ es, e ∈ ds := by
  refine ⟨_, (h.drop _).take _, ?_, fun e he => List.mem_of_mem_drop (List.mem_of_mem_take he)⟩
  rw [List.length_take, List.length_drop]
  omega
def spPut (K : PySem.W.Frag) (n : Nat) : Sp := fun vs H Q _ => ∃ (a : Addr) (k p deep L N : Nat) (x : V) (d : PyData), vs = [.ref a, x, .int (p : Int), .int (deep : Int)] ∧ WellAt H a k ∧ k + 3 * deep ≤ 900000 ∧ DpN K H a x d ∧ Sz L N d ∧ 1 ≤ L ∧ L ≤ 900 ∧ N ≤ 40 ∧ deep < n ∧
  ∀ (H' : Hp) (y : V) (d' : PyData), OffG a H H' → WellAt H' a (k + 3 * (deep + 1)) → DpN K H' a y d' → Sz (2 * L + 1) (N + 1) d' → Q y H'
def spRightM (K : PySem.W.Frag) : Sp := fun vs H Q _ => ∃ (a : Addr) (v : V) (k m p : Nat) (pairs : List (Nat × Nat)) (mark : Nat × Nat), vs = [.ref a, v] ∧ WellAt H a k ∧ k ≤ 800000 ∧ Dp K H v (mixD m p pairs mark) ∧ MixOk m p pairs mark ∧
  GxR.TabG H (tA K "are_pairs") ∧ GxR.TabG H (tA K "are_integers") ∧ tA K "are_pairs" ≠ a ∧ tA K "are_integers" ≠ a ∧
  ∀ H' : Hp, OffG a H H' → WellAt H' a (k + 400) → Q (.bl true) H'
def posN (x : Nat) : Bool := decide ((0 : Int) < (x : Int))
theorem nums_ok {ns : List Nat} {t : Nat} (nd : ns.Nodup) (hl : ns.length ≤ 6) (hb : ∀ x ∈ ns, x < 10 ^ 18) (ht : t < 99) :
    (ns.filter posN ++ [0, 100000000000000000000 + t]).Nodup ∧ (ns.filter posN ++ [0, 100000000000000000000 + t]).length ≤ 8 ∧ ∀ x ∈ ns.filter posN ++ [0, 100000000000000000000 + t], x < 2 ^ 300 := by
  have e18 : (10 : Nat) ^ 18 = 1000000000000000000 := by decide
  have e300 : 1000000000000000000000 < 2 ^ 300 := by decide
  refine ⟨?_, ?_, fun x hx => ?_⟩
  · rw [List.nodup_append]
    refine ⟨List.Nodup.sublist List.filter_sublist nd, by rw [List.nodup_cons, List.nodup_cons]; refine ⟨?_, List.not_mem_nil, List.nodup_nil⟩; rw [List.mem_singleton]; omega, fun x hx y hy => ?_⟩
    obtain ⟨h1, h2⟩ := List.mem_filter.mp hx
    have h3 := of_decide_eq_true h2
    have h4 := hb x h1
    rw [List.mem_cons, List.mem_singleton] at hy
    omega
  · rw [List.length_append]
    have := List.length_filter_le posN ns
    show (ns.filter posN).length + 2 ≤ 8
    omega
  · rcases List.mem_append.mp hx with h | h
    · have := hb x (List.mem_filter.mp h).1
      omega
    · rw [List.mem_cons, List.mem_singleton] at h
      omega
theorem eqvAll_nats : ∀ l : List Nat, PyData.eqvAll (natsD l) (natsD l) = true
  | [] => rfl
  | x :: l => by
    show PyData.eqvAll (.int (x : Int) :: natsD l) (.int (x : Int) :: natsD l) = true
    rw [PyData.eqvAll, eqvAll_nats l]
    simp [PyData.eqv]
theorem eqv_nats (l : List Nat) : PyData.eqv (.list (natsD l)) (.list (natsD l)) = true := by
  rw [PyData.eqv]
  exact eqvAll_nats l
theorem nats_list_shaped (l : List Nat) : SeqAt.shaped (.list (natsD l)) = true := by
  have h := lay_l (n := 1) (ds := natsD l) fun e he => by
    obtain ⟨i, _, rfl⟩ := List.mem_map.mp he
    exact ⟨rfl, Nat.zero_le _⟩
  unfold SeqAt.shaped
  rw [h.1, decide_eq_true (Nat.le_trans h.2 (by omega))] <;> rfl
theorem mod_nodup {qs : List Nat} {n : Nat} (h : qs.map (· % 41) = List.range n) : qs.Nodup := by
  have h1 : (qs.map (· % 41)).Nodup := by rw [h]; exact List.nodup_range
  have h2 := List.pairwise_map.mp h1
  exact h2.imp fun h e => h (by rw [e])
theorem pe_revT_at (K : PySem.W.Frag) {X : Cx} (e0 : X.K = K) {e : Expr} {te : TE} {k : Nat} {p1 p2 p3 pos : Pos} (he : PE X e te) : PE X (.Subscript e (.Slice none none (some (.UnaryOp .USub (.Constant (.int 1) k p1) p2)) p3) pos) (tRevT K te) := by
  subst e0
  exact pe_revT he
theorem pair_N {K : PySem.W.Frag} {H : Hp} {a : Addr} {v : V} {q : Nat × Nat} (h : Dp K H v (pqD q)) : DpN K H a v (pqD q) := by
  obtain ⟨b, rfl, s⟩ := pair_inv h
  exact .tup s (.cons (.int _) (.cons (.int _) .nil))
theorem pairs_N {K : PySem.W.Frag} {H : Hp} {a : Addr} : ∀ {pairs : List (Nat × Nat)} {xs : List V}, DpAll K H xs (pairs.map pqD) → DpNAll K H a xs (pairs.map pqD)
  | [], _, h => by cases h; exact .nil
  | q :: l, _, h => by
    cases h with
    | cons h1 h2 => exact .cons (pair_N h1) (pairs_N h2)
theorem mix_N {K : PySem.W.Frag} {H : Hp} {a : Addr} {v : V} {m p : Nat} {pairs : List (Nat × Nat)} {mark : Nat × Nat} (h : Dp K H v (mixD m p pairs mark)) : DpN K H a v (mixD m p pairs mark) := by
  obtain ⟨b, c, e, xs, rfl, h1, h2, h3, h4⟩ := mix_inv h
  exact .tup h1 (.cons (.int _) (.cons (.int _) (.cons (.tup h2 (pairs_N h3)) (.cons (pair_N (pair_mk h4)) .nil))))
theorem sz_pair (L n : Nat) (h : 2 ≤ L) (q : Nat × Nat) : Sz L (n + 1) (pqD q) := by
  refine ⟨h, fun e he => ?_⟩
  simp only [List.mem_cons, List.not_mem_nil, or_false] at he
  rcases he with rfl | rfl
  · cases n <;> exact trivial
  · cases n <;> exact trivial
theorem sz_mix {m p : Nat} {pairs : List (Nat × Nat)} {mark : Nat × Nat} (h : pairs.length ≤ 60) : Sz 60 3 (mixD m p pairs mark) := by
  refine ⟨(by show 4 ≤ 60; decide), fun e he => ?_⟩
  simp only [List.mem_cons, List.not_mem_nil, or_false] at he
  rcases he with rfl | rfl | rfl | rfl
  · exact trivial
  · exact trivial
  · refine ⟨by rw [List.length_map]; exact h, fun e he => ?_⟩
    obtain ⟨q, _, rfl⟩ := List.mem_map.mp he
    exact sz_pair 60 0 (by decide) q
  · exact sz_pair 60 1 (by decide) mark
def swapP (q : Nat × Nat) : Nat × Nat := (q.2, q.1)
theorem MixOk.twice {m p : Nat} {pairs : List (Nat × Nat)} {mark : Nat × Nat} (h : MixOk m p pairs mark) (hl : pairs.length ≤ 10) : MixOk m p (pairs ++ pairs.map swapP) mark := by
  refine ⟨h.m1, h.m2, h.p1, h.p2, fun z => h.some_ (List.append_eq_nil_iff.mp z).1, by rw [List.length_append, List.length_map]; omega, fun q hq => ?_, h.mkd⟩
  rcases List.mem_append.mp hq with hq | hq
  · exact h.each q hq
  · obtain ⟨r, hr, rfl⟩ := List.mem_map.mp hq
    exact ⟨(h.each r hr).2, (h.each r hr).1⟩
theorem tab_ne {H : Hp} {P a : Addr} (t : GxR.TabG H P) (n : H a = none) : P ≠ a := by
  obtain ⟨ps, hp, _⟩ := t
  intro e
  rw [e, n] at hp
  cases hp
end Ky
namespace K28
open PySem PySem.Spec PyProof.Rows L2 Ky
def topS (i : Nat) : Stmt := PySem.Challenge.pw_keytellers_k28_whole_rows_marks_and_seed.main.body.getD i (.Pass ⟨0, 0, 0, 0⟩)
abbrev s_is_integer : Stmt := topS 6
abbrev N_is_integer : List Str := ["told", "least"]
theorem sc_is_integer : FnScope ["told", "least"] ["told", "least"] (defScope s_is_integer) := ⟨rfl, rfl, rfl, by decide +kernel, rfl, by decide +kernel, by decide +kernel⟩
abbrev s_is_below : Stmt := topS 7
abbrev N_is_below : List Str := ["told", "top"]
theorem sc_is_below : FnScope ["told", "top"] ["told", "top"] (defScope s_is_below) := ⟨rfl, rfl, rfl, by decide +kernel, rfl, by decide +kernel, by decide +kernel⟩
abbrev s_are_integers : Stmt := topS 8
abbrev N_are_integers : List Str := ["told", "least", "one"]
theorem sc_are_integers : FnScope ["told", "least", "one"] ["told", "least"] (defScope s_are_integers) := ⟨rfl, rfl, rfl, by decide +kernel, rfl, by decide +kernel, by decide +kernel⟩
abbrev s_is_pair : Stmt := topS 9
abbrev N_is_pair : List Str := ["told", "top", "second_top"]
theorem sc_is_pair : FnScope ["told", "top", "second_top"] ["told", "top", "second_top"] (defScope s_is_pair) := ⟨rfl, rfl, rfl, by decide +kernel, rfl, by decide +kernel, by decide +kernel⟩
abbrev s_are_pairs : Stmt := topS 10
abbrev N_are_pairs : List Str := ["told", "top", "second_top", "one"]
theorem sc_are_pairs : FnScope ["told", "top", "second_top", "one"] ["told", "top", "second_top"] (defScope s_are_pairs) := ⟨rfl, rfl, rfl, by decide +kernel, rfl, by decide +kernel, by decide +kernel⟩
abbrev s_are_unlike : Stmt := topS 11
abbrev N_are_unlike : List Str := ["some"]
theorem sc_are_unlike : FnScope ["some"] ["some"] (defScope s_are_unlike) := ⟨rfl, rfl, rfl, by decide +kernel, rfl, by decide +kernel, by decide +kernel⟩
abbrev s_check_number : Stmt := topS 12
abbrev N_check_number : List Str := ["told", "least"]
theorem sc_check_number : FnScope ["told", "least"] ["told", "least"] (defScope s_check_number) := ⟨rfl, rfl, rfl, by decide +kernel, rfl, by decide +kernel, by decide +kernel⟩
abbrev s_is_mixing : Stmt := topS 14
abbrev N_is_mixing : List Str := ["told", "m", "p", "pairs", "mark"]
theorem sc_is_mixing : FnScope ["told", "m", "p", "pairs", "mark"] ["told"] (defScope s_is_mixing) := ⟨rfl, rfl, rfl, by decide +kernel, rfl, by decide +kernel, by decide +kernel⟩
abbrev s_row_of : Stmt := topS 15
abbrev N_row_of : List Str := ["mixing", "x", "m", "p", "pairs", "_", "pair"]
theorem sc_row_of : FnScope ["mixing", "x", "m", "p", "pairs", "_", "pair"] ["mixing", "x"] (defScope s_row_of) := ⟨rfl, rfl, rfl, by decide +kernel, rfl, by decide +kernel, by decide +kernel⟩
abbrev s_mark_of : Stmt := topS 16
abbrev N_mark_of : List Str := ["mixing", "w", "x", "_", "p", "mark"]
theorem sc_mark_of : FnScope ["mixing", "w", "x", "_", "p", "mark"] ["mixing", "w", "x"] (defScope s_mark_of) := ⟨rfl, rfl, rfl, by decide +kernel, rfl, by decide +kernel, by decide +kernel⟩
abbrev s_book_of : Stmt := topS 17
abbrev N_book_of : List Str := ["mixing", "numbers", "x"]
theorem sc_book_of : FnScope ["mixing", "numbers", "x"] ["mixing", "numbers"] (defScope s_book_of) := ⟨rfl, rfl, rfl, by decide +kernel, rfl, by decide +kernel, by decide +kernel⟩
abbrev s_seeded : Stmt := topS 18
abbrev N_seeded : List Str := ["mixing", "s", "m", "p", "pairs", "mark", "pair"]
theorem sc_seeded : FnScope ["mixing", "s", "m", "p", "pairs", "mark", "pair"] ["mixing", "s"] (defScope s_seeded) := ⟨rfl, rfl, rfl, by decide +kernel, rfl, by decide +kernel, by decide +kernel⟩
abbrev s_mixed : Stmt := topS 19
abbrev N_mixed : List Str := ["pair", "p", "x", "a", "b"]
theorem sc_mixed : FnScope ["pair", "p", "x", "a", "b"] ["pair", "p", "x"] (defScope s_mixed) := ⟨rfl, rfl, rfl, by decide +kernel, rfl, by decide +kernel, by decide +kernel⟩
abbrev s_seeded_pair : Stmt := topS 20
abbrev N_seeded_pair : List Str := ["pair", "p", "s", "a", "b"]
theorem sc_seeded_pair : FnScope ["pair", "p", "s", "a", "b"] ["pair", "p", "s"] (defScope s_seeded_pair) := ⟨rfl, rfl, rfl, by decide +kernel, rfl, by decide +kernel, by decide +kernel⟩
abbrev s_check_mixing : Stmt := topS 21
abbrev N_check_mixing : List Str := ["mixing"]
theorem sc_check_mixing : FnScope ["mixing"] ["mixing"] (defScope s_check_mixing) := ⟨rfl, rfl, rfl, by decide +kernel, rfl, by decide +kernel, by decide +kernel⟩
abbrev s_check_numbers : Stmt := topS 22
abbrev N_check_numbers : List Str := ["numbers"]
theorem sc_check_numbers : FnScope ["numbers"] ["numbers"] (defScope s_check_numbers) := ⟨rfl, rfl, rfl, by decide +kernel, rfl, by decide +kernel, by decide +kernel⟩
abbrev s__law_stock : Stmt := topS 24
abbrev N__law_stock : List Str := ["script", "spot", "cell", "figures"]
theorem sc__law_stock : FnScope ["script", "spot", "cell", "figures"] ["script", "spot"] (defScope s__law_stock) := ⟨rfl, rfl, rfl, by decide +kernel, rfl, by decide +kernel, by decide +kernel⟩
abbrev s__law_pick : Stmt := topS 25
abbrev N__law_pick : List Str := ["stock", "many", "figure", "mixed_v"]
theorem sc__law_pick : FnScope ["stock", "many", "figure", "mixed_v"] ["stock", "many"] (defScope s__law_pick) := ⟨rfl, rfl, rfl, by decide +kernel, rfl, by decide +kernel, by decide +kernel⟩
abbrev s__law_alike : Stmt := topS 26
abbrev N__law_alike : List Str := ["item", "due", "one", "other"]
theorem sc__law_alike : FnScope ["item", "due", "one", "other"] ["item", "due"] (defScope s__law_alike) := ⟨rfl, rfl, rfl, by decide +kernel, rfl, by decide +kernel, by decide +kernel⟩
abbrev s__law_mixing : Stmt := topS 27
abbrev N__law_mixing : List Str := ["stock", "m", "p", "many", "pairs", "turn"]
theorem sc__law_mixing : FnScope ["stock", "m", "p", "many", "pairs", "turn"] ["stock"] (defScope s__law_mixing) := ⟨rfl, rfl, rfl, by decide +kernel, rfl, by decide +kernel, by decide +kernel⟩
abbrev s__law_led : Stmt := topS 28
abbrev N__law_led : List Str := ["pair", "p", "x"]
theorem sc__law_led : FnScope ["pair", "p", "x"] ["pair", "p", "x"] (defScope s__law_led) := ⟨rfl, rfl, rfl, by decide +kernel, rfl, by decide +kernel, by decide +kernel⟩
abbrev s__law_row : Stmt := topS 29
abbrev N__law_row : List Str := ["mixing", "x", "m", "p", "pairs", "mark", "found", "pair", "cell"]
theorem sc__law_row : FnScope ["mixing", "x", "m", "p", "pairs", "mark", "found", "pair", "cell"] ["mixing", "x"] (defScope s__law_row) := ⟨rfl, rfl, rfl, by decide +kernel, rfl, by decide +kernel, by decide +kernel⟩
abbrev s__law_mark : Stmt := topS 30
abbrev N__law_mark : List Str := ["mixing", "w", "x", "power", "turn"]
theorem sc__law_mark : FnScope ["mixing", "w", "x", "power", "turn"] ["mixing", "w", "x"] (defScope s__law_mark) := ⟨rfl, rfl, rfl, by decide +kernel, rfl, by decide +kernel, by decide +kernel⟩
abbrev s__law_seeded : Stmt := topS 31
abbrev N__law_seeded : List Str := ["mixing", "s", "m", "p", "pairs", "mark", "found", "a", "b"]
theorem sc__law_seeded : FnScope ["mixing", "s", "m", "p", "pairs", "mark", "found", "a", "b"] ["mixing", "s"] (defScope s__law_seeded) := ⟨rfl, rfl, rfl, by decide +kernel, rfl, by decide +kernel, by decide +kernel⟩
abbrev s__law_numbers : Stmt := topS 32
abbrev N__law_numbers : List Str := ["stock", "many", "found", "turn", "x"]
theorem sc__law_numbers : FnScope ["stock", "many", "found", "turn", "x"] ["stock", "many"] (defScope s__law_numbers) := ⟨rfl, rfl, rfl, by decide +kernel, rfl, by decide +kernel, by decide +kernel⟩
abbrev s__law_is_whole : Stmt := topS 33
abbrev N__law_is_whole : List Str := ["value"]
theorem sc__law_is_whole : FnScope ["value"] ["value"] (defScope s__law_is_whole) := ⟨rfl, rfl, rfl, by decide +kernel, rfl, by decide +kernel, by decide +kernel⟩
abbrev s__law_is_mixing : Stmt := topS 34
abbrev N__law_is_mixing : List Str := ["item", "m", "p", "pairs", "mark", "pair", "number"]
theorem sc__law_is_mixing : FnScope ["item", "m", "p", "pairs", "mark", "pair", "number"] ["item"] (defScope s__law_is_mixing) := ⟨rfl, rfl, rfl, by decide +kernel, rfl, by decide +kernel, by decide +kernel⟩
abbrev s__law_put : Stmt := topS 35
abbrev N__law_put : List Str := ["stock", "item", "p", "deep", "odd", "at", "way"]
theorem sc__law_put : FnScope ["stock", "item", "p", "deep", "odd", "at", "way"] ["stock", "item", "p", "deep"] (defScope s__law_put) := ⟨rfl, rfl, rfl, by decide +kernel, rfl, by decide +kernel, by decide +kernel⟩
abbrev s__law_right : Stmt := topS 36
abbrev N__law_right : List Str := ["stock", "mixing", "x", "numbers", "w", "due", "kept"]
theorem sc__law_right : FnScope ["stock", "mixing", "x", "numbers", "w", "due", "kept"] ["stock", "mixing"] (defScope s__law_right) := ⟨rfl, rfl, rfl, by decide +kernel, rfl, by decide +kernel, by decide +kernel⟩
abbrev s_law : Stmt := topS 37
abbrev N_law : List Str := ["script", "first", "spot", "stock", "mixing", "s", "due", "turn", "bent", "pair"]
theorem sc_law : FnScope ["script", "first", "spot", "stock", "mixing", "s", "due", "turn", "bent", "pair"] ["script"] (defScope s_law) := ⟨rfl, rfl, rfl, by decide +kernel, rfl, by decide +kernel, by decide +kernel⟩
abbrev tf : List Str := ["are_integers", "are_pairs"]
/-- what the top has written -/
structure Top (K : PySem.W.Frag) (mg : Str → Option Value) : Prop where
  d_is_integer : Here K mg "is_integer" s_is_integer
  d_is_below : Here K mg "is_below" s_is_below
  d_are_integers : HereT K mg "are_integers" s_are_integers (cA K "are_integers")
  d_is_pair : Here K mg "is_pair" s_is_pair
  d_are_pairs : HereT K mg "are_pairs" s_are_pairs (cA K "are_pairs")
  d_are_unlike : Here K mg "are_unlike" s_are_unlike
  d_check_number : Here K mg "check_number" s_check_number
  d_is_mixing : Here K mg "is_mixing" s_is_mixing
  d_row_of : Here K mg "row_of" s_row_of
  d_mark_of : Here K mg "mark_of" s_mark_of
  d_book_of : Here K mg "book_of" s_book_of
  d_seeded : Here K mg "seeded" s_seeded
  d_mixed : Here K mg "mixed" s_mixed
  d_seeded_pair : Here K mg "seeded_pair" s_seeded_pair
  d_check_mixing : Here K mg "check_mixing" s_check_mixing
  d_check_numbers : Here K mg "check_numbers" s_check_numbers
  d__law_stock : Here K mg "_law_stock" s__law_stock
  d__law_pick : Here K mg "_law_pick" s__law_pick
  d__law_alike : Here K mg "_law_alike" s__law_alike
  d__law_mixing : Here K mg "_law_mixing" s__law_mixing
  d__law_led : Here K mg "_law_led" s__law_led
  d__law_row : Here K mg "_law_row" s__law_row
  d__law_mark : Here K mg "_law_mark" s__law_mark
  d__law_seeded : Here K mg "_law_seeded" s__law_seeded
  d__law_numbers : Here K mg "_law_numbers" s__law_numbers
  d__law_is_whole : Here K mg "_law_is_whole" s__law_is_whole
  d__law_is_mixing : Here K mg "_law_is_mixing" s__law_is_mixing
  d__law_put : Here K mg "_law_put" s__law_put
  d__law_right : Here K mg "_law_right" s__law_right
  d_law : Here K mg "law" s_law
  z_all : mg "all" = none
  z_bool : mg "bool" = none
  z_int : mg "int" = none
  z_isinstance : mg "isinstance" = none
  z_len : mg "len" = none
  z_list : mg "list" = none
  z_max : mg "max" = none
  z_min : mg "min" = none
  z_range : mg "range" = none
  z_set : mg "set" = none
  z_sorted : mg "sorted" = none
  z_str : mg "str" = none
  z_tuple : mg "tuple" = none
  z_zip : mg "zip" = none
section
variable {P : Program} {w : World} {K : PySem.W.Frag} {mg : Str → Option Value} {base : Heap}
theorem ok_is_integer (T : Top K mg)  : CalD P w K mg base 1 "is_integer" s_is_integer ["told", "least"] (spIsInt K) := by
  refine cal_mk T.d_is_integer sc_is_integer (fun _ _ _ _ _ _ us hl => match us, hl with | [_, _], _ => rfl) (fun vs H Q E h => ?_) (fun f cdv A outer s H vs Q E hr h => ?_)
  · obtain ⟨x, d, l, rfl, hx, q⟩ := h
    rfl
  · obtain ⟨x, d, l, rfl, hx, q⟩ := h
    refine ⟨_, (pss_one (ps_ret (pe_and (pe_callB call_isi (by rfl) T.z_isinstance (by decide +kernel) (pa_cons (pv 0) (pa_cons (pe_bltn (v := .ty "int") (by rfl) T.z_int (by decide +kernel) rfl) pa_nil))) (pe_and (pe_not (pe_callB call_isi (by rfl) T.z_isinstance (by decide +kernel) (pa_cons (pv 0) (pa_cons (pe_bltn (v := .ty "bool") (by rfl) T.z_bool (by decide +kernel) rfl) pa_nil)))) (pe_one (pe_cmpR op_ge (pv 0) (pv 1) (nomark _))))))), ?_⟩
    cases d with
    | none =>
      cases hx
      exact ⟨_, rfl, _, _, _, _, false, rfl, .ty _, .base .non, kit_ty (by decide +kernel), _, rfl, iteF q⟩
    | bool b =>
      cases hx
      exact ⟨_, rfl, _, _, _, _, true, rfl, .ty _, .base (.bl _), kit_ty (by decide +kernel), _, rfl, iteT ⟨_, rfl, _, _, _, _, true, rfl, .ty _, .base (.bl _), kit_ty (by decide +kernel), _, rfl, _, rfl, iteF q⟩⟩
    | int i =>
      cases hx
      exact ⟨_, rfl, _, _, _, _, true, rfl, .ty _, .base (.int _), kit_ty (by decide +kernel), _, rfl, iteT ⟨_, rfl, _, _, _, _, false, rfl, .ty _, .base (.int _), kit_ty (by decide +kernel), _, rfl, _, rfl, iteT ⟨_, rfl, _, rfl, _, _, rfl, rfl, q⟩⟩⟩
    | str z =>
      cases hx
      exact ⟨_, rfl, _, _, _, _, false, rfl, .ty _, .base (.str _), kit_ty (by decide +kernel), _, rfl, iteF q⟩
    | list ds =>
      exact ⟨_, rfl, _, _, _, _, false, rfl, .ty _, ty_data hx, kit_ty (show kitB "list" "int" = some false by decide +kernel), _, rfl, iteF q⟩
    | tuple ds =>
      exact ⟨_, rfl, _, _, _, _, false, rfl, .ty _, ty_data hx, kit_ty (show kitB "tuple" "int" = some false by decide +kernel), _, rfl, iteF q⟩
    | dict kvs => cases hx
theorem ok_is_below (T : Top K mg) (c_is_integer : CalD P w K mg base 1 "is_integer" s_is_integer ["told", "least"] (spIsInt K)) : CalD P w K mg base 2 "is_below" s_is_below ["told", "top"] (spIsBelow K) := by
  refine cal_mk T.d_is_below sc_is_below (fun _ _ _ _ _ _ us hl => match us, hl with | [_, _], _ => rfl) (fun vs H Q E h => ?_) (fun f cdv A outer s H vs Q E hr h => ?_)
  · obtain ⟨x, d, t, rfl, hx, q⟩ := h
    rfl
  · obtain ⟨x, d, t, rfl, hx, q⟩ := h
    refine ⟨_, (pss_one (ps_ret (pe_and (pe_f c_is_integer hr (by omega) (by rfl) (pa_cons (pv 0) (pa_cons pe_int pa_nil))) (pe_one (pe_cmpR op_lt (pv 0) (pv 1) (nomark _)))))), ?_⟩
    refine ⟨_, rfl, x, d, 0, rfl, hx, _, rfl, ite2 (fun h => ?_) (fun h => ?_)⟩
    · cases d with
      | int i =>
        cases hx
        have e : isBelowD (.int i) t = decide (i < t) := by
          show (decide (0 ≤ i) && decide (i < t)) = _
          have e2 : decide (0 ≤ i) = true := h
          rw [e2, Bool.true_and]
        rw [e] at q
        exact ⟨_, rfl, _, rfl, _, _, rfl, rfl, q⟩
      | _ => exact absurd h (fun z => by cases z)
    · have e : isIntD d 0 = false := by
        cases z : isIntD d 0 with
        | false => rfl
        | true => exact absurd z h
      rw [isBelow_no h, e] at q
      exact q
theorem ok_are_integers (T : Top K mg) (B_are_integers : GxR.TabB base mg (cA K "are_integers") (tA K "are_integers")) (c_is_integer : CalD P w K mg base 1 "is_integer" s_is_integer ["told", "least"] (spIsInt K)) : CalD P w K mg base 3 "are_integers" s_are_integers ["told", "least"] (spAreInts K) := by
  refine calT_mk T.d_are_integers sc_are_integers (fun _ _ _ _ _ _ us hl => match us, hl with | [_, _], _ => rfl) (fun vs H Q E h => ?_) (fun f cdv A outer s H vs Q E hcd hr h => ?_)
  · obtain ⟨x, d, l, rfl, hx, hT, q⟩ := h
    rfl
  · obtain ⟨x, d, l, rfl, hx, hT, q⟩ := h
    refine ⟨_, (pss_one (ps_ret (pe_and (pe_callB call_isiT (by rfl) T.z_isinstance (by decide +kernel) (pa_cons (pv 0) (pa_cons (pe_tup (pa_cons (pe_bltn (v := .ty "list") (by rfl) T.z_list (by decide +kernel) rfl) (pa_cons (pe_bltn (v := .ty "tuple") (by rfl) T.z_tuple (by decide +kernel) rfl) pa_nil))) pa_nil))) (pe_one (Gx.pe_allG (c := cA K "are_integers") (P := tA K "are_integers") (i := 2) (own := [("one", 2)]) hr (by rfl) T.z_all (by decide +kernel) B_are_integers hcd (genS_by rfl rfl rfl (by decide +kernel) rfl rfl (by decide +kernel)) sc_are_integers.nd rfl (blkOk_by (own := [("one", 2)]) (N := N_are_integers) (sc := defScope s_are_integers) (by decide +kernel)) (pi_seq (pv 0)) (fun _ _ _ _ _ _ _ hr => (pe_f c_is_integer hr (by omega) (by rfl) (pa_cons (pv 2) (pa_cons (pv 1) pa_nil)))) (fun _ => rfl)))))), ?_⟩
    have e2 : (2 : Nat) ≤ sizeLine := by decide
    cases d with
    | none =>
      cases hx
      exact ⟨_, rfl, e2, fun t ht => ⟨_, t, _, _, _, _, rfl, upd_same, .cons (.ty _) (.cons (.ty _) .nil), .base .non, kit2 (r := false) (s := false) (by decide +kernel) (by decide +kernel), _, rfl, iteF (q _ (.of (same_upd ht)))⟩⟩
    | bool b =>
      cases hx
      exact ⟨_, rfl, e2, fun t ht => ⟨_, t, _, _, _, _, rfl, upd_same, .cons (.ty _) (.cons (.ty _) .nil), .base (.bl _), kit2 (r := false) (s := false) (by decide +kernel) (by decide +kernel), _, rfl, iteF (q _ (.of (same_upd ht)))⟩⟩
    | int i =>
      cases hx
      exact ⟨_, rfl, e2, fun t ht => ⟨_, t, _, _, _, _, rfl, upd_same, .cons (.ty _) (.cons (.ty _) .nil), .base (.int _), kit2 (r := false) (s := false) (by decide +kernel) (by decide +kernel), _, rfl, iteF (q _ (.of (same_upd ht)))⟩⟩
    | str z =>
      cases hx
      exact ⟨_, rfl, e2, fun t ht => ⟨_, t, _, _, _, _, rfl, upd_same, .cons (.ty _) (.cons (.ty _) .nil), .base (.str _), kit2 (r := false) (s := false) (by decide +kernel) (by decide +kernel), _, rfl, iteF (q _ (.of (same_upd ht)))⟩⟩
    | list ds =>
      obtain ⟨a, xs, hx1, hx2, rfl⟩ : ∃ a xs, SqL K H a xs ∧ DpAll K H xs ds ∧ x = .ref a := by
        cases hx with
        | lst h1 h2 => exact ⟨_, _, h1, h2, rfl⟩
      refine ⟨_, rfl, e2, fun t ht => ⟨_, t, _, _, _, _, rfl, upd_same, .cons (.ty _) (.cons (.ty _) .nil), ty_list (Same.seq (same_upd ht) hx1), kit2 (r := true) (s := false) (by decide +kernel) (by decide +kernel), _, rfl, iteT ?_⟩⟩
      have g0 := Gro.of (same_upd (o := HO.tup [V.ty "list", V.ty "tuple"]) ht)
      refine ⟨_, rfl, _, rfl, .inl ⟨⟨xs, g0.seq hx1⟩, g0.tg hT, fun H2 hTb => ?_⟩⟩
      have g2 := g0.trans (Gro.tab (g0.tg hT) hTb)
      exact asks_data (fun d => isIntD d l) g2 hx2 (go_l hx1) (yl_l hx1) (st_l hx1) (fun v => rfl) (fun v d H' _ hd hg => ⟨_, rfl, _, rfl, v, d, l, rfl, hd, rfl, hg⟩) fun H' hg => q _ hg
    | tuple ds =>
      obtain ⟨a, xs, hx1, hx2, rfl⟩ : ∃ a xs, SqT K H a xs ∧ DpAll K H xs ds ∧ x = .ref a := by
        cases hx with
        | tup h1 h2 => exact ⟨_, _, h1, h2, rfl⟩
      refine ⟨_, rfl, e2, fun t ht => ⟨_, t, _, _, _, _, rfl, upd_same, .cons (.ty _) (.cons (.ty _) .nil), ty_tuple (Same.tupS (same_upd ht) hx1), kit2 (r := false) (s := true) (by decide +kernel) (by decide +kernel), _, rfl, iteT ?_⟩⟩
      have g0 := Gro.of (same_upd (o := HO.tup [V.ty "list", V.ty "tuple"]) ht)
      refine ⟨_, rfl, _, rfl, .inr ⟨⟨xs, g0.tupS hx1⟩, g0.tg hT, fun H2 hTb => ?_⟩⟩
      have g2 := g0.trans (Gro.tab (g0.tg hT) hTb)
      exact asks_data (fun d => isIntD d l) g2 hx2 (go_t hx1) (yl_t hx1) (st_t hx1) (fun v => rfl) (fun v d H' _ hd hg => ⟨_, rfl, _, rfl, v, d, l, rfl, hd, rfl, hg⟩) fun H' hg => q _ hg
    | dict kvs => cases hx
theorem ok_is_pair (T : Top K mg) (c_is_below : CalD P w K mg base 2 "is_below" s_is_below ["told", "top"] (spIsBelow K)) : CalD P w K mg base 3 "is_pair" s_is_pair ["told", "top", "second_top"] (spIsPair K) := by
  refine cal_mk T.d_is_pair sc_is_pair (fun _ _ _ _ _ _ us hl => match us, hl with | [_, _, _], _ => rfl) (fun vs H Q E h => ?_) (fun f cdv A outer s H vs Q E hr h => ?_)
  · obtain ⟨x, d, s, t, rfl, hx, q⟩ := h
    rfl
  · obtain ⟨x, d, s, t, rfl, hx, q⟩ := h
    refine ⟨_, (pss_one (ps_ret (pe_and (pe_callB call_isi (by rfl) T.z_isinstance (by decide +kernel) (pa_cons (pv 0) (pa_cons (pe_bltn (v := .ty "tuple") (by rfl) T.z_tuple (by decide +kernel) rfl) pa_nil))) (pe_and (pe_cmpR op_eq (pe_callB call_len_seq (by rfl) T.z_len PySem.boot_len (pa_cons (pv 0) pa_nil)) pe_int (nomark _)) (pe_and (pe_f c_is_below hr (by omega) (by rfl) (pa_cons (pe_ix ix_tup (pv 0) pe_int (fun _ _ => rfl)) (pa_cons (pv 1) pa_nil))) (pe_one (pe_f c_is_below hr (by omega) (by rfl) (pa_cons (pe_ix ix_tup (pv 0) pe_int (fun _ _ => rfl)) (pa_cons (pv 2) pa_nil))))))))), ?_⟩
    cases d with
    | none =>
      cases hx
      exact ⟨_, rfl, _, _, _, _, false, rfl, .ty _, .base .non, kit_ty (by decide +kernel), _, rfl, iteF q⟩
    | bool b =>
      cases hx
      exact ⟨_, rfl, _, _, _, _, false, rfl, .ty _, .base (.bl _), kit_ty (by decide +kernel), _, rfl, iteF q⟩
    | int i =>
      cases hx
      exact ⟨_, rfl, _, _, _, _, false, rfl, .ty _, .base (.int _), kit_ty (by decide +kernel), _, rfl, iteF q⟩
    | str z =>
      cases hx
      exact ⟨_, rfl, _, _, _, _, false, rfl, .ty _, .base (.str _), kit_ty (by decide +kernel), _, rfl, iteF q⟩
    | list ds => exact ⟨_, rfl, _, _, _, _, false, rfl, .ty _, ty_data hx, kit_ty (show kitB "list" "tuple" = some false by decide +kernel), _, rfl, iteF q⟩
    | dict kvs => cases hx
    | tuple ds =>
      obtain ⟨a, xs, h1, h2, rfl⟩ : ∃ a xs, SqT K H a xs ∧ DpAll K H xs ds ∧ x = .ref a := by
        cases hx with
        | tup h1 h2 => exact ⟨_, _, h1, h2, rfl⟩
      have hl := DpAll.length _ h2
      refine ⟨_, rfl, _, _, _, _, true, rfl, .ty _, ty_tuple h1, kit_ty (by decide +kernel), _, rfl, iteT ⟨_, rfl, a, _, rfl, .inr h1, rfl, _, rfl, ite2 (fun h => ?_) (fun h => ?_)⟩⟩
      · have l2 : ds.length = 2 := by
          have z := V.int.inj (of_decide_eq_true h)
          omega
        obtain ⟨d0, d1, rfl⟩ : ∃ d0 d1, ds = [d0, d1] := by
          match ds, l2 with
          | [d0, d1], _ => exact ⟨_, _, rfl⟩
        cases h2 with
        | cons g0 h2 =>
          cases h2 with
          | cons g1 h2 =>
            cases h2
            refine ⟨_, rfl, a, _, 0, _, rfl, rfl, h1, rfl, _, rfl, _, d0, s, rfl, g0, _, rfl, ite2 (fun h3 => ?_) (fun h3 => ?_)⟩
            · have e : isPairD (.tuple [d0, d1]) s t = isBelowD d1 t := by
                show (isBelowD d0 s && isBelowD d1 t) = _
                rw [h3, Bool.true_and]
              rw [e] at q
              exact ⟨_, rfl, a, _, 1, _, rfl, rfl, h1, rfl, _, rfl, _, d1, t, rfl, g1, q⟩
            · have e0 : isBelowD d0 s = false := by
                cases z : isBelowD d0 s with
                | false => rfl
                | true => exact absurd z h3
              have e : isPairD (.tuple [d0, d1]) s t = false := by
                show (isBelowD d0 s && isBelowD d1 t) = _
                rw [e0, Bool.false_and]
              rw [e] at q
              exact q
      · have nl : ds.length ≠ 2 := fun z => h (by rw [hl, z]; rfl)
        have e : isPairD (.tuple ds) s t = false := by
          match ds, nl with
          | [], _ => rfl
          | [_], _ => rfl
          | [_, _], n => exact absurd rfl n
          | _ :: _ :: _ :: _, _ => rfl
        rw [e] at q
        exact q
theorem ok_are_pairs (T : Top K mg) (B_are_pairs : GxR.TabB base mg (cA K "are_pairs") (tA K "are_pairs")) (c_is_pair : CalD P w K mg base 3 "is_pair" s_is_pair ["told", "top", "second_top"] (spIsPair K)) : CalD P w K mg base 5 "are_pairs" s_are_pairs ["told", "top", "second_top"] (spArePairs K) := by
  refine calT_mk T.d_are_pairs sc_are_pairs (fun _ _ _ _ _ _ us hl => match us, hl with | [_, _, _], _ => rfl) (fun vs H Q E h => ?_) (fun f cdv A outer s H vs Q E hcd hr h => ?_)
  · obtain ⟨x, d, s, t, rfl, hx, hT, q⟩ := h
    rfl
  · obtain ⟨x, d, s, t, rfl, hx, hT, q⟩ := h
    refine ⟨_, (pss_one (ps_ret (pe_and (pe_callB call_isi (by rfl) T.z_isinstance (by decide +kernel) (pa_cons (pv 0) (pa_cons (pe_bltn (v := .ty "tuple") (by rfl) T.z_tuple (by decide +kernel) rfl) pa_nil))) (pe_one (Gx.pe_allG (c := cA K "are_pairs") (P := tA K "are_pairs") (i := 3) (own := [("one", 3)]) hr (by rfl) T.z_all (by decide +kernel) B_are_pairs hcd (genS_by rfl rfl rfl (by decide +kernel) rfl rfl (by decide +kernel)) sc_are_pairs.nd rfl (blkOk_by (own := [("one", 3)]) (N := N_are_pairs) (sc := defScope s_are_pairs) (by decide +kernel)) (pi_seq (pv 0)) (fun _ _ _ _ _ _ _ hr => (pe_f c_is_pair hr (by omega) (by rfl) (pa_cons (pv 3) (pa_cons (pv 1) (pa_cons (pv 2) pa_nil))))) (fun _ => rfl)))))), ?_⟩
    cases d with
    | none =>
      cases hx
      exact ⟨_, rfl, _, _, _, _, false, rfl, .ty _, .base .non, kit_ty (by decide +kernel), _, rfl, iteF (q _ (Gro.refl H))⟩
    | bool b =>
      cases hx
      exact ⟨_, rfl, _, _, _, _, false, rfl, .ty _, .base (.bl _), kit_ty (by decide +kernel), _, rfl, iteF (q _ (Gro.refl H))⟩
    | int i =>
      cases hx
      exact ⟨_, rfl, _, _, _, _, false, rfl, .ty _, .base (.int _), kit_ty (by decide +kernel), _, rfl, iteF (q _ (Gro.refl H))⟩
    | str z =>
      cases hx
      exact ⟨_, rfl, _, _, _, _, false, rfl, .ty _, .base (.str _), kit_ty (by decide +kernel), _, rfl, iteF (q _ (Gro.refl H))⟩
    | list ds => exact ⟨_, rfl, _, _, _, _, false, rfl, .ty _, ty_data hx, kit_ty (show kitB "list" "tuple" = some false by decide +kernel), _, rfl, iteF (q _ (Gro.refl H))⟩
    | dict kvs => cases hx
    | tuple ds =>
      obtain ⟨a, xs, hx1, hx2, rfl⟩ : ∃ a xs, SqT K H a xs ∧ DpAll K H xs ds ∧ x = .ref a := by
        cases hx with
        | tup h1 h2 => exact ⟨_, _, h1, h2, rfl⟩
      refine ⟨_, rfl, _, _, _, _, true, rfl, .ty _, ty_tuple hx1, kit_ty (by decide +kernel), _, rfl, iteT ?_⟩
      refine ⟨_, rfl, _, rfl, .inr ⟨⟨xs, hx1⟩, hT, fun H2 hTb => ?_⟩⟩
      have g2 := Gro.tab hT hTb
      exact asks_data (fun d => isPairD d s t) g2 hx2 (go_t hx1) (yl_t hx1) (st_t hx1) (fun v => rfl) (fun v d H' _ hd hg => ⟨_, rfl, _, rfl, _, rfl, v, d, s, t, rfl, hd, rfl, hg⟩) fun H' hg => q _ hg
theorem ok_are_unlike (T : Top K mg)  : CalD P w K mg base 1 "are_unlike" s_are_unlike ["some"] (spUnlike K) := by
  refine cal_mk T.d_are_unlike sc_are_unlike (fun _ _ _ _ _ _ us hl => match us, hl with | [_], _ => rfl) (fun vs H Q E h => ?_) (fun f cdv A outer s H vs Q E hr h => ?_)
  · obtain ⟨a, ns, rfl, hW, hnd, hfew, q⟩ := h
    rfl
  · obtain ⟨a, ns, rfl, hW, hnd, hfew, q⟩ := h
    refine ⟨_, (pss_one (ps_ret (pe_cmpR op_eq (pe_callB call_lenO (by rfl) T.z_len PySem.boot_len (pa_cons (pe_callTy (call_setNums rfl) (by rfl) T.z_set (by decide +kernel) (pa_cons (pv 0) pa_nil)) pa_nil)) (pe_callB call_len_seq (by rfl) T.z_len PySem.boot_len (pa_cons (pv 0) pa_nil)) (nomark _)))), ?_⟩
    have hW2 : SqL K H a ((ns.map fun k : Nat => (k : Int)).map V.int) ∨ SqT K H a ((ns.map fun k : Nat => (k : Int)).map V.int) := by
      rw [← intsV_map]
      exact hW
    refine ⟨_, rfl, a, _, rfl, hW2, by rw [List.length_map]; omega, fun ps c hcl hp => ⟨ps, _, c, rfl, upd_same, fun card => ?_⟩⟩
    refine ⟨_, rfl, a, _, rfl, hW.gro (.of (same_upd hp)), rfl, ?_⟩
    have ec : c = ns.length := by
      have z := card (ns.map fun k : Nat => (k : Int)) (List.pairwise_map.mpr (hnd.imp fun h e => h (by omega))) fun k => ⟨fun z => of_decide_eq_true z, fun z => decide_eq_true z⟩
      rw [z, List.length_map]
    rw [ec, intsV_len, decide_eq_true rfl]
    exact q _ (.of (same_upd hp))
theorem ok_check_number (T : Top K mg) (c_is_integer : CalD P w K mg base 1 "is_integer" s_is_integer ["told", "least"] (spIsInt K)) : CalD P w K mg base 2 "check_number" s_check_number ["told", "least"] (spCheckNum) := by
  refine cal_mk T.d_check_number sc_check_number (fun _ _ _ _ _ _ us hl => match us, hl with | [_, _], _ => rfl) (fun vs H Q E h => ?_) (fun f cdv A outer s H vs Q E hr h => ?_)
  · obtain ⟨n, l, rfl, hl, q⟩ := h
    rfl
  · obtain ⟨n, l, rfl, hl, q⟩ := h
    refine ⟨_, (pss_one (ps_if (pt_not (pt_val (pe_f c_is_integer hr (by omega) (by rfl) (pa_cons (pv 0) (pa_cons (pv 1) pa_nil))))) (pss_one ps_never) pss_nil)), ?_⟩
    refine ⟨_, rfl, _, rfl, .int (n : Int), .int (n : Int), (l : Int), rfl, .int _, _, rfl, ?_⟩
    have e : isIntD (.int (n : Int)) (l : Int) = true := by
      show decide ((l : Int) ≤ (n : Int)) = true
      exact decide_eq_true (by omega)
    rw [e]
    exact iteF q
theorem ok_is_mixing (T : Top K mg) (c_is_integer : CalD P w K mg base 1 "is_integer" s_is_integer ["told", "least"] (spIsInt K)) (c_are_pairs : CalD P w K mg base 5 "are_pairs" s_are_pairs ["told", "top", "second_top"] (spArePairs K)) (c_is_pair : CalD P w K mg base 3 "is_pair" s_is_pair ["told", "top", "second_top"] (spIsPair K)) : CalD P w K mg base 6 "is_mixing" s_is_mixing ["told"] (spIsMix K) := by
  refine cal_mk T.d_is_mixing sc_is_mixing (fun _ _ _ _ _ _ us hl => match us, hl with | [_], _ => rfl) (fun vs H Q E h => ?_) (fun f cdv A outer s H vs Q E hr h => ?_)
  · obtain ⟨x, d, rfl, hx, hT, q⟩ := h
    rfl
  · obtain ⟨x, d, rfl, hx, hT, q⟩ := h
    refine ⟨_, (pss_cons (ps_if (PW.pt (pw_or (pt_not (pt_val (pe_callB call_isi (by rfl) T.z_isinstance (by decide +kernel) (pa_cons (pv 0) (pa_cons (pe_bltn (v := .ty "tuple") (by rfl) T.z_tuple (by decide +kernel) rfl) pa_nil))))) (pw_or1 (pt_cmpR op_ne (pe_callB call_len_seq (by rfl) T.z_len PySem.boot_len (pa_cons (pv 0) pa_nil)) pe_int (nomark _))))) (pss_one (ps_ret pe_bl)) pss_nil)
  (pss_cons (ps_asg (pv 0) (pg_tup rfl (pgs_cons (pg_name (i := 1) sc_is_mixing.nd rfl (Or.inl rfl)) (pgs_cons (pg_name (i := 2) sc_is_mixing.nd rfl (Or.inl rfl)) (pgs_cons (pg_name (i := 3) sc_is_mixing.nd rfl (Or.inl rfl)) (pgs_cons (pg_name (i := 4) sc_is_mixing.nd rfl (Or.inl rfl)) pgs_nil))))))
  (pss_cons (ps_if (PW.pt (pw_or (pt_not (pt_val (pe_f c_is_integer hr (by omega) (by rfl) (pa_cons (pv 1) (pa_cons pe_int pa_nil))))) (pw_or1 (pt_not (pt_val (pe_f c_is_integer hr (by omega) (by rfl) (pa_cons (pv 2) (pa_cons pe_int pa_nil)))))))) (pss_one (ps_ret pe_bl)) pss_nil)
  (pss_one (ps_ret (pe_and (pe_f c_are_pairs hr (by omega) (by rfl) (pa_cons (pv 3) (pa_cons (pv 2) (pa_cons (pv 2) pa_nil)))) (pe_and (pe_cmpR op_gt (pe_callB call_len_seq (by rfl) T.z_len PySem.boot_len (pa_cons (pv 3) pa_nil)) pe_int (nomark _)) (pe_one (pe_f c_is_pair hr (by omega) (by rfl) (pa_cons (pv 4) (pa_cons (pv 2) (pa_cons (pv 2) pa_nil)))))))))))), ?_⟩
    have q0 := q H (Gro.refl H)
    cases d with
    | none =>
      cases hx
      exact ⟨_, rfl, _, _, _, _, false, rfl, .ty _, .base .non, kit_ty (by decide +kernel), _, rfl, iteT (iteT q0)⟩
    | bool b =>
      cases hx
      exact ⟨_, rfl, _, _, _, _, false, rfl, .ty _, .base (.bl _), kit_ty (by decide +kernel), _, rfl, iteT (iteT q0)⟩
    | int i =>
      cases hx
      exact ⟨_, rfl, _, _, _, _, false, rfl, .ty _, .base (.int _), kit_ty (by decide +kernel), _, rfl, iteT (iteT q0)⟩
    | str z =>
      cases hx
      exact ⟨_, rfl, _, _, _, _, false, rfl, .ty _, .base (.str _), kit_ty (by decide +kernel), _, rfl, iteT (iteT q0)⟩
    | list ds => exact ⟨_, rfl, _, _, _, _, false, rfl, .ty _, ty_data hx, kit_ty (show kitB "list" "tuple" = some false by decide +kernel), _, rfl, iteT (iteT q0)⟩
    | dict kvs => cases hx
    | tuple ds =>
      obtain ⟨a, xs, h1, h2, rfl⟩ : ∃ a xs, SqT K H a xs ∧ DpAll K H xs ds ∧ x = .ref a := by
        cases hx with
        | tup h1 h2 => exact ⟨_, _, h1, h2, rfl⟩
      have hl := DpAll.length _ h2
      refine ⟨_, rfl, _, _, _, _, true, rfl, .ty _, ty_tuple h1, kit_ty (by decide +kernel), _, rfl, iteF ⟨_, rfl, a, _, rfl, .inr h1, rfl, _, rfl, ite2 (fun h => ?_) (fun h => ?_)⟩⟩
      · have nl : ds.length ≠ 4 := fun z => by
          rw [hl, z] at h
          exact absurd h (by decide)
        have e : isMixD (.tuple ds) = false := mix_len nl
        rw [e] at q0
        exact q0
      · have l4 : ds.length = 4 := by
          cases w : decide (V.int (xs.length : Int) = V.int 4) with
          | true =>
            have z := V.int.inj (of_decide_eq_true w)
            omega
          | false => exact absurd (by show (!decide (V.int (xs.length : Int) = V.int 4)) = true; rw [w]; rfl) h
        obtain ⟨d1, d2, d3, d4, rfl⟩ : ∃ d1 d2 d3 d4, ds = [d1, d2, d3, d4] := by
          match ds, l4 with
          | [d1, d2, d3, d4], _ => exact ⟨_, _, _, _, rfl⟩
        clear h hl l4
        cases h2 with
        | cons g1 h2 =>
        cases h2 with
        | cons g2 h2 =>
        cases h2 with
        | cons g3 h2 =>
        cases h2 with
        | cons g4 h2 =>
        cases h2
        rename_i v1 v2 v3 v4
        refine ⟨_, rfl, a, _, rfl, h1, rfl, _, _, rfl, _, _, rfl, _, _, rfl, _, _, rfl, rfl, ?_⟩
        refine ⟨_, rfl, v1, d1, 1, rfl, g1, _, rfl, ?_⟩
        cases e1 : isIntD d1 1 with
        | false =>
          rw [mix_1 e1] at q0
          exact iteT (iteT q0)
        | true =>
        refine iteF ⟨_, rfl, v2, d2, 2, rfl, g2, _, rfl, ?_⟩
        cases e2 : isIntD d2 2 with
        | false =>
          rw [mix_2 e2] at q0
          exact iteT q0
        | true =>
        obtain ⟨p, rfl⟩ : ∃ p, d2 = .int p := by
          cases d2 with
          | int p => exact ⟨p, rfl⟩
          | _ => cases e2
        cases g2
        have e3 : isMixD (.tuple [d1, .int p, d3, d4]) = (arePairsD d3 p p && (someD d3 && isPairD d4 p p)) := by
          show (isIntD d1 1 && (decide (2 ≤ p) && _)) = _
          rw [e1, show decide ((2 : Int) ≤ p) = true from e2]
          rfl
        rw [e3] at q
        refine iteF ⟨_, rfl, _, rfl, _, rfl, v3, d3, p, p, rfl, g3, hT, fun H1 gg => ⟨_, rfl, ?_⟩⟩
        have q1 := q H1 gg
        cases e4 : arePairsD d3 p p with
        | false =>
          rw [e4, Bool.false_and] at q1
          exact iteF q1
        | true =>
        rw [e4, Bool.true_and] at q1
        obtain ⟨cs, rfl⟩ : ∃ cs, d3 = .tuple cs := by
          cases d3 with
          | tuple cs => exact ⟨cs, rfl⟩
          | _ => cases e4
        obtain ⟨b, ys, k1, k2, rfl⟩ : ∃ b ys, SqT K H b ys ∧ DpAll K H ys cs ∧ v3 = .ref b := by
          cases g3 with
          | tup z1 z2 => exact ⟨_, _, z1, z2, rfl⟩
        have kl := DpAll.length _ k2
        refine iteT ⟨_, rfl, b, _, rfl, .inr (gg.tupS k1), _, _, rfl, rfl, _, rfl, ite2 (fun h => ?_) (fun h => ?_)⟩
        · have es : someD (.tuple cs) = true := by
            cases cs with
            | nil =>
              have z := of_decide_eq_true h
              rw [kl] at z
              exact absurd z (by decide)
            | cons _ _ => rfl
          rw [es, Bool.true_and] at q1
          exact ⟨_, rfl, _, rfl, _, rfl, v4, d4, p, p, rfl, Dp.gro gg _ _ g4, q1⟩
        · have es : someD (.tuple cs) = false := by
            cases cs with
            | nil => rfl
            | cons c cs =>
              refine absurd (decide_eq_true ?_) h
              rw [kl, List.length_cons]
              omega
          rw [es, Bool.false_and] at q1
          exact q1
theorem ok_check_mixing (T : Top K mg) (c_is_mixing : CalD P w K mg base 6 "is_mixing" s_is_mixing ["told"] (spIsMix K)) : CalD P w K mg base 7 "check_mixing" s_check_mixing ["mixing"] (spCheckMix K) := by
  refine cal_mk T.d_check_mixing sc_check_mixing (fun _ _ _ _ _ _ us hl => match us, hl with | [_], _ => rfl) (fun vs H Q E h => ?_) (fun f cdv A outer s H vs Q E hr h => ?_)
  · obtain ⟨x, m, p, pairs, mark, rfl, hx, hOk, hT, q⟩ := h
    rfl
  · obtain ⟨x, m, p, pairs, mark, rfl, hx, hOk, hT, q⟩ := h
    refine ⟨_, (pss_one (ps_if (pt_not (pt_val (pe_f c_is_mixing hr (by omega) (by rfl) (pa_cons (pv 0) pa_nil)))) (pss_one ps_never) pss_nil)), ?_⟩
    refine ⟨_, rfl, x, _, rfl, hx, hT, fun H' g => ⟨_, rfl, ?_⟩⟩
    rw [hOk.is]
    exact iteF (q H' g)
theorem ok_mixed (T : Top K mg)  : CalD P w K mg base 1 "mixed" s_mixed ["pair", "p", "x"] (spMixed K) := by
  refine cal_mk T.d_mixed sc_mixed (fun _ _ _ _ _ _ us hl => match us, hl with | [_, _, _], _ => rfl) (fun vs H Q E h => ?_) (fun f cdv A outer s H vs Q E hr h => ?_)
  · obtain ⟨v, r, p, x, rfl, hv, h1, h2, hp, hx, q⟩ := h
    rfl
  · obtain ⟨v, r, p, x, rfl, hv, h1, h2, hp, hx, q⟩ := h
    refine ⟨_, (pss_cons (ps_asg (pv 0) (pg_tup rfl (pgs_cons (pg_name (i := 3) sc_mixed.nd rfl (Or.inl rfl)) (pgs_cons (pg_name (i := 4) sc_mixed.nd rfl (Or.inl rfl)) pgs_nil))))
  (pss_one (ps_ret (pe_op op_mod (pe_op op_add (pe_op op_mulX (pv 3) (pv 2)) (pv 4)) (pv 1))))), ?_⟩
    obtain ⟨c, rfl, hc⟩ := pair_inv hv
    have b1 : r.1 < 2 ^ 11 := by omega
    refine ⟨_, rfl, c, _, rfl, hc, rfl, _, _, rfl, _, _, rfl, rfl, ?_⟩
    refine ⟨_, rfl, _, rfl, _, _, rfl, rfl, cmulx (n := r.1) (m := x) b1 hx (by decide), _, rfl, _, _, rfl, rfl, _, rfl, _, _, rfl, rfl, (by show (0 : Int) < (p : Int); omega), ?_⟩
    show Q (.int (((r.1 : Int) * (x : Int) + (r.2 : Int)) % (p : Int))) H
    have e : ((r.1 : Int) * (x : Int) + (r.2 : Int)) % (p : Int) = (led p x r : Int) := by
      unfold led
      rw [Int.natCast_emod, Int.natCast_add, Int.natCast_mul]
    rw [e]
    exact q
theorem ok_row_of (T : Top K mg) (c_check_mixing : CalD P w K mg base 7 "check_mixing" s_check_mixing ["mixing"] (spCheckMix K)) (c_check_number : CalD P w K mg base 2 "check_number" s_check_number ["told", "least"] (spCheckNum)) (c_mixed : CalD P w K mg base 1 "mixed" s_mixed ["pair", "p", "x"] (spMixed K)) : CalD P w K mg base 8 "row_of" s_row_of ["mixing", "x"] (spRowM K) := by
  refine cal_mk T.d_row_of sc_row_of (fun _ _ _ _ _ _ us hl => match us, hl with | [_, _], _ => rfl) (fun vs H Q E h => ?_) (fun f cdv A outer s H vs Q E hr h => ?_)
  · obtain ⟨v, m, p, pairs, mark, x, rfl, hv, hOk, hx, hT, q⟩ := h
    rfl
  · obtain ⟨v, m, p, pairs, mark, x, rfl, hv, hOk, hx, hT, q⟩ := h
    refine ⟨_, (pss_cons (ps_expr (pe_f c_check_mixing hr (by omega) (by rfl) (pa_cons (pv 0) pa_nil)))
  (pss_cons (ps_expr (pe_f c_check_number hr (by omega) (by rfl) (pa_cons (pv 1) (pa_cons pe_int pa_nil))))
  (pss_cons (ps_asg (pv 0) (pg_tup rfl (pgs_cons (pg_name (i := 2) sc_row_of.nd rfl (Or.inr rfl)) (pgs_cons (pg_name (i := 3) sc_row_of.nd rfl (Or.inr rfl)) (pgs_cons (pg_name (i := 4) sc_row_of.nd rfl (Or.inl rfl)) (pgs_cons (pg_name (i := 5) sc_row_of.nd rfl (Or.inl rfl)) pgs_nil))))))
  (pss_one (ps_ret (pe_callTy call_tuple_of (by rfl) T.z_tuple (by decide +kernel) (pa_cons (pe_callB (cr_sortedSet rfl) (by rfl) T.z_sorted (by decide +kernel) (pa_cons (pe_set1 (own := [("pair", 6)]) (g := gName 6) rfl sc_row_of.nd (pi_tup (pv 4)) (blkOk_by (own := [("pair", 6)]) (N := N_row_of) (sc := defScope s_row_of) (by decide +kernel)) (fun _ _ _ _ _ => pg_name (i := 6) sc_row_of.nd rfl (Or.inl rfl)) (fun _ _ _ _ _ => (pe_op op_mod (pe_f c_mixed hr (by omega) (by rfl) (pa_cons (pv 6) (pa_cons (pv 3) (pa_cons (pv 1) pa_nil)))) (pv 2)))) pa_nil)) pa_nil))))))), ?_⟩
    refine ⟨_, rfl, v, m, p, pairs, mark, rfl, hv, hOk, hT, fun H1 g1 => ?_⟩
    refine ⟨_, rfl, x, 0, rfl, Nat.zero_le _, ?_⟩
    obtain ⟨a, b, c, xs, rfl, h1, h2, h3, h4⟩ := mix_inv (Dp.gro g1 _ _ hv)
    have hl : xs.length = pairs.length := (DpAll.length _ h3).trans (List.length_map _)
    have hm1 := hOk.m1
    have hm2 := hOk.m2
    refine ⟨_, rfl, a, _, rfl, h1, rfl, _, _, rfl, _, _, rfl, _, _, rfl, _, _, rfl, rfl, ?_⟩
    refine ⟨_, rfl, b, rfl, ⟨_, h2⟩, fun D hD => ?_⟩
    refine walk_steps (walk_tup (xs := xs)) (fun i H' => ∃ l : List Nat, Gro H1 H' ∧ HoldsAt w H' D l ∧ l.Nodup ∧ ∀ d, d ∈ l ↔ ∃ r ∈ pairs.take i, led p x r % m = d) ⟨[], .of (same_upd hD), ?_, List.nodup_nil, fun d => ⟨fun z => absurd z List.not_mem_nil, fun ⟨k, z, _⟩ => absurd z (by simp)⟩⟩ (fun i H' _ hP => ?_) (fun i u H' H2 hi hP yl => ?_) (fun H' hP => ?_)
    · show upd H1 D _ D = _
      rw [upd_same]
      rfl
    · obtain ⟨l, gP, _⟩ := hP
      exact gP.tupS h2
    · obtain ⟨l, gP, eP, nP, mP⟩ := hP
      obtain ⟨rfl, ev⟩ := yl
      have hip : i < pairs.length := by omega
      obtain ⟨u2, eu, du⟩ := DpAll.get _ h3 (i := i) (d := pqD pairs[i]) (by rw [List.getElem?_map, List.getElem?_eq_getElem hip]; rfl)
      have ee : u = u2 := Option.some.inj (ev.symm.trans eu)
      subst ee
      have few : l.length ≤ m := nodup_few nP fun z hz => by
        obtain ⟨r, _, e⟩ := (mP z).mp hz
        rw [← e]
        exact Nat.mod_lt _ (by omega)
      obtain ⟨l3, ⟨_, m3⟩, n3, h3'⟩ := HoldsAt.put (w := w) (H := H2) (D := D) (led p x pairs[i] % m) nP
      have hq := hOk.each _ (List.getElem_mem hip)
      refine ⟨rfl, _, rfl, _, rfl, _, rfl, u, pairs[i], p, x, rfl, Dp.gro gP _ _ du, hq.1, hq.2, hOk.p2, hx, _, rfl, _, _, rfl, rfl, (by show (0 : Int) < (m : Int); omega), ((led p x pairs[i] % m : Nat) : Int), _, _, congrArg V.int (Int.natCast_emod _ _).symm, eP, Nat.lt_of_le_of_lt (by omega : l.length + 1 ≤ 61) (by decide), l3, ?_, h3', n3, fun z => ?_⟩
      · exact fun u o e => (gP u o e).imp fun o' z => ⟨by rw [upd_ne (fun q => by rw [q, hD] at e; cases e)]; exact z.1, z.2⟩
      · rw [m3, mP, List.take_add_one, List.getElem?_eq_getElem hip]
        simp only [Option.toList_some, List.mem_append, List.mem_singleton]
        constructor
        · rintro (⟨r, h5, h6⟩ | h5)
          · exact ⟨r, .inl h5, h6⟩
          · exact ⟨_, .inr rfl, h5.symm⟩
        · rintro ⟨r, h5 | rfl, h6⟩
          · exact .inl ⟨r, h5, h6⟩
          · exact .inr h6.symm
    · obtain ⟨l, gP, eP, nP, mP⟩ := hP
      rw [hl, List.take_length] at mP
      have few := nodup_few nP fun z hz => by
        obtain ⟨r, _, e⟩ := (mP z).mp hz
        rw [← e]
        exact Nat.mod_lt _ (show 0 < m by omega)
      refine ⟨D, _, _, rfl, eP, by omega, fun ns' ps hpw hmem _ hps => ⟨ps, _, rfl, .inl ⟨SqL.of upd_same, fun pt hpt => ?_⟩⟩⟩
      obtain ⟨hR, hpos⟩ := isRow_of (cells := l) hpw fun k => (hmem k).trans ⟨fun z => of_decide_eq_true z, fun z => decide_eq_true z⟩
      refine q _ pt (((g1.trans gP).trans (.of (same_upd hps))).trans (.of (same_upd hpt))) (SqT.of ?_)
      rw [upd_same, nats_back hpos, rowM_row hm1 hR.1 fun c => (hR.2 c).trans (mP c)]
theorem ok_mark_of (T : Top K mg) (c_check_mixing : CalD P w K mg base 7 "check_mixing" s_check_mixing ["mixing"] (spCheckMix K)) (c_check_number : CalD P w K mg base 2 "check_number" s_check_number ["told", "least"] (spCheckNum)) (c_mixed : CalD P w K mg base 1 "mixed" s_mixed ["pair", "p", "x"] (spMixed K)) : CalD P w K mg base 8 "mark_of" s_mark_of ["mixing", "w", "x"] (spMarkM K) := by
  refine cal_mk T.d_mark_of sc_mark_of (fun _ _ _ _ _ _ us hl => match us, hl with | [_, _, _], _ => rfl) (fun vs H Q E h => ?_) (fun f cdv A outer s H vs Q E hr h => ?_)
  · obtain ⟨v, m, p, pairs, mark, w1, x, rfl, hv, hOk, hw, hw2, hx, hT, q⟩ := h
    rfl
  · obtain ⟨v, m, p, pairs, mark, w1, x, rfl, hv, hOk, hw, hw2, hx, hT, q⟩ := h
    refine ⟨_, (pss_cons (ps_expr (pe_f c_check_mixing hr (by omega) (by rfl) (pa_cons (pv 0) pa_nil)))
  (pss_cons (ps_expr (pe_f c_check_number hr (by omega) (by rfl) (pa_cons (pv 1) (pa_cons pe_int pa_nil))))
  (pss_cons (ps_expr (pe_f c_check_number hr (by omega) (by rfl) (pa_cons (pv 2) (pa_cons pe_int pa_nil))))
  (pss_cons (ps_asg (pv 0) (pg_tup rfl (pgs_cons (pg_name (i := 3) sc_mark_of.nd rfl (Or.inl rfl)) (pgs_cons (pg_name (i := 4) sc_mark_of.nd rfl (Or.inl rfl)) (pgs_cons (pg_name (i := 3) sc_mark_of.nd rfl (Or.inl rfl)) (pgs_cons (pg_name (i := 5) sc_mark_of.nd rfl (Or.inl rfl)) pgs_nil))))))
  (pss_one (ps_ret (pe_op op_mod (pe_f c_mixed hr (by omega) (by rfl) (pa_cons (pv 5) (pa_cons (pv 4) (pa_cons (pv 2) pa_nil)))) (pe_op op_shlW pe_int (pv 1))))))))), ?_⟩
    refine ⟨_, rfl, v, m, p, pairs, mark, rfl, hv, hOk, hT, fun H1 g1 => ?_⟩
    refine ⟨_, rfl, w1, 1, rfl, hw, ?_⟩
    refine ⟨_, rfl, x, 0, rfl, Nat.zero_le _, ?_⟩
    obtain ⟨a, b, c, xs, rfl, h1, h2, h3, h4⟩ := mix_inv (Dp.gro g1 _ _ hv)
    refine ⟨_, rfl, a, _, rfl, h1, rfl, _, _, rfl, _, _, rfl, _, _, rfl, _, _, rfl, rfl, ?_⟩
    have hp := hOk.mkd
    have e2 : ((2 : Int) ^ (w1 : Int).toNat) = ((2 ^ w1 : Nat) : Int) := by rw [Int.toNat_natCast, cast_pow]
    have pos : 0 < 2 ^ w1 := Nat.pow_pos (by decide)
    refine ⟨_, rfl, _, rfl, _, rfl, .ref c, mark, p, x, rfl, pair_mk h4, hp.1, hp.2, hOk.p2, hx, _, rfl, 1, (w1 : Int), rfl, rfl, shl_ok (n := 1) (by decide) (by omega), _, _, rfl, rfl, (by show (0 : Int) < 1 * 2 ^ (w1 : Int).toNat; rw [e2]; omega), ?_⟩
    show Q (.int ((led p x mark : Int) % (1 * 2 ^ (w1 : Int).toNat))) H1
    rw [e2, Int.one_mul, ← Int.natCast_emod]
    exact q _ g1
theorem ok_check_numbers (T : Top K mg) (c_are_integers : CalD P w K mg base 3 "are_integers" s_are_integers ["told", "least"] (spAreInts K)) (c_are_unlike : CalD P w K mg base 1 "are_unlike" s_are_unlike ["some"] (spUnlike K)) : CalD P w K mg base 4 "check_numbers" s_check_numbers ["numbers"] (spCheckNums K) := by
  refine cal_mk T.d_check_numbers sc_check_numbers (fun _ _ _ _ _ _ us hl => match us, hl with | [_], _ => rfl) (fun vs H Q E h => ?_) (fun f cdv A outer s H vs Q E hr h => ?_)
  · obtain ⟨a, ns, rfl, hW, hnd, hfew, hT, q⟩ := h
    rfl
  · obtain ⟨a, ns, rfl, hW, hnd, hfew, hT, q⟩ := h
    refine ⟨_, (pss_one (ps_if (PW.pt (pw_or (pt_not (pt_val (pe_f c_are_integers hr (by omega) (by rfl) (pa_cons (pv 0) (pa_cons pe_int pa_nil))))) (pw_or1 (pt_not (pt_val (pe_f c_are_unlike hr (by omega) (by rfl) (pa_cons (pv 0) pa_nil))))))) (pss_one ps_never) pss_nil)), ?_⟩
    have hd := dpI (K := K) (H := H) (ns.map fun k : Nat => (k : Int))
    rw [← intsV_map] at hd
    have ok : areIntsD (.list (natsD ns)) 0 = true := by
      show ((natsD ns).all fun d => isIntD d 0) = true
      rw [List.all_map, List.all_map]
      exact List.all_eq_true.mpr fun n _ => decide_eq_true (Int.natCast_nonneg n)
    obtain ⟨d, hD, okd⟩ : ∃ d, Dp K H (.ref a) d ∧ areIntsD d 0 = true := by
      rcases hW with h | h
      · exact ⟨_, .lst h hd, ok⟩
      · exact ⟨_, .tup h hd, ok⟩
    refine ⟨_, rfl, _, d, 0, rfl, hD, hT, fun H1 g1 => ⟨_, rfl, ?_⟩⟩
    rw [okd]
    exact iteF ⟨_, rfl, a, ns, rfl, hW.gro g1, hnd, hfew, fun H2 g2 => ⟨_, rfl, iteF (q _ (g1.trans g2))⟩⟩
theorem ok_book_of (T : Top K mg) (c_check_mixing : CalD P w K mg base 7 "check_mixing" s_check_mixing ["mixing"] (spCheckMix K)) (c_check_numbers : CalD P w K mg base 4 "check_numbers" s_check_numbers ["numbers"] (spCheckNums K)) (c_row_of : CalD P w K mg base 8 "row_of" s_row_of ["mixing", "x"] (spRowM K)) : CalD P w K mg base 9 "book_of" s_book_of ["mixing", "numbers"] (spBookOf K) := by
  refine cal_mk T.d_book_of sc_book_of (fun _ _ _ _ _ _ us hl => match us, hl with | [_, _], _ => rfl) (fun vs H Q E h => ?_) (fun f cdv A outer s H vs Q E hr h => ?_)
  · obtain ⟨v, c, m, p, pairs, mark, ns, rfl, hv, hOk, hW, hnd, hfew, hbig, hT, hT2, q⟩ := h
    rfl
  · obtain ⟨v, c, m, p, pairs, mark, ns, rfl, hv, hOk, hW, hnd, hfew, hbig, hT, hT2, q⟩ := h
    refine ⟨_, (pss_cons (ps_expr (pe_f c_check_mixing hr (by omega) (by rfl) (pa_cons (pv 0) pa_nil)))
  (pss_cons (ps_expr (pe_f c_check_numbers hr (by omega) (by rfl) (pa_cons (pv 1) pa_nil)))
  (pss_one (ps_ret (pe_tup (pa_cons (pe_ix ix_tup (pv 0) pe_int (fun _ _ => rfl)) (pa_cons (pe_callTy call_tuple_of (by rfl) T.z_tuple (by decide +kernel) (pa_cons (pe_lc (own := [("x", 2)]) (g := gName 2) rfl sc_book_of.nd (pi_seq (pv 1)) (blkOk_by (own := [("x", 2)]) (N := N_book_of) (sc := defScope s_book_of) (by decide +kernel)) (fun _ _ _ _ _ => pg_name (i := 2) sc_book_of.nd rfl (Or.inl rfl)) (fun _ _ _ _ _ => pts_nil) (fun _ _ _ _ _ => (pe_f c_row_of hr (by omega) (by rfl) (pa_cons (pv 0) (pa_cons (pv 2) pa_nil))))) pa_nil)) pa_nil))))))), ?_⟩
    refine ⟨_, rfl, v, m, p, pairs, mark, rfl, hv, hOk, hT, fun H1 g1 => ?_⟩
    refine ⟨_, rfl, c, ns, rfl, hW.gro g1, hnd, hfew, g1.tg hT2, fun H2 g2 => ?_⟩
    have g12 := g1.trans g2
    obtain ⟨a, b, e, xs, rfl, h1, h2, h3, h4⟩ := mix_inv (Dp.gro g12 _ _ hv)
    have hv2 := Dp.gro g12 _ _ hv
    have hT3 := g12.tg hT
    refine ⟨_, rfl, a, _, 0, .int (m : Int), rfl, rfl, h1, rfl, ?_⟩
    rcases hW.gro g12 with hL | hL
    · refine ⟨_, rfl, c, rfl, .inl ⟨⟨_, hL⟩, fun D hD => ?_⟩⟩
      refine lc_it (walk_list (xs := intsV ns)) (fun i H' => ∃ vs : List V, Gro H2 H' ∧ H' D = some (.lst vs) ∧ vs.length = i ∧ DpAll K H' vs (((ns.take i).map (rowM m p pairs)).map rowD)) ⟨[], .of (same_upd hD), upd_same, rfl, .nil⟩ (fun i H' _ hP => ?_) (fun i u H' H5 hi hP yl => ?_) (fun H' hP => ?_)
      · obtain ⟨vs, gP, _⟩ := hP
        exact gP.seq hL
      · obtain ⟨vs, gP, eP, lP, dP⟩ := hP
        obtain ⟨rfl, ev⟩ := yl
        obtain ⟨x, ex, rfl⟩ := intsV_at ev
        rw [intsV_len] at hi
        refine ⟨rfl, _, rfl, _, rfl, .ref a, m, p, pairs, mark, x, rfl, Dp.gro gP _ _ hv2, hOk, hbig x (List.mem_of_getElem? ex), gP.tg hT3, fun H3 b3 g3 s3 => ?_⟩
        have e3 := g3.at eP
        have t3 := Tup.put (vs ++ [V.ref b3]) e3
        refine ⟨_, e3, Nat.lt_of_lt_of_le (by omega : vs.length < 100) (by decide), vs ++ [V.ref b3], ?_, upd_same, by rw [List.length_append, lP]; rfl, ?_⟩
        · exact fun u o e => ((gP.trans g3) u o e).imp fun o' z => ⟨by rw [upd_ne (fun q => by rw [q, hD] at e; cases e)]; exact z.1, z.2⟩
        · have d3 := DpAll.gro g3 _ _ dP
          rw [List.take_add_one, ex, List.map_append, List.map_append]
          exact DpAll.app (.cons (t3.row (row_mk s3)) .nil) (t3.rows d3)
      · obtain ⟨vs, gP, eP, lP, dP⟩ := hP
        rw [intsV_len, List.take_length] at dP
        refine ⟨D, _, rfl, .inl ⟨SqL.of eP, fun pt hpt => ⟨(by show 2 ≤ sizeLine; decide), fun pr hpr => ?_⟩⟩⟩
        have sT := same_upd (o := HO.tup vs) hpt
        have sR := same_upd (o := HO.tup [V.int (m : Int), V.ref pt]) hpr
        exact q _ pr (((g12.trans gP).trans (.of sT)).trans (.of sR)) (page_mk (SqT.of upd_same) (Same.tupS sR (SqT.of upd_same)) (DpAll.same sR _ _ (DpAll.same sT _ _ dP)))
    · refine ⟨_, rfl, c, rfl, .inr ⟨⟨_, hL⟩, fun D hD => ?_⟩⟩
      refine lc_it (walk_tup (xs := intsV ns)) (fun i H' => ∃ vs : List V, Gro H2 H' ∧ H' D = some (.lst vs) ∧ vs.length = i ∧ DpAll K H' vs (((ns.take i).map (rowM m p pairs)).map rowD)) ⟨[], .of (same_upd hD), upd_same, rfl, .nil⟩ (fun i H' _ hP => ?_) (fun i u H' H5 hi hP yl => ?_) (fun H' hP => ?_)
      · obtain ⟨vs, gP, _⟩ := hP
        exact gP.tupS hL
      · obtain ⟨vs, gP, eP, lP, dP⟩ := hP
        obtain ⟨rfl, ev⟩ := yl
        obtain ⟨x, ex, rfl⟩ := intsV_at ev
        rw [intsV_len] at hi
        refine ⟨rfl, _, rfl, _, rfl, .ref a, m, p, pairs, mark, x, rfl, Dp.gro gP _ _ hv2, hOk, hbig x (List.mem_of_getElem? ex), gP.tg hT3, fun H3 b3 g3 s3 => ?_⟩
        have e3 := g3.at eP
        have t3 := Tup.put (vs ++ [V.ref b3]) e3
        refine ⟨_, e3, Nat.lt_of_lt_of_le (by omega : vs.length < 100) (by decide), vs ++ [V.ref b3], ?_, upd_same, by rw [List.length_append, lP]; rfl, ?_⟩
        · exact fun u o e => ((gP.trans g3) u o e).imp fun o' z => ⟨by rw [upd_ne (fun q => by rw [q, hD] at e; cases e)]; exact z.1, z.2⟩
        · have d3 := DpAll.gro g3 _ _ dP
          rw [List.take_add_one, ex, List.map_append, List.map_append]
          exact DpAll.app (.cons (t3.row (row_mk s3)) .nil) (t3.rows d3)
      · obtain ⟨vs, gP, eP, lP, dP⟩ := hP
        rw [intsV_len, List.take_length] at dP
        refine ⟨D, _, rfl, .inl ⟨SqL.of eP, fun pt hpt => ⟨(by show 2 ≤ sizeLine; decide), fun pr hpr => ?_⟩⟩⟩
        have sT := same_upd (o := HO.tup vs) hpt
        have sR := same_upd (o := HO.tup [V.int (m : Int), V.ref pt]) hpr
        exact q _ pr (((g12.trans gP).trans (.of sT)).trans (.of sR)) (page_mk (SqT.of upd_same) (Same.tupS sR (SqT.of upd_same)) (DpAll.same sR _ _ (DpAll.same sT _ _ dP)))
theorem ok_seeded_pair (T : Top K mg)  : CalD P w K mg base 1 "seeded_pair" s_seeded_pair ["pair", "p", "s"] (spSeedP K) := by
  refine cal_mk T.d_seeded_pair sc_seeded_pair (fun _ _ _ _ _ _ us hl => match us, hl with | [_, _, _], _ => rfl) (fun vs H Q E h => ?_) (fun f cdv A outer s H vs Q E hr h => ?_)
  · obtain ⟨v, r, p, s, rfl, hv, h1, h2, hp, hs, q⟩ := h
    rfl
  · obtain ⟨v, r, p, s, rfl, hv, h1, h2, hp, hs, q⟩ := h
    refine ⟨_, (pss_cons (ps_asg (pv 0) (pg_tup rfl (pgs_cons (pg_name (i := 3) sc_seeded_pair.nd rfl (Or.inl rfl)) (pgs_cons (pg_name (i := 4) sc_seeded_pair.nd rfl (Or.inl rfl)) pgs_nil))))
  (pss_one (ps_ret (pe_tup (pa_cons (pe_op op_mod (pe_op op_add (pe_op op_mulX (pv 3) (pe_op op_add (pe_op op_mulX pe_int (pv 2)) pe_int)) (pv 2)) (pv 1)) (pa_cons (pe_op op_mod (pe_op op_add (pv 4) (pe_op op_mulX (pv 2) (pv 2))) (pv 1)) pa_nil)))))), ?_⟩
    obtain ⟨c, rfl, hc⟩ := pair_inv hv
    have b1 : r.1 < 2 ^ 11 := by omega
    have b2 : 2 * s + 1 < 2 ^ 302 := by
      have : (2 : Nat) ^ 302 = 4 * 2 ^ 300 := by decide
      omega
    refine ⟨_, rfl, c, _, rfl, hc, rfl, _, _, rfl, _, _, rfl, rfl, ?_⟩
    have e0 : (2 : Int) * (s : Int) + 1 = ((2 * s + 1 : Nat) : Int) := by omega
    refine ⟨_, rfl, _, rfl, 2, _, rfl, rfl, cmulx (n := 2) (m := s) (a := 2) (b := 300) (by decide) hs (by decide), _, 1, rfl, rfl, _, _, rfl, rfl, (by show CMulX (r.1 : Int) ((2 : Int) * (s : Int) + 1); rw [e0]; exact cmulx b1 b2 (by decide)), _, rfl, _, _, rfl, rfl, _, rfl, _, _, rfl, rfl, (by show (0 : Int) < (p : Int); omega), ?_⟩
    refine ⟨_, rfl, _, rfl, _, rfl, _, _, rfl, rfl, cmulx (n := s) (m := s) hs hs (by decide), _, _, rfl, rfl, _, rfl, _, _, rfl, rfl, (by show (0 : Int) < (p : Int); omega), (by show 2 ≤ sizeLine; decide), fun pt hpt => ?_⟩
    refine q _ pt (.of (same_upd hpt)) (SqT.of ?_)
    have e1 : ((r.1 : Int) * ((2 : Int) * (s : Int) + 1) + (s : Int)) % (p : Int) = ((seedP p s r).1 : Int) := by
      show _ = (((r.1 * (2 * s + 1) + s) % p : Nat) : Int)
      rw [e0, ← Int.natCast_mul, ← Int.natCast_add, ← Int.natCast_emod]
    have e2 : ((r.2 : Int) + (s : Int) * (s : Int)) % (p : Int) = ((seedP p s r).2 : Int) := by
      show _ = (((r.2 + s * s) % p : Nat) : Int)
      rw [Int.natCast_emod, Int.natCast_add, Int.natCast_mul]
    rw [upd_same]
    show some (HO.tup [V.int (((r.1 : Int) * ((2 : Int) * (s : Int) + 1) + (s : Int)) % (p : Int)), V.int (((r.2 : Int) + (s : Int) * (s : Int)) % (p : Int))]) = _
    rw [e1, e2]
theorem ok_seeded (T : Top K mg) (c_check_mixing : CalD P w K mg base 7 "check_mixing" s_check_mixing ["mixing"] (spCheckMix K)) (c_check_number : CalD P w K mg base 2 "check_number" s_check_number ["told", "least"] (spCheckNum)) (c_seeded_pair : CalD P w K mg base 1 "seeded_pair" s_seeded_pair ["pair", "p", "s"] (spSeedP K)) : CalD P w K mg base 8 "seeded" s_seeded ["mixing", "s"] (spSeeded K) := by
  refine cal_mk T.d_seeded sc_seeded (fun _ _ _ _ _ _ us hl => match us, hl with | [_, _], _ => rfl) (fun vs H Q E h => ?_) (fun f cdv A outer s H vs Q E hr h => ?_)
  · obtain ⟨v, m, p, pairs, mark, s1, rfl, hv, hOk, hs, hT, q⟩ := h
    rfl
  · obtain ⟨v, m, p, pairs, mark, s1, rfl, hv, hOk, hs, hT, q⟩ := h
    refine ⟨_, (pss_cons (ps_expr (pe_f c_check_mixing hr (by omega) (by rfl) (pa_cons (pv 0) pa_nil)))
  (pss_cons (ps_expr (pe_f c_check_number hr (by omega) (by rfl) (pa_cons (pv 1) (pa_cons pe_int pa_nil))))
  (pss_cons (ps_asg (pv 0) (pg_tup rfl (pgs_cons (pg_name (i := 2) sc_seeded.nd rfl (Or.inl rfl)) (pgs_cons (pg_name (i := 3) sc_seeded.nd rfl (Or.inr rfl)) (pgs_cons (pg_name (i := 4) sc_seeded.nd rfl (Or.inl rfl)) (pgs_cons (pg_name (i := 5) sc_seeded.nd rfl (Or.inl rfl)) pgs_nil))))))
  (pss_one (ps_ret (pe_tup (pa_cons (pv 2) (pa_cons (pv 3) (pa_cons (pe_callTy call_tuple_of (by rfl) T.z_tuple (by decide +kernel) (pa_cons (pe_lc (own := [("pair", 6)]) (g := gName 6) rfl sc_seeded.nd (pi_tup (pv 4)) (blkOk_by (own := [("pair", 6)]) (N := N_seeded) (sc := defScope s_seeded) (by decide +kernel)) (fun _ _ _ _ _ => pg_name (i := 6) sc_seeded.nd rfl (Or.inl rfl)) (fun _ _ _ _ _ => pts_nil) (fun _ _ _ _ _ => (pe_f c_seeded_pair hr (by omega) (by rfl) (pa_cons (pv 6) (pa_cons (pv 3) (pa_cons (pv 1) pa_nil)))))) pa_nil)) (pa_cons (pe_f c_seeded_pair hr (by omega) (by rfl) (pa_cons (pv 5) (pa_cons (pv 3) (pa_cons (pv 1) pa_nil)))) pa_nil)))))))))), ?_⟩
    refine ⟨_, rfl, v, m, p, pairs, mark, rfl, hv, hOk, hT, fun H1 g1 => ?_⟩
    refine ⟨_, rfl, s1, 0, rfl, Nat.zero_le _, ?_⟩
    obtain ⟨a, b, c, xs, rfl, h1, h2, h3, h4⟩ := mix_inv (Dp.gro g1 _ _ hv)
    have hl : xs.length = pairs.length := (DpAll.length _ h3).trans (List.length_map _)
    have hfew := hOk.few
    refine ⟨_, rfl, a, _, rfl, h1, rfl, _, _, rfl, _, _, rfl, _, _, rfl, _, _, rfl, rfl, ?_⟩
    refine ⟨_, rfl, _, rfl, _, rfl, b, rfl, ⟨_, h2⟩, fun D hD => ?_⟩
    refine lc_it (walk_tup (xs := xs)) (fun i H' => ∃ vs : List V, Gro H1 H' ∧ H' D = some (.lst vs) ∧ vs.length = i ∧ DpAll K H' vs (((pairs.take i).map (seedP p s1)).map pqD)) ⟨[], .of (same_upd hD), upd_same, rfl, .nil⟩ (fun i H' _ hP => ?_) (fun i u H' H2 hi hP yl => ?_) (fun H' hP => ?_)
    · obtain ⟨vs, gP, _⟩ := hP
      exact gP.tupS h2
    · obtain ⟨vs, gP, eP, lP, dP⟩ := hP
      obtain ⟨rfl, ev⟩ := yl
      have hip : i < pairs.length := by omega
      obtain ⟨u2, eu, du⟩ := DpAll.get _ h3 (i := i) (d := pqD pairs[i]) (by rw [List.getElem?_map, List.getElem?_eq_getElem hip]; rfl)
      have ee : u = u2 := Option.some.inj (ev.symm.trans eu)
      subst ee
      have hq := hOk.each _ (List.getElem_mem hip)
      refine ⟨rfl, _, rfl, _, rfl, _, rfl, u, pairs[i], p, s1, rfl, Dp.gro gP _ _ du, hq.1, hq.2, hOk.p2, hs, fun H3 b3 g3 s3 => ?_⟩
      have e3 := g3.at eP
      have t3 := Tup.put (vs ++ [V.ref b3]) e3
      refine ⟨_, e3, Nat.lt_of_lt_of_le (by omega : vs.length < 100) (by decide), vs ++ [V.ref b3], ?_, upd_same, by rw [List.length_append, lP]; rfl, ?_⟩
      · exact fun u o e => ((gP.trans g3) u o e).imp fun o' z => ⟨by rw [upd_ne (fun q => by rw [q, hD] at e; cases e)]; exact z.1, z.2⟩
      · have d3 := DpAll.gro g3 _ _ dP
        rw [List.take_add_one, List.getElem?_eq_getElem hip, List.map_append, List.map_append]
        exact DpAll.app (.cons (t3.pair (pair_mk s3)) .nil) (t3.pairs d3)
    · obtain ⟨vs, gP, eP, lP, dP⟩ := hP
      rw [hl, List.take_length] at dP
      refine ⟨D, _, rfl, .inl ⟨SqL.of eP, fun pt hpt => ?_⟩⟩
      have sT := same_upd (o := HO.tup vs) hpt
      have gT := gP.trans (.of sT)
      have hq := hOk.mkd
      refine ⟨_, rfl, _, rfl, _, rfl, .ref c, mark, p, s1, rfl, pair_mk (gT.tupS h4), hq.1, hq.2, hOk.p2, hs, fun H3 b3 g3 s3 => ⟨(by show 4 ≤ sizeLine; decide), fun pr hpr => ?_⟩⟩
      have sR := same_upd (o := HO.tup [V.int (m : Int), V.int (p : Int), V.ref pt, V.ref b3]) hpr
      have gR := g3.trans (.of sR)
      exact q _ pr ((g1.trans gT).trans gR) (mix_mk (SqT.of upd_same) (gR.tupS (SqT.of upd_same)) (DpAll.gro gR _ _ (DpAll.same sT _ _ dP)) (pair_mk (Same.tupS sR s3)))
theorem ok__law_stock (T : Top K mg)  : CalD P w K mg base 1 "_law_stock" s__law_stock ["script", "spot"] (spWell K) := by
  refine cal_mk T.d__law_stock sc__law_stock (fun _ _ _ _ _ _ us hl => match us, hl with | [_, _], _ => rfl) (fun vs H Q E h => ?_) (fun f cdv A outer s H vs Q E hr h => ?_)
  · obtain ⟨l, ns, j, rfl, hS, hj, q⟩ := h
    rfl
  · obtain ⟨l, ns, j, rfl, hS, hj, q⟩ := h
    refine ⟨_, (pss_cons (ps_set (i := 2) sc__law_stock.nd rfl (Or.inl rfl) (pe_ifExp (pt_cmpR op_lt (pv 1) (pe_callB call_len_seq (by rfl) T.z_len PySem.boot_len (pa_cons (pv 0) pa_nil)) (nomark _)) (pe_ix ix_list (pv 0) (pv 1) (fun _ _ => rfl)) (pe_op op_add (pe_op op_add (pe_op op_mulX pe_int (pv 1)) (pe_op op_mulX pe_int (pe_callB call_len_seq (by rfl) T.z_len PySem.boot_len (pa_cons (pv 0) pa_nil)))) pe_int)))
  (pss_cons (ps_set (i := 3) sc__law_stock.nd rfl (Or.inl rfl) (pe_ifExp (pt_cmpR op_ge (pv 2) (pe_op op_pow pe_int pe_int) (nomark _)) (pe_op op_sub (pv 2) (pe_op op_pow pe_int pe_int)) pe_int))
  (pss_one (ps_ret (pe_lst (pa_cons (pv 3) (pa_cons (pe_op op_mod (pe_callTy call_int1 (by rfl) T.z_int (by decide +kernel) (pa_cons (pe_op op_add (pe_op op_add (pe_op op_mul (pv 2) pe_int) (pe_op op_mulX (pv 1) pe_int)) pe_int) pa_nil)) (pe_op op_add (pe_op op_pow pe_int pe_int) pe_int)) (pa_cons pe_int pa_nil)))))))), ?_⟩
    have hlt : decide ((j : Int) < ((ns.map V.int).length : Int)) = true → j < ns.length := fun e => by
      have e1 := of_decide_eq_true e
      rw [List.length_map] at e1
      omega
    have hn2 : ¬ decide ((j : Int) < ((ns.map V.int).length : Int)) = true → ((ns.map V.int).length : Int).natAbs < 2 ^ 20 := fun e => by
      have e1 : ¬ (j : Int) < ((ns.map V.int).length : Int) := fun z => e (decide_eq_true z)
      omega
    refine ⟨.int (j : Int), rfl, .ref l, rfl, l, _, rfl, .inl hS, _, _, rfl, rfl, _, rfl, ite2 (fun e => ⟨.ref l, rfl, .int (j : Int), rfl, l, _, (j : Int), .int (ns[j]'(hlt e)), rfl, rfl, hS, atI_nat (by rw [List.getElem?_map, List.getElem?_eq_getElem (hlt e)]; rfl), ?_⟩) (fun e => ⟨.int (j : Int), rfl, 5003, (j : Int), rfl, rfl, mulx_ok (a := 13) (b := 20) (by decide) (by omega) (by decide), .ref l, rfl, l, _, rfl, .inl hS, 271, _, rfl, rfl, mulx_ok (a := 13) (b := 20) (by decide) (hn2 e) (by decide), _, _, rfl, rfl, _, 11, rfl, rfl, ?_⟩)⟩
    all_goals
      refine ⟨_, rfl, 10, 18, rfl, rfl, ⟨by decide, by decide, by decide⟩, _, _, rfl, rfl, _, rfl, ite2 (fun _ => ⟨_, rfl, 10, 18, rfl, rfl, ⟨by decide, by decide, by decide⟩, _, _, rfl, rfl, ?_⟩) (fun _ => ?_)⟩
    all_goals
      refine ⟨_, rfl, _, rfl, _, 1299709, rfl, rfl, .inr ⟨by decide, by decide⟩, .int (j : Int), rfl, (j : Int), 15487469, rfl, rfl, mulx_ok (a := 20) (b := 24) (by omega) (by decide) (by decide), _, _, rfl, rfl, _, 4241, rfl, rfl, .inl ⟨_, rfl, 10, 28, rfl, rfl, ⟨by decide, by decide, by decide⟩, _, 331, rfl, rfl, _, _, rfl, rfl, (by show (0 : Int) < 10 ^ Int.toNat 28 + 331; decide), ?_⟩⟩
      refine ⟨(by show 3 ≤ sizeLine; decide), fun p hp => q _ p (same_upd hp) hp ⟨_, _, 0, upd_same, Int.emod_nonneg _ (by decide), Int.lt_trans (Int.emod_lt_of_pos _ (by decide)) (by decide), by decide, by decide⟩⟩
theorem ok__law_pick (T : Top K mg)  : CalD P w K mg base 1 "_law_pick" s__law_pick ["stock", "many"] (spDip) := by
  refine cal_mk T.d__law_pick sc__law_pick (fun _ _ _ _ _ _ us hl => match us, hl with | [_, _], _ => rfl) (fun vs H Q E h => ?_) (fun f cdv A outer s H vs Q E hr h => ?_)
  · obtain ⟨a, m, k, rfl, ⟨x, y, z, hD, hy0, hy1, hz0, hz1⟩, hk, hm0, hm1, q⟩ := h
    rfl
  · obtain ⟨a, m, k, rfl, ⟨x, y, z, hD, hy0, hy1, hz0, hz1⟩, hk, hm0, hm1, q⟩ := h
    refine ⟨_, (pss_cons (ps_if (pt_cmpR op_gt (pe_ix ix_list (pv 0) pe_int (fun _ _ => rfl)) pe_int (nomark _)) (pss_cons (ps_set (i := 2) sc__law_pick.nd rfl (Or.inl rfl) (pe_op op_mod (pe_callTy call_int1 (by rfl) T.z_int (by decide +kernel) (pa_cons (pe_ix ix_list (pv 0) pe_int (fun _ _ => rfl)) pa_nil)) (pv 1)))
  (pss_cons (ps_asg (pe_op op_fdivW (pe_ix ix_list (pv 0) pe_int (fun _ _ => rfl)) (pv 1)) (pg_sub (pv 0) pe_int set_list))
  (pss_one (ps_ret (pv 2))))) pss_nil)
  (pss_cons (ps_asg (pe_op op_add (pe_ix ix_list (pv 0) pe_int (fun _ _ => rfl)) pe_int) (pg_sub (pv 0) pe_int set_list))
  (pss_cons (ps_set (i := 3) sc__law_pick.nd rfl (Or.inl rfl) (pe_op op_mod (pe_op op_powW (pe_callTy call_int1 (by rfl) T.z_int (by decide +kernel) (pa_cons (pe_op op_add (pe_ix ix_list (pv 0) pe_int (fun _ _ => rfl)) (pe_op op_mulX pe_int (pe_ix ix_list (pv 0) pe_int (fun _ _ => rfl)))) pa_nil)) pe_int) (pe_op op_add (pe_op op_pow pe_int pe_int) pe_int)))
  (pss_cons (ps_set (i := 3) sc__law_pick.nd rfl (Or.inl rfl) (pe_op op_mod (pe_op op_powW (pe_callTy call_int1 (by rfl) T.z_int (by decide +kernel) (pa_cons (pe_op op_add (pv 3) (pe_op op_mulX (pe_op op_mulX pe_int (pe_ix ix_list (pv 0) pe_int (fun _ _ => rfl))) (pe_ix ix_list (pv 0) pe_int (fun _ _ => rfl)))) pa_nil)) pe_int) (pe_op op_add (pe_op op_pow pe_int pe_int) pe_int)))
  (pss_one (ps_ret (pe_op op_mod (pe_callTy call_int1 (by rfl) T.z_int (by decide +kernel) (pa_cons (pe_op op_fdivW (pv 3) pe_int) pa_nil)) (pv 1)))))))), ?_⟩
    have hS : SqL K H a [.int x, .int y, .int z] := SqL.of hD
    have h0 : (0 : Int) < (m : Int) := by omega
    have h9 : ((m : Int)).natAbs.log2 < 9000 := log2_small (by simpa using hm1)
    refine ⟨.ref a, rfl, a, _, 0, .int x, rfl, rfl, hS, rfl, x, 0, rfl, rfl, _, rfl, ite2 (fun e => ?_) (fun e => ?_)⟩
    · refine ⟨.ref a, rfl, a, _, 0, .int x, rfl, rfl, hS, rfl, .inl ⟨x, rfl, .int (m : Int), rfl, x, (m : Int), rfl, rfl, h0, ?_⟩⟩
      refine ⟨.ref a, rfl, a, _, 0, .int x, rfl, rfl, hS, rfl, .int (m : Int), rfl, x, (m : Int), rfl, rfl, ⟨h0, h9⟩, .ref a, rfl, a, _, 0, 0, rfl, rfl, hD, rfl, ?_⟩
      obtain ⟨t, ht⟩ := Int.eq_ofNat_of_zero_le (Int.emod_nonneg x (show (m : Int) ≠ 0 by omega))
      have ht2 := Int.emod_lt_of_pos x h0
      refine ⟨.int (x % (m : Int)), rfl, ?_⟩
      rw [ht]
      exact q t _ (by omega) (Off.upd _ _ _) ⟨_, y, z, upd_same, hy0, hy1, hz0, by omega⟩
    · refine ⟨.ref a, rfl, a, _, 2, .int z, rfl, rfl, hS, rfl, _, 1, rfl, rfl, .ref a, rfl, a, _, 2, 2, rfl, rfl, hD, rfl, ?_⟩
      have oz := Off.upd a H (.lst [.int x, .int y, .int (z + 1)])
      have hE : upd H a (.lst [.int x, .int y, .int (z + 1)]) a = some (.lst [.int x, .int y, .int (z + 1)]) := upd_same
      have wz : WellAt (upd H a (.lst [.int x, .int y, .int (z + 1)])) a (k + 1) := ⟨_, y, z + 1, upd_same, hy0, hy1, by omega, by omega⟩
      show tSeq _ _ _ _ (upd H a (.lst [.int x, .int y, .int (z + 1)]))
      generalize upd H a (.lst [.int x, .int y, .int (z + 1)]) = H1 at oz hE wz
      have e80 : (2 : Int) ^ 100 = 1267650600228229401496703205376 := by decide
      rw [e80] at hy1
      have b1 : (y + 7368787 * (z + 1)).natAbs < 2 ^ 101 := by
        have : (2 : Nat) ^ 101 = 2535301200456458802993406410752 := by decide
        omega
      refine ⟨.ref a, rfl, a, _, 1, .int y, rfl, rfl, SqL.of hE, rfl, .ref a, rfl, a, _, 2, .int (z + 1), rfl, rfl, SqL.of hE, rfl, 7368787, _, rfl, rfl, mulx_ok (a := 24) (b := 40) (by decide) (by omega) (by decide), _, _, rfl, rfl, .inl ⟨_, rfl, _, 3, rfl, rfl, powW_ok 3 b1 (by decide), 10, 27, rfl, rfl, ⟨by decide, by decide, by decide⟩, _, _, rfl, rfl, _, _, rfl, rfl, (by show (0 : Int) < 10 ^ Int.toNat 27 + 103; decide), ?_⟩⟩
      show tSeq _ _ _ [some (V.ref a), some (V.int (m : Int)), none, some (V.int ((y + 7368787 * (z + 1)) ^ Int.toNat 3 % ((10 : Int) ^ Int.toNat 27 + 103)))] H1
      have e25 : ((10 : Int) ^ Int.toNat 27 + 103) = 1000000000000000000000000103 := by decide
      have g0 := Int.emod_nonneg ((y + 7368787 * (z + 1)) ^ Int.toNat 3) (show ((10 : Int) ^ Int.toNat 27 + 103) ≠ 0 by decide)
      have g1 := Int.emod_lt_of_pos ((y + 7368787 * (z + 1)) ^ Int.toNat 3) (show (0 : Int) < ((10 : Int) ^ Int.toNat 27 + 103) by decide)
      generalize (y + 7368787 * (z + 1)) ^ Int.toNat 3 % ((10 : Int) ^ Int.toNat 27 + 103) = r at g0 g1
      rw [e25] at g1
      have b3 : (15485863 * (z + 1)).natAbs < 2 ^ 44 := by
        have : (2 : Nat) ^ 44 = 17592186044416 := by decide
        omega
      have b4 : (15485863 * (z + 1) * (z + 1)).natAbs < 2 ^ 64 := by
        rw [Int.natAbs_mul]
        have h1 : (z + 1).natAbs < 2 ^ 20 := by omega
        exact Nat.lt_of_lt_of_le (Nat.mul_lt_mul'' b3 h1) (by decide)
      have b2 : (r + 15485863 * (z + 1) * (z + 1)).natAbs < 2 ^ 91 := by
        have : (2 : Nat) ^ 91 = 2475880078570760549798248448 := by decide
        have : (2 : Nat) ^ 64 = 18446744073709551616 := by decide
        omega
      refine ⟨.int r, rfl, .ref a, rfl, a, _, 2, .int (z + 1), rfl, rfl, SqL.of hE, rfl, 15485863, _, rfl, rfl, mulx_ok (a := 24) (b := 40) (by decide) (by omega) (by decide), .ref a, rfl, a, _, 2, .int (z + 1), rfl, rfl, SqL.of hE, rfl, _, _, rfl, rfl, mulx_ok (a := 44) (b := 40) b3 (by omega) (by decide), _, _, rfl, rfl, .inl ⟨_, rfl, _, 2, rfl, rfl, powW_ok 2 b2 (by decide), 10, 26, rfl, rfl, ⟨by decide, by decide, by decide⟩, _, _, rfl, rfl, _, _, rfl, rfl, (by show (0 : Int) < 10 ^ Int.toNat 26 + 67; decide), ?_⟩⟩
      show tSeq _ _ _ [some (V.ref a), some (V.int (m : Int)), none, some (V.int ((r + 15485863 * (z + 1) * (z + 1)) ^ Int.toNat 2 % ((10 : Int) ^ Int.toNat 26 + 67)))] H1
      generalize (r + 15485863 * (z + 1) * (z + 1)) ^ Int.toNat 2 % ((10 : Int) ^ Int.toNat 26 + 67) = r2
      refine ⟨.int r2, rfl, _, 65536, rfl, rfl, wide_div (b := 20) (by decide) (by decide) (by decide) (by decide), .inl ⟨_, rfl, .int (m : Int), rfl, _, (m : Int), rfl, rfl, h0, ?_⟩⟩
      obtain ⟨t, ht⟩ := Int.eq_ofNat_of_zero_le (Int.emod_nonneg (r2 / 65536) (show (m : Int) ≠ 0 by omega))
      have ht2 := Int.emod_lt_of_pos (r2 / 65536) h0
      show Q (.int (r2 / 65536 % (m : Int))) H1
      rw [ht]
      exact q t _ (by omega) oz wz
theorem ok__law_alike (T : Top K mg) : ∀ n : Nat, CalD P w K mg base (n + 1) "_law_alike" s__law_alike ["item", "due"] (spAlike K n) := by
  intro n
  induction n with
  | zero =>
    refine cal_mk T.d__law_alike sc__law_alike (fun _ _ _ _ _ _ us hl => match us, hl with | [_, _], _ => rfl) (fun vs H Q E h => ?_) (fun f cdv A outer s H vs Q E hr h => ?_)
    · obtain ⟨x, y, d, rfl, _⟩ := h
      rfl
    · obtain ⟨x, y, d, rfl, _, _, hf, _⟩ := h
      exact hf.elim
  | succ n ih =>
  have c__law_alike := ih
  refine cal_mk T.d__law_alike sc__law_alike (fun _ _ _ _ _ _ us hl => match us, hl with | [_, _], _ => rfl) (fun vs H Q E h => ?_) (fun f cdv A outer s H vs Q E hr h => ?_)
  · obtain ⟨x, y, d, rfl, _⟩ := h
    rfl
  · obtain ⟨x, y, d, rfl, hx, hy, hfit, q⟩ := h
    have q0 := q H (Same.refl H)
    refine ⟨_, (pss_cons (ps_if (pt_cmpR op_isN (pv 1) pe_non (nomark _)) (pss_one (ps_ret (pe_cmpR op_isN (pv 0) pe_non (nomark _)))) pss_nil)
  (pss_cons (ps_if (pt_val (pe_callB call_isi (by rfl) T.z_isinstance (by decide +kernel) (pa_cons (pv 1) (pa_cons (pe_bltn (v := .ty "bool") (by rfl) T.z_bool (by decide +kernel) rfl) pa_nil)))) (pss_one (ps_ret (pe_and (pe_callB call_isi (by rfl) T.z_isinstance (by decide +kernel) (pa_cons (pv 0) (pa_cons (pe_bltn (v := .ty "bool") (by rfl) T.z_bool (by decide +kernel) rfl) pa_nil))) (pe_one (pe_cmpR op_eq (pv 0) (pv 1) (nomark _)))))) pss_nil)
  (pss_cons (ps_if (pt_val (pe_callB call_isi (by rfl) T.z_isinstance (by decide +kernel) (pa_cons (pv 1) (pa_cons (pe_bltn (v := .ty "int") (by rfl) T.z_int (by decide +kernel) rfl) pa_nil)))) (pss_one (ps_ret (pe_and (pe_callB call_isi (by rfl) T.z_isinstance (by decide +kernel) (pa_cons (pv 0) (pa_cons (pe_bltn (v := .ty "int") (by rfl) T.z_int (by decide +kernel) rfl) pa_nil))) (pe_and (pe_not (pe_callB call_isi (by rfl) T.z_isinstance (by decide +kernel) (pa_cons (pv 0) (pa_cons (pe_bltn (v := .ty "bool") (by rfl) T.z_bool (by decide +kernel) rfl) pa_nil)))) (pe_one (pe_cmpR op_eq (pv 0) (pv 1) (nomark _))))))) pss_nil)
  (pss_cons (ps_if (pt_val (pe_callB call_isi (by rfl) T.z_isinstance (by decide +kernel) (pa_cons (pv 1) (pa_cons (pe_bltn (v := .ty "str") (by rfl) T.z_str (by decide +kernel) rfl) pa_nil)))) (pss_one (ps_ret (pe_and (pe_callB call_isi (by rfl) T.z_isinstance (by decide +kernel) (pa_cons (pv 0) (pa_cons (pe_bltn (v := .ty "str") (by rfl) T.z_str (by decide +kernel) rfl) pa_nil))) (pe_one (pe_cmpR op_eq (pv 0) (pv 1) (nomark _)))))) pss_nil)
  (pss_cons (ps_if (PW.pt (pw_or (PW.pt (pw_and (pt_val (pe_callB call_isi (by rfl) T.z_isinstance (by decide +kernel) (pa_cons (pv 1) (pa_cons (pe_bltn (v := .ty "tuple") (by rfl) T.z_tuple (by decide +kernel) rfl) pa_nil)))) (pw_and1 (pt_not (pt_val (pe_callB call_isi (by rfl) T.z_isinstance (by decide +kernel) (pa_cons (pv 0) (pa_cons (pe_bltn (v := .ty "tuple") (by rfl) T.z_tuple (by decide +kernel) rfl) pa_nil)))))))) (pw_or1 (PW.pt (pw_and (pt_val (pe_callB call_isi (by rfl) T.z_isinstance (by decide +kernel) (pa_cons (pv 1) (pa_cons (pe_bltn (v := .ty "list") (by rfl) T.z_list (by decide +kernel) rfl) pa_nil)))) (pw_and1 (pt_not (pt_val (pe_callB call_isi (by rfl) T.z_isinstance (by decide +kernel) (pa_cons (pv 0) (pa_cons (pe_bltn (v := .ty "list") (by rfl) T.z_list (by decide +kernel) rfl) pa_nil))))))))))) (pss_one (ps_ret pe_bl)) pss_nil)
  (pss_one (ps_ret (pe_and (pe_cmpR op_eq (pe_callB call_len_seq (by rfl) T.z_len PySem.boot_len (pa_cons (pv 0) pa_nil)) (pe_callB call_len_seq (by rfl) T.z_len PySem.boot_len (pa_cons (pv 1) pa_nil)) (nomark _)) (pe_one (pe_callB (cr_all rfl) (by rfl) T.z_all (by decide +kernel) (pa_cons (pe_lc (own := [("one", 2), ("other", 3)]) (g := (gTup K 2 (gCons (gName 2) (gCons (gName 3) gNil)))) rfl sc__law_alike.nd (RZ.pi_zipA (by rfl) T.z_zip (pa_cons (pv 0) (pa_cons (pv 1) pa_nil))) (blkOk_by (own := [("one", 2), ("other", 3)]) (N := N__law_alike) (sc := defScope s__law_alike) (by decide +kernel)) (fun _ _ _ _ _ => (pg_tup_at K rfl rfl (pgs_cons (pg_name (i := 2) sc__law_alike.nd rfl (Or.inl rfl)) (pgs_cons (pg_name (i := 3) sc__law_alike.nd rfl (Or.inl rfl)) pgs_nil)))) (fun _ _ _ _ _ => pts_nil) (fun _ _ _ _ _ => (pe_f c__law_alike hr (by omega) (by rfl) (pa_cons (pv 2) (pa_cons (pv 3) pa_nil))))) pa_nil))))))))))), ?_⟩
    rcases d with _ | _ | _ | _ | _ | _ | _
    · -- none
      cases hx
      cases hy
      exact ⟨_, rfl, rfl, _, rfl, iteT ⟨_, rfl, rfl, q0⟩⟩
    · -- bool
      cases hx
      cases hy
      refine ⟨_, rfl, rfl, _, rfl, iteF ?_⟩
      refine ⟨_, rfl, _, _, _, _, true, rfl, .ty _, .base (.bl _), kit_ty (by decide +kernel), _, rfl, iteT ?_⟩
      refine ⟨_, rfl, _, _, _, _, true, rfl, .ty _, .base (.bl _), kit_ty (by decide +kernel), _, rfl, iteT ?_⟩
      refine ⟨_, rfl, _, rfl, rfl, ?_⟩
      rw [decide_eq_true rfl]
      exact q0
    · -- int
      cases hx
      cases hy
      refine ⟨_, rfl, rfl, _, rfl, iteF ?_⟩
      refine ⟨_, rfl, _, _, _, _, false, rfl, .ty _, .base (.int _), kit_ty (by decide +kernel), _, rfl, iteF ?_⟩
      refine ⟨_, rfl, _, _, _, _, true, rfl, .ty _, .base (.int _), kit_ty (by decide +kernel), _, rfl, iteT ?_⟩
      refine ⟨_, rfl, _, _, _, _, true, rfl, .ty _, .base (.int _), kit_ty (by decide +kernel), _, rfl, iteT ?_⟩
      refine ⟨_, rfl, _, _, _, _, false, rfl, .ty _, .base (.int _), kit_ty (by decide +kernel), _, rfl, _, rfl, iteT ?_⟩
      refine ⟨_, rfl, _, rfl, rfl, ?_⟩
      rw [decide_eq_true rfl]
      exact q0
    · -- str
      cases hx
      cases hy
      refine ⟨_, rfl, rfl, _, rfl, iteF ?_⟩
      refine ⟨_, rfl, _, _, _, _, false, rfl, .ty _, .base (.str _), kit_ty (by decide +kernel), _, rfl, iteF ?_⟩
      refine ⟨_, rfl, _, _, _, _, false, rfl, .ty _, .base (.str _), kit_ty (by decide +kernel), _, rfl, iteF ?_⟩
      refine ⟨_, rfl, _, _, _, _, true, rfl, .ty _, .base (.str _), kit_ty (by decide +kernel), _, rfl, iteT ?_⟩
      refine ⟨_, rfl, _, _, _, _, true, rfl, .ty _, .base (.str _), kit_ty (by decide +kernel), _, rfl, iteT ?_⟩
      refine ⟨_, rfl, _, rfl, rfl, ?_⟩
      rw [decide_eq_true rfl]
      exact q0
    · -- list
      rename_i ds
      obtain ⟨a, xs, hx1, hx2, rfl⟩ : ∃ a xs, SqL K H a xs ∧ DpAll K H xs ds ∧ x = .ref a := by
        cases hx with
        | lst h1 h2 => exact ⟨_, _, h1, h2, rfl⟩
      obtain ⟨b, ys, hy1, hy2, rfl⟩ : ∃ a xs, SqL K H a xs ∧ DpAll K H xs ds ∧ y = .ref a := by
        cases hy with
        | lst h1 h2 => exact ⟨_, _, h1, h2, rfl⟩
      obtain ⟨hl, hf⟩ := (show ds.length ≤ 100000 ∧ ∀ e ∈ ds, FitK n e from hfit)
      have ex := DpAll.length _ hx2
      have ey := DpAll.length _ hy2
      refine ⟨_, rfl, rfl, _, rfl, iteF ?_⟩
      refine ⟨_, rfl, _, _, _, _, false, rfl, .ty _, ty_list hy1, kit_ty (by decide +kernel), _, rfl, iteF ?_⟩
      refine ⟨_, rfl, _, _, _, _, false, rfl, .ty _, ty_list hy1, kit_ty (by decide +kernel), _, rfl, iteF ?_⟩
      refine ⟨_, rfl, _, _, _, _, false, rfl, .ty _, ty_list hy1, kit_ty (by decide +kernel), _, rfl, iteF ?_⟩
      refine ⟨_, rfl, _, _, _, _, false, rfl, .ty _, ty_list hy1, kit_ty (by decide +kernel), _, rfl, iteF (iteF ?_)⟩
      refine ⟨_, rfl, _, _, _, _, true, rfl, .ty _, ty_list hy1, kit_ty (by decide +kernel), _, rfl, iteT ⟨_, rfl, _, _, _, _, true, rfl, .ty _, ty_list hx1, kit_ty (by decide +kernel), _, rfl, iteF ?_⟩⟩
      refine ⟨_, rfl, a, xs, rfl, .inl hx1, _, rfl, b, ys, rfl, .inl hy1, rfl, _, rfl, ?_⟩
      rw [ex, ey, decide_eq_true rfl]
      refine iteT ⟨_, rfl, _, rfl, a, b, xs, ys, rfl, .inl ⟨hx1, hy1, fun D hD => ?_⟩⟩
      refine lc_it (walk_zip (n := ds.length) (by omega)) (fun i H' => Same H H' ∧ H' D = some (.lst ((List.replicate i true).map V.bl))) ⟨same_upd hD, upd_same⟩ (fun i H' _ hP => ⟨Same.seq hP.1 hx1, Same.seq hP.1 hy1⟩) (fun i v H' H2 hi hP yl => ?_) (fun H' hP => ?_)
      · obtain ⟨sP, eP⟩ := hP
        obtain ⟨T0, u, z, rfl, hT0, rfl, e1, e2⟩ := yl
        obtain ⟨u', hu1, hu2⟩ := DpAll.get _ hx2 (List.getElem?_eq_getElem hi)
        obtain ⟨z', hz1, hz2⟩ := DpAll.get _ hy2 (List.getElem?_eq_getElem hi)
        have ee : u = u' := Option.some.inj (e1.symm.trans hu1)
        have ez : z = z' := Option.some.inj (e2.symm.trans hz1)
        subst ee
        subst ez
        have sT := sP.trans (same_upd (o := HO.tup [u, z]) hT0)
        refine ⟨T0, _, rfl, SqT.of upd_same, rfl, _, _, rfl, _, _, rfl, rfl, rfl, _, rfl, _, rfl, u, z, ds[i], rfl, Dp.same sT _ _ hu2, Dp.same sT _ _ hz2, hf _ (List.getElem_mem hi), fun H3 s3 => ?_⟩
        have e3 := s3 _ _ (same_upd (o := HO.tup [u, z]) hT0 _ _ eP)
        refine ⟨_, e3, ?_, ?_, ?_⟩
        · rw [List.length_map, List.length_replicate]
          exact Nat.lt_of_lt_of_le (Nat.lt_of_lt_of_le hi hl) (by decide)
        · intro bb o e
          rw [upd_ne (ne_of_none e hD)]
          exact s3 _ _ (sT _ _ e)
        · rw [upd_same, List.replicate_succ', List.map_append]
          rfl
      · obtain ⟨sP, eP⟩ := hP
        refine ⟨D, List.replicate ds.length true, rfl, SqL.of eP, ?_⟩
        rw [all_trues]
        exact q _ sP
    · -- tuple
      rename_i ds
      obtain ⟨a, xs, hx1, hx2, rfl⟩ : ∃ a xs, SqT K H a xs ∧ DpAll K H xs ds ∧ x = .ref a := by
        cases hx with
        | tup h1 h2 => exact ⟨_, _, h1, h2, rfl⟩
      obtain ⟨b, ys, hy1, hy2, rfl⟩ : ∃ a xs, SqT K H a xs ∧ DpAll K H xs ds ∧ y = .ref a := by
        cases hy with
        | tup h1 h2 => exact ⟨_, _, h1, h2, rfl⟩
      obtain ⟨hl, hf⟩ := (show ds.length ≤ 100000 ∧ ∀ e ∈ ds, FitK n e from hfit)
      have ex := DpAll.length _ hx2
      have ey := DpAll.length _ hy2
      refine ⟨_, rfl, rfl, _, rfl, iteF ?_⟩
      refine ⟨_, rfl, _, _, _, _, false, rfl, .ty _, ty_tuple hy1, kit_ty (by decide +kernel), _, rfl, iteF ?_⟩
      refine ⟨_, rfl, _, _, _, _, false, rfl, .ty _, ty_tuple hy1, kit_ty (by decide +kernel), _, rfl, iteF ?_⟩
      refine ⟨_, rfl, _, _, _, _, false, rfl, .ty _, ty_tuple hy1, kit_ty (by decide +kernel), _, rfl, iteF ?_⟩
      refine ⟨_, rfl, _, _, _, _, true, rfl, .ty _, ty_tuple hy1, kit_ty (by decide +kernel), _, rfl, iteT ⟨_, rfl, _, _, _, _, true, rfl, .ty _, ty_tuple hx1, kit_ty (by decide +kernel), _, rfl, iteF ?_⟩⟩
      refine ⟨_, rfl, _, _, _, _, false, rfl, .ty _, ty_tuple hy1, kit_ty (by decide +kernel), _, rfl, iteF (iteF ?_)⟩
      refine ⟨_, rfl, a, xs, rfl, .inr hx1, _, rfl, b, ys, rfl, .inr hy1, rfl, _, rfl, ?_⟩
      rw [ex, ey, decide_eq_true rfl]
      refine iteT ⟨_, rfl, _, rfl, a, b, xs, ys, rfl, .inr ⟨hx1, hy1, fun D hD => ?_⟩⟩
      refine lc_it (walk_zipT (n := ds.length) (by omega)) (fun i H' => Same H H' ∧ H' D = some (.lst ((List.replicate i true).map V.bl))) ⟨same_upd hD, upd_same⟩ (fun i H' _ hP => ⟨Same.tupS hP.1 hx1, Same.tupS hP.1 hy1⟩) (fun i v H' H2 hi hP yl => ?_) (fun H' hP => ?_)
      · obtain ⟨sP, eP⟩ := hP
        obtain ⟨T0, u, z, rfl, hT0, rfl, e1, e2⟩ := yl
        obtain ⟨u', hu1, hu2⟩ := DpAll.get _ hx2 (List.getElem?_eq_getElem hi)
        obtain ⟨z', hz1, hz2⟩ := DpAll.get _ hy2 (List.getElem?_eq_getElem hi)
        have ee : u = u' := Option.some.inj (e1.symm.trans hu1)
        have ez : z = z' := Option.some.inj (e2.symm.trans hz1)
        subst ee
        subst ez
        have sT := sP.trans (same_upd (o := HO.tup [u, z]) hT0)
        refine ⟨T0, _, rfl, SqT.of upd_same, rfl, _, _, rfl, _, _, rfl, rfl, rfl, _, rfl, _, rfl, u, z, ds[i], rfl, Dp.same sT _ _ hu2, Dp.same sT _ _ hz2, hf _ (List.getElem_mem hi), fun H3 s3 => ?_⟩
        have e3 := s3 _ _ (same_upd (o := HO.tup [u, z]) hT0 _ _ eP)
        refine ⟨_, e3, ?_, ?_, ?_⟩
        · rw [List.length_map, List.length_replicate]
          exact Nat.lt_of_lt_of_le (Nat.lt_of_lt_of_le hi hl) (by decide)
        · intro bb o e
          rw [upd_ne (ne_of_none e hD)]
          exact s3 _ _ (sT _ _ e)
        · rw [upd_same, List.replicate_succ', List.map_append]
          rfl
      · obtain ⟨sP, eP⟩ := hP
        refine ⟨D, List.replicate ds.length true, rfl, SqL.of eP, ?_⟩
        rw [all_trues]
        exact q _ sP
    · exact hfit.elim
theorem ok__law_mixing (T : Top K mg) (c__law_pick : CalD P w K mg base 1 "_law_pick" s__law_pick ["stock", "many"] (spDip)) : CalD P w K mg base 2 "_law_mixing" s__law_mixing ["stock"] (spMixing K) := by
  refine cal_mk T.d__law_mixing sc__law_mixing (fun _ _ _ _ _ _ us hl => match us, hl with | [_], _ => rfl) (fun vs H Q E h => ?_) (fun f cdv A outer s H vs Q E hr h => ?_)
  · obtain ⟨a, k, rfl, hW, hk, q⟩ := h
    rfl
  · obtain ⟨a, k, rfl, hW, hk, q⟩ := h
    refine ⟨_, (pss_cons (ps_set (i := 1) sc__law_mixing.nd rfl (Or.inl rfl) (pe_op op_add pe_int (pe_f c__law_pick hr (by omega) (by rfl) (pa_cons (pv 0) (pa_cons (pe_ix ix_list (pe_lst (pa_cons pe_int (pa_cons pe_int (pa_cons pe_int (pa_cons pe_int pa_nil))))) (pe_f c__law_pick hr (by omega) (by rfl) (pa_cons (pv 0) (pa_cons pe_int pa_nil))) (fun _ _ => rfl)) pa_nil)))))
  (pss_cons (ps_set (i := 2) sc__law_mixing.nd rfl (Or.inr rfl) (pe_lst (pa_cons (pe_op op_add pe_int (pe_f c__law_pick hr (by omega) (by rfl) (pa_cons (pv 0) (pa_cons pe_int pa_nil)))) (pa_cons pe_int (pa_cons pe_int (pa_cons pe_int (pa_cons (pe_op op_add pe_int (pe_f c__law_pick hr (by omega) (by rfl) (pa_cons (pv 0) (pa_cons pe_int pa_nil)))) (pa_cons (pe_op op_add pe_int (pe_f c__law_pick hr (by omega) (by rfl) (pa_cons (pv 0) (pa_cons pe_int pa_nil)))) pa_nil))))))))
  (pss_cons (ps_set (i := 2) sc__law_mixing.nd rfl (Or.inr rfl) (pe_ix ix_list (pv 2) (pe_f c__law_pick hr (by omega) (by rfl) (pa_cons (pv 0) (pa_cons pe_int pa_nil))) (fun _ _ => rfl)))
  (pss_cons (ps_set (i := 3) sc__law_mixing.nd rfl (Or.inl rfl) (pe_op op_add pe_int (pe_f c__law_pick hr (by omega) (by rfl) (pa_cons (pv 0) (pa_cons (pe_ix ix_list (pe_lst (pa_cons pe_int (pa_cons pe_int (pa_cons pe_int pa_nil)))) (pe_f c__law_pick hr (by omega) (by rfl) (pa_cons (pv 0) (pa_cons pe_int pa_nil))) (fun _ _ => rfl)) pa_nil)))))
  (pss_cons (ps_setLc (i := 4) (own := [("turn", 5)]) (g := gName 5) rfl sc__law_mixing.nd rfl rfl (sw_true rfl rfl rfl (by decide +kernel)) (pi_range1 (by rfl) T.z_range (pa_cons (pv 3) pa_nil)) (blkOk_by (own := [("turn", 5)]) (N := N__law_mixing) (sc := defScope s__law_mixing) (by decide +kernel)) (fun _ _ _ _ _ => pg_name (i := 5) sc__law_mixing.nd rfl (Or.inl rfl)) (fun _ _ _ _ _ => pts_nil) (fun _ _ _ _ _ => (pe_tup (pa_cons (pe_f c__law_pick hr (by omega) (by rfl) (pa_cons (pv 0) (pa_cons (pv 2) pa_nil))) (pa_cons (pe_f c__law_pick hr (by omega) (by rfl) (pa_cons (pv 0) (pa_cons (pv 2) pa_nil))) pa_nil)))))
  (C8.pss_cut (ps_if (pt_cmpR op_eq (pe_f c__law_pick hr (by omega) (by rfl) (pa_cons (pv 0) (pa_cons pe_int pa_nil))) pe_int (nomark _)) (pss_one (ps_expr (pe_bm PySem.F.plainAttrs_list PySem.F.slot_list_append PySem.F.type_list_append mt_append (pv 4) (pa_cons (pe_ix ix_list (pv 4) pe_int (fun _ _ => rfl)) pa_nil)))) pss_nil)
  (pss_one (ps_ret (pe_tup (pa_cons (pv 1) (pa_cons (pv 2) (pa_cons (pe_callTy call_tuple_of (by rfl) T.z_tuple (by decide +kernel) (pa_cons (pv 4) pa_nil)) (pa_cons (pe_tup (pa_cons (pe_f c__law_pick hr (by omega) (by rfl) (pa_cons (pv 0) (pa_cons (pv 2) pa_nil))) (pa_cons (pe_f c__law_pick hr (by omega) (by rfl) (pa_cons (pv 0) (pa_cons (pv 2) pa_nil))) pa_nil))) pa_nil))))))))))))), ?_⟩
    -- m
    refine ⟨_, rfl, (by show 4 ≤ sizeLine; decide), fun l1 hl1 => ?_⟩
    have s1 := same_upd (o := HO.lst (intsV [5, 9, 13, 40])) hl1
    have n1 := hW.ne hl1
    have w1 := hW.same s1
    have f1 : upd H l1 (.lst (intsV [5, 9, 13, 40])) l1 = some (.lst (intsV [5, 9, 13, 40])) := upd_same
    refine ⟨_, rfl, a, 4, k, rfl, w1, by omega, by decide, by decide, fun j1 H1 hj1 o1 w1' => ?_⟩
    have b1 : ∀ x ∈ [5, 9, 13, 40], 1 ≤ x ∧ x ≤ 40 := by decide
    have c1 := b1 _ (List.getElem_mem (l := [5, 9, 13, 40]) hj1)
    refine ⟨l1, _, (j1 : Int), _, rfl, rfl, SqL.of (o1 l1 _ n1 f1), atI_nat (intsV_get (l := [5, 9, 13, 40]) hj1), a, _, _, rfl, w1', by omega, by omega, Nat.lt_of_le_of_lt c1.2 (by decide), fun m0 H2 hm0 o2 w2 => ⟨1, _, rfl, rfl, ?_⟩⟩
    have hm40 : 1 + m0 ≤ 40 := by omega
    have O2 : OffG a H H2 := (OffG.of (.of s1)).trans ((OffG.off o1).trans (.off o2))
    show tSeq _ _ _ [some (V.ref a), some (V.int ((1 + m0 : Nat) : Int)), none, none, none, none] H2
    have hm1 : 1 ≤ 1 + m0 := by omega
    generalize 1 + m0 = m at hm40 hm1
    clear s1 n1 w1 f1 o1 w1' b1 c1 hj1 hm0 o2 hl1
    -- p
    refine ⟨_, rfl, a, 9, _, rfl, w2, by omega, by decide, by decide, fun t1 H3 ht1 o3 w3 => ⟨2, _, rfl, rfl, _, rfl, a, 99, _, rfl, w3, by omega, by decide, by decide, fun t2 H4 ht2 o4 w4 => ⟨2, _, rfl, rfl, _, rfl, a, 999, _, rfl, w4, by omega, by decide, by decide, fun t3 H5 ht3 o5 w5 => ⟨2, _, rfl, rfl, (by show 6 ≤ sizeLine; decide), fun l2 hl2 => ?_⟩⟩⟩⟩
    have O5 := ((O2.trans (.off o3)).trans (.off o4)).trans (.off o5)
    have s2 := same_upd (o := HO.lst (intsV [2 + t1, 11, 101, 997, 2 + t2, 2 + t3])) hl2
    have n2 := w5.ne hl2
    have w6 := w5.same s2
    have f2 : upd H5 l2 (.lst (intsV [2 + t1, 11, 101, 997, 2 + t2, 2 + t3])) l2 = some (.lst (intsV [2 + t1, 11, 101, 997, 2 + t2, 2 + t3])) := upd_same
    refine ⟨_, rfl, _, rfl, a, 6, _, rfl, w6, by omega, by decide, by decide, fun j2 H6 hj2 o6 w6' => ?_⟩
    have b2 : ∀ x ∈ [2 + t1, 11, 101, 997, 2 + t2, 2 + t3], 2 ≤ x ∧ x ≤ 1001 := fun x hx => by
      simp only [List.mem_cons, List.not_mem_nil, or_false] at hx
      omega
    have c2 := b2 _ (List.getElem_mem (l := [2 + t1, 11, 101, 997, 2 + t2, 2 + t3]) hj2)
    have O6 : OffG a H H6 := O5.trans ((OffG.of (.of s2)).trans (.off o6))
    refine ⟨l2, _, (j2 : Int), _, rfl, rfl, SqL.of (o6 l2 _ n2 f2), atI_nat (intsV_get (l := [2 + t1, 11, 101, 997, 2 + t2, 2 + t3]) hj2), ?_⟩
    show tSeq _ _ _ [some (V.ref a), some (V.int (m : Int)), some (V.int (([2 + t1, 11, 101, 997, 2 + t2, 2 + t3][j2]'hj2 : Nat) : Int)), none, none, none] H6
    generalize ([2 + t1, 11, 101, 997, 2 + t2, 2 + t3][j2]'hj2) = p at c2
    clear s2 n2 w6 f2 o6 b2 hj2 ht1 ht2 ht3 O5 o3 o4 o5 w3 w4 w5 w2 O2 hl2
    -- many
    refine ⟨_, rfl, (by show 3 ≤ sizeLine; decide), fun l3 hl3 => ?_⟩
    have s3 := same_upd (o := HO.lst (intsV [4, 4, 9])) hl3
    have n3 := w6'.ne hl3
    have w7 := w6'.same s3
    have f3 : upd H6 l3 (.lst (intsV [4, 4, 9])) l3 = some (.lst (intsV [4, 4, 9])) := upd_same
    refine ⟨_, rfl, a, 3, _, rfl, w7, by omega, by decide, by decide, fun j3 H7 hj3 o7 w7' => ?_⟩
    have b3 : ∀ x ∈ [4, 4, 9], 1 ≤ x ∧ x ≤ 9 := by decide
    have c3 := b3 _ (List.getElem_mem (l := [4, 4, 9]) hj3)
    refine ⟨l3, _, (j3 : Int), _, rfl, rfl, SqL.of (o7 l3 _ n3 f3), atI_nat (intsV_get (l := [4, 4, 9]) hj3), a, _, _, rfl, w7', by omega, by omega, Nat.lt_of_le_of_lt c3.2 (by decide), fun n0 H8 hn0 o8 w8 => ⟨1, _, rfl, rfl, ?_⟩⟩
    have hn9 : 1 + n0 ≤ 9 := by omega
    have hn1 : 1 ≤ 1 + n0 := by omega
    have O8 : OffG a H H8 := O6.trans ((OffG.of (.of s3)).trans ((OffG.off o7).trans (.off o8)))
    show tSeq _ _ _ [some (V.ref a), some (V.int (m : Int)), some (V.int (p : Int)), some (V.int ((1 + n0 : Nat) : Int)), none, none] H8
    generalize 1 + n0 = n at hn9 hn1
    clear s3 n3 w7 f3 o7 w7' b3 c3 hj3 hn0 o8 hl3 O6 w6'
    have hp := c2.1
    have hp2 := c2.2
    -- pairs
    refine ⟨_, rfl, (n : Int), rfl, by omega, by omega, fun D hD => ?_⟩
    obtain ⟨nDa, nDH⟩ := new_atW O8 w8 hD
    have sD := same_upd (o := HO.lst []) hD
    have en : ((n : Nat) : Int).toNat = n := Int.toNat_natCast _
    refine lc_range (lo := 0) (n := ((n : Nat) : Int).toNat) (fun i H' => ∃ (prs : List (Nat × Nat)) (xs : List V), OffG a H H' ∧ WellAt H' a (k + 9 + 2 * i) ∧ H' D = some (.lst xs) ∧ DpAll K H' xs (prs.map pqD) ∧ prs.length = i ∧ ∀ r ∈ prs, r.1 < p ∧ r.2 < p) ⟨[], [], O8.trans (.of (.of sD)), (w8.same sD).mono (by omega), upd_same, .nil, rfl, fun _ h => absurd h List.not_mem_nil⟩ (fun i H' hi hP => ?_) (fun H' hP => ?_)
    · obtain ⟨prs, xs, oP, wP, eP, dP, lP, aP⟩ := hP
      have hin : i < n := by omega
      have hxl : xs.length = prs.length := (DpAll.length _ dP).trans (List.length_map _)
      refine ⟨rfl, _, rfl, _, rfl, a, p, _, rfl, wP, by omega, by omega, Nat.lt_of_le_of_lt hp2 (by decide), fun x HA hx oA wA => ⟨_, rfl, _, rfl, a, p, _, rfl, wA, by omega, by omega, Nat.lt_of_le_of_lt hp2 (by decide), fun y HB hy oB wB => ⟨(by show 2 ≤ sizeLine; decide), fun pt hpt => ?_⟩⟩⟩
      have tB := Tup.well (OffG.off (oA.trans oB)) wP
      have eB := (oA.trans oB) D _ nDa eP
      have dB := tB.pairs dP
      have sT := same_upd (o := HO.tup [V.int (x : Int), V.int (y : Int)]) hpt
      have eT := sT _ _ eB
      have tT := Tup.put (xs ++ [V.ref pt]) eT
      refine ⟨_, eT, Nat.lt_of_lt_of_le (by omega : xs.length < 100) (by decide), prs ++ [(x, y)], xs ++ [V.ref pt], ((oP.trans (.off (oA.trans oB))).trans (.of (.of sT))).put nDH, ((wB.same sT).put nDa).mono (by omega), upd_same, ?_, by rw [List.length_append, lP]; rfl, fun r hr => ?_⟩
      · rw [List.map_append]
        exact DpAll.app (.cons (tT.pair (pair_mk (q := (x, y)) (SqT.of upd_same))) .nil) (tT.pairs (DpAll.same sT _ _ dB))
      · rcases List.mem_append.mp hr with h | h
        · exact aP r h
        · rw [List.mem_singleton.mp h]; exact ⟨hx, hy⟩
    · obtain ⟨prs, xs, oP, wP, eP, dP, lP, aP⟩ := hP
      rw [en] at lP wP
      have hxl : xs.length = prs.length := (DpAll.length _ dP).trans (List.length_map _)
      refine ⟨fun σ' H2 => ∃ (prs : List (Nat × Nat)) (xs : List V), σ' = [some (V.ref a), some (V.int (m : Int)), some (V.int (p : Int)), some (V.int (n : Int)), some (V.ref D), none] ∧ OffG a H H2 ∧ WellAt H2 a (k + 40) ∧ H2 D = some (.lst xs) ∧ DpAll K H2 xs (prs.map pqD) ∧ prs ≠ [] ∧ prs.length ≤ 10 ∧ ∀ r ∈ prs, r.1 < p ∧ r.2 < p, ?_, fun σ' H2 hM => ?_⟩
      · refine ⟨_, rfl, a, 6, _, rfl, wP, by omega, by decide, by decide, fun z HC hz oC wC => ⟨rfl, _, rfl, ?_⟩⟩
        have tC := Tup.well (OffG.off oC) wP
        have eC := oC D _ nDa eP
        have dC := tC.pairs dP
        have O9 := oP.trans (.off oC)
        refine ite2 (fun _ => ?_) (fun _ => ⟨prs, xs, rfl, O9, wC.mono (by omega), eC, dC, fun e => by rw [e] at lP; exact absurd lP (by show ¬ 0 = n; omega), by omega, aP⟩)
        cases hprs : prs with
        | nil => rw [hprs] at lP; exact absurd lP (by show ¬ 0 = n; omega)
        | cons r0 rs =>
          rw [hprs] at dC hxl lP aP
          cases dC with
          | cons d0 ds =>
            rename_i v0 vs0
            refine ⟨_, rfl, .inl ⟨rfl, _, SqL.of eC⟩, _, rfl, D, _, 0, v0, rfl, rfl, SqL.of eC, (show atI (v0 :: vs0) ((0 : Nat) : Int) = some v0 from atI_nat rfl), D, _, _, rfl, rfl, eC, Nat.lt_of_lt_of_le (by rw [hxl]; show rs.length + 1 < 100; have : rs.length + 1 = n := lP; omega) (by decide), (r0 :: rs) ++ [r0], (v0 :: vs0) ++ [v0], rfl, O9.put nDH, (wC.put nDa).mono (by omega), upd_same, ?_, by simp, by rw [List.length_append, lP]; show n + 1 ≤ 10; omega, fun r hr => ?_⟩
            · have tE := Tup.put ((v0 :: vs0) ++ [v0]) eC
              rw [List.map_append]
              exact DpAll.app (.cons (tE.pair d0) .nil) (tE.pairs (pairs := r0 :: rs) (.cons d0 ds))
            · rcases List.mem_append.mp hr with h | h
              · exact aP r h
              · rw [List.mem_singleton.mp h]; exact aP r0 List.mem_cons_self
      · obtain ⟨prs, xs, rfl, oQ, wQ, eQ, dQ, nQ, lQ, aQ⟩ := hM
        refine ⟨_, rfl, _, rfl, _, rfl, D, _, rfl, .inl ⟨SqL.of eQ, fun pt hpt => ?_⟩⟩
        have sT := same_upd (o := HO.tup xs) hpt
        refine ⟨_, rfl, _, rfl, a, p, _, rfl, wQ.same sT, by omega, by omega, Nat.lt_of_le_of_lt hp2 (by decide), fun x HA hx oA wA => ⟨_, rfl, _, rfl, a, p, _, rfl, wA, by omega, by omega, Nat.lt_of_le_of_lt hp2 (by decide), fun y HB hy oB wB => ⟨(by show 2 ≤ sizeLine; decide), fun pm hpm => ⟨(by show 4 ≤ sizeLine; decide), fun pr hpr => ?_⟩⟩⟩⟩
        have tB := Tup.well (OffG.off (oA.trans oB)) (wQ.same sT)
        have sM := same_upd (o := HO.tup [V.int (x : Int), V.int (y : Int)]) hpm
        have sR := same_upd (o := HO.tup [V.int (m : Int), V.int (p : Int), V.ref pt, V.ref pm]) hpr
        have kT : SqT K HB pt xs := tB.sqt (SqT.of upd_same)
        have kD : DpAll K HB xs (prs.map pqD) := tB.pairs (DpAll.same sT _ _ dQ)
        have sMR := sM.trans sR
        exact q _ pr m p prs (x, y) (((oQ.trans (.of (.of sT))).trans (.off (oA.trans oB))).trans (.of (.of sMR))) ((wB.same sMR).mono (by omega)) ⟨hm1, by omega, hp, by omega, nQ, by omega, aQ, hx, hy⟩ hm40 hp2 lQ (mix_mk (SqT.of upd_same) (Same.tupS sMR kT) (DpAll.same sMR _ _ kD) (pair_mk (q := (x, y)) (Same.tupS sR (SqT.of upd_same))))
theorem ok__law_led (T : Top K mg)  : CalD P w K mg base 1 "_law_led" s__law_led ["pair", "p", "x"] (spMixed K) := by
  refine cal_mk T.d__law_led sc__law_led (fun _ _ _ _ _ _ us hl => match us, hl with | [_, _, _], _ => rfl) (fun vs H Q E h => ?_) (fun f cdv A outer s H vs Q E hr h => ?_)
  · obtain ⟨v, r, p, x, rfl, hv, h1, h2, hp, hx, q⟩ := h
    rfl
  · obtain ⟨v, r, p, x, rfl, hv, h1, h2, hp, hx, q⟩ := h
    refine ⟨_, (pss_one (ps_ret (pe_op op_mod (pe_callTy call_int1 (by rfl) T.z_int (by decide +kernel) (pa_cons (pe_op op_add (pe_op op_mulX (pe_ix ix_tup (pv 0) pe_int (fun _ _ => rfl)) (pv 2)) (pe_ix ix_tup (pv 0) pe_int (fun _ _ => rfl))) pa_nil)) (pv 1)))), ?_⟩
    obtain ⟨c, rfl, hc⟩ := pair_inv hv
    have b1 : r.1 < 2 ^ 11 := by omega
    refine ⟨_, rfl, c, _, 0, _, rfl, rfl, hc, rfl, _, rfl, _, _, rfl, rfl, cmulx (n := r.1) (m := x) b1 hx (by decide), _, rfl, c, _, 1, _, rfl, rfl, hc, rfl, _, _, rfl, rfl, .inl ⟨_, rfl, _, rfl, _, _, rfl, rfl, (by show (0 : Int) < (p : Int); omega), ?_⟩⟩
    show Q (.int (((r.1 : Int) * (x : Int) + (r.2 : Int)) % (p : Int))) H
    have e : ((r.1 : Int) * (x : Int) + (r.2 : Int)) % (p : Int) = (led p x r : Int) := by
      unfold led
      rw [Int.natCast_emod, Int.natCast_add, Int.natCast_mul]
    rw [e]
    exact q
theorem ok__law_row (T : Top K mg) (c__law_led : CalD P w K mg base 1 "_law_led" s__law_led ["pair", "p", "x"] (spMixed K)) : CalD P w K mg base 2 "_law_row" s__law_row ["mixing", "x"] (spRowL K) := by
  refine cal_mk T.d__law_row sc__law_row (fun _ _ _ _ _ _ us hl => match us, hl with | [_, _], _ => rfl) (fun vs H Q E h => ?_) (fun f cdv A outer s H vs Q E hr h => ?_)
  · obtain ⟨v, m, p, pairs, mark, x, rfl, hv, hOk, hx, q⟩ := h
    rfl
  · obtain ⟨v, m, p, pairs, mark, x, rfl, hv, hOk, hx, q⟩ := h
    refine ⟨_, (pss_cons (ps_asg (pv 0) (pg_tup rfl (pgs_cons (pg_name (i := 2) sc__law_row.nd rfl (Or.inl rfl)) (pgs_cons (pg_name (i := 3) sc__law_row.nd rfl (Or.inl rfl)) (pgs_cons (pg_name (i := 4) sc__law_row.nd rfl (Or.inl rfl)) (pgs_cons (pg_name (i := 5) sc__law_row.nd rfl (Or.inl rfl)) pgs_nil))))))
  (pss_cons (ps_set (i := 6) sc__law_row.nd rfl (Or.inl rfl) (pe_lst pa_nil))
  (pss_cons (ps_for PassesOwn.never rfl (pi_tup (pv 4)) (pg_name (i := 7) sc__law_row.nd rfl (Or.inl rfl)) (pss_cons (ps_set (i := 8) sc__law_row.nd rfl (Or.inl rfl) (pe_op op_mod (pe_callTy call_int1 (by rfl) T.z_int (by decide +kernel) (pa_cons (pe_f c__law_led hr (by omega) (by rfl) (pa_cons (pv 7) (pa_cons (pv 3) (pa_cons (pv 1) pa_nil)))) pa_nil)) (pv 2)))
  (pss_one (ps_if (pt_cmpR op_notIn_seq (pv 8) (pv 6) rfl) (pss_one (ps_expr (pe_bm PySem.F.plainAttrs_list PySem.F.slot_list_append PySem.F.type_list_append mt_append (pv 6) (pa_cons (pv 8) pa_nil)))) pss_nil))))
  (pss_one (ps_ret (pe_callTy call_tuple_of (by rfl) T.z_tuple (by decide +kernel) (pa_cons (pe_callB cr_sortedI (by rfl) T.z_sorted (by decide +kernel) (pa_cons (pv 6) pa_nil)) pa_nil))))))), ?_⟩
    obtain ⟨a, b, c, xs, rfl, h1, h2, h3, h4⟩ := mix_inv hv
    have hl : xs.length = pairs.length := (DpAll.length _ h3).trans (List.length_map _)
    have hm1 := hOk.m1
    have hm2 := hOk.m2
    refine ⟨_, rfl, a, _, rfl, h1, rfl, _, _, rfl, _, _, rfl, _, _, rfl, _, _, rfl, rfl, ?_⟩
    refine ⟨(by show 0 ≤ sizeLine; decide), fun F nF => ?_⟩
    have g0 := Gro.of (same_upd (o := HO.lst []) nF)
    refine ⟨_, rfl, b, rfl, ⟨_, g0.tupS h2⟩, ?_⟩
    refine for_it (walk_tup (xs := xs)) (fun i σ H' => ∃ (z7 z8 : Option V) (l : List Nat), σ = [some (V.ref a), some (V.int (x : Int)), some (V.int (m : Int)), some (V.int (p : Int)), some (V.ref b), some (V.ref c), some (V.ref F), z7, z8] ∧ Gro H H' ∧ H' F = some (.lst (intsV l)) ∧ l.Nodup ∧ ∀ d, d ∈ l ↔ ∃ r ∈ pairs.take i, led p x r % m = d) ⟨none, none, [], rfl, g0, upd_same, List.nodup_nil, fun d => ⟨fun z => absurd z List.not_mem_nil, fun ⟨k, z, _⟩ => absurd z (by simp)⟩⟩ (fun i σ H' _ hP => ?_) (fun i u σ H' H2 hi hP yl => ?_) (fun σ H' hP => ?_)
    · obtain ⟨_, _, _, _, gP, _⟩ := hP
      exact gP.tupS h2
    · obtain ⟨z7, z8, l, rfl, gP, eP, nP, mP⟩ := hP
      obtain ⟨rfl, ev⟩ := yl
      have hip : i < pairs.length := by omega
      obtain ⟨u2, eu, du⟩ := DpAll.get _ h3 (i := i) (d := pqD pairs[i]) (by rw [List.getElem?_map, List.getElem?_eq_getElem hip]; rfl)
      have ee : u = u2 := Option.some.inj (ev.symm.trans eu)
      subst ee
      have few : l.length ≤ m := nodup_few nP fun z hz => by
        obtain ⟨r, _, e⟩ := (mP z).mp hz
        rw [← e]
        exact Nat.mod_lt _ (by omega)
      have hq := hOk.each _ (List.getElem_mem hip)
      have step : ∀ l' : List Nat, (∀ d, d ∈ l' ↔ d ∈ l ∨ d = led p x pairs[i] % m) → ∀ d, d ∈ l' ↔ ∃ r ∈ pairs.take (i + 1), led p x r % m = d := fun l' hl' d => by
        rw [hl', mP, List.take_add_one, List.getElem?_eq_getElem hip]
        simp only [Option.toList_some, List.mem_append, List.mem_singleton]
        constructor
        · rintro (⟨r, h5, h6⟩ | h5)
          · exact ⟨r, .inl h5, h6⟩
          · exact ⟨_, .inr rfl, h5.symm⟩
        · rintro ⟨r, h5 | rfl, h6⟩
          · exact .inl ⟨r, h5, h6⟩
          · exact .inr h6.symm
      refine ⟨_, rfl, _, rfl, _, rfl, u, pairs[i], p, x, rfl, Dp.gro gP _ _ du, hq.1, hq.2, hOk.p2, hx, .inl ⟨_, rfl, _, rfl, _, _, rfl, rfl, (by show (0 : Int) < (m : Int); omega), ?_⟩⟩
      refine ⟨_, rfl, _, rfl, F, _, rfl, .inl (SqL.of eP), rfl, flat_nats _, _, rfl, ?_⟩
      show (if (!inV (.int ((led p x pairs[i] : Int) % (m : Int))) (intsV l)) = true then _ else _)
      rw [← Int.natCast_emod, inV_nats]
      by_cases hin : led p x pairs[i] % m ∈ l
      · rw [decide_eq_true hin]
        exact iteF ⟨_, _, l, rfl, gP, eP, nP, step l fun d => ⟨.inl, fun z => z.elim id fun e => e ▸ hin⟩⟩
      · rw [decide_eq_false hin]
        refine iteT ⟨_, rfl, .inl ⟨rfl, _, SqL.of eP⟩, _, rfl, F, _, _, rfl, rfl, eP, by rw [intsV_len]; exact Nat.lt_of_le_of_lt (by omega : _ ≤ 60) (by decide), _, _, l ++ [led p x pairs[i] % m], rfl, ?_, ?_, ?_, step _ fun d => by simp⟩
        · exact fun u o e => (gP u o e).imp fun o' z => ⟨by rw [upd_ne (fun q => by rw [q, nF] at e; cases e)]; exact z.1, z.2⟩
        · rw [upd_same, ← intsV_app]
          show some (HO.lst (intsV l ++ [V.int ((led p x pairs[i] : Int) % (m : Int))])) = _
          rw [← Int.natCast_emod]
          rfl
        · rw [List.nodup_append]
          exact ⟨nP, List.pairwise_singleton _ _, fun y hy z hz e => by rw [List.mem_singleton.mp hz] at e; rw [e] at hy; exact hin hy⟩
    · obtain ⟨z7, z8, l, rfl, gP, eP, nP, mP⟩ := hP
      rw [hl, List.take_length] at mP
      have eP2 : SqL K H' F ((l.map fun k : Nat => (k : Int)).map V.int) := by
        rw [← intsV_map]
        exact SqL.of eP
      refine ⟨_, rfl, F, _, rfl, eP2, fun ns' ps hperm hs hps => ⟨ps, _, rfl, .inl ⟨SqL.of upd_same, fun pt hpt => ?_⟩⟩⟩
      obtain ⟨row, er, hpw, hmem⟩ := sorted_row hperm hs nP
      refine q _ pt ((gP.trans (.of (same_upd hps))).trans (.of (same_upd hpt))) (SqT.of ?_)
      rw [upd_same, er, rowM_row hm1 hpw fun c => (hmem c).trans (mP c)]
theorem ok__law_mark (T : Top K mg) (c__law_led : CalD P w K mg base 1 "_law_led" s__law_led ["pair", "p", "x"] (spMixed K)) : CalD P w K mg base 2 "_law_mark" s__law_mark ["mixing", "w", "x"] (spMarkL K) := by
  refine cal_mk T.d__law_mark sc__law_mark (fun _ _ _ _ _ _ us hl => match us, hl with | [_, _, _], _ => rfl) (fun vs H Q E h => ?_) (fun f cdv A outer s H vs Q E hr h => ?_)
  · obtain ⟨v, m, p, pairs, mark, w1, x, rfl, hv, hOk, hw, hx, q⟩ := h
    rfl
  · obtain ⟨v, m, p, pairs, mark, w1, x, rfl, hv, hOk, hw, hx, q⟩ := h
    refine ⟨_, (pss_cons (ps_set (i := 3) sc__law_mark.nd rfl (Or.inl rfl) pe_int)
  (pss_cons (ps_for PassesOwn.never rfl (pi_range1 (by rfl) T.z_range (pa_cons (pv 1) pa_nil)) (pg_name (i := 4) sc__law_mark.nd rfl (Or.inl rfl)) (pss_one (ps_set (i := 3) sc__law_mark.nd rfl (Or.inl rfl) (pe_op op_add (pv 3) (pv 3)))))
  (pss_one (ps_ret (pe_op op_mod (pe_callTy call_int1 (by rfl) T.z_int (by decide +kernel) (pa_cons (pe_f c__law_led hr (by omega) (by rfl) (pa_cons (pe_ix ix_tup (pv 0) pe_int (fun _ _ => rfl)) (pa_cons (pe_ix ix_tup (pv 0) pe_int (fun _ _ => rfl)) (pa_cons (pv 2) pa_nil)))) pa_nil)) (pv 3)))))), ?_⟩
    obtain ⟨a, b, c, xs, rfl, h1, h2, h3, h4⟩ := mix_inv hv
    have hp := hOk.mkd
    refine ⟨_, rfl, (w1 : Int), rfl, by omega, by omega, ?_⟩
    have en : ((w1 : Nat) : Int).toNat = w1 := Int.toNat_natCast _
    refine for_range (lo := 0) (n := ((w1 : Nat) : Int).toNat) (fun i σ H' => ∃ z : Option V, σ = [some (V.ref a), some (V.int (w1 : Int)), some (V.int (x : Int)), some (V.int ((2 ^ i : Nat) : Int)), z] ∧ H' = H) ⟨none, rfl, rfl⟩ (fun i σ H' hi hP => ?_) (fun σ H' hP => ?_)
    · obtain ⟨z, rfl, rfl⟩ := hP
      refine ⟨_, rfl, _, rfl, _, _, rfl, rfl, some (V.int (0 + (i : Int))), ?_, rfl⟩
      have e : ((2 ^ i : Nat) : Int) + ((2 ^ i : Nat) : Int) = ((2 ^ (i + 1) : Nat) : Int) := by
        rw [Nat.pow_succ]
        omega
      rw [← e]
      rfl
    · obtain ⟨z, rfl, rfl⟩ := hP
      rw [en]
      have pos : 0 < 2 ^ w1 := Nat.pow_pos (by decide)
      refine ⟨_, rfl, a, _, 3, _, rfl, rfl, h1, rfl, _, rfl, a, _, 1, _, rfl, rfl, h1, rfl, _, rfl, .ref c, mark, p, x, rfl, pair_mk h4, hp.1, hp.2, hOk.p2, hx, .inl ⟨_, rfl, _, rfl, _, _, rfl, rfl, (by show (0 : Int) < ((2 ^ w1 : Nat) : Int); omega), ?_⟩⟩
      show Q (.int ((led p x mark : Int) % ((2 ^ w1 : Nat) : Int))) H'
      rw [← Int.natCast_emod]
      exact q
theorem ok__law_seeded (T : Top K mg)  : CalD P w K mg base 1 "_law_seeded" s__law_seeded ["mixing", "s"] (spSeededL K) := by
  refine cal_mk T.d__law_seeded sc__law_seeded (fun _ _ _ _ _ _ us hl => match us, hl with | [_, _], _ => rfl) (fun vs H Q E h => ?_) (fun f cdv A outer s H vs Q E hr h => ?_)
  · obtain ⟨v, m, p, pairs, mark, s1, rfl, hv, hOk, hs, q⟩ := h
    rfl
  · obtain ⟨v, m, p, pairs, mark, s1, rfl, hv, hOk, hs, q⟩ := h
    refine ⟨_, (pss_cons (ps_asg (pv 0) (pg_tup rfl (pgs_cons (pg_name (i := 2) sc__law_seeded.nd rfl (Or.inl rfl)) (pgs_cons (pg_name (i := 3) sc__law_seeded.nd rfl (Or.inl rfl)) (pgs_cons (pg_name (i := 4) sc__law_seeded.nd rfl (Or.inl rfl)) (pgs_cons (pg_name (i := 5) sc__law_seeded.nd rfl (Or.inl rfl)) pgs_nil))))))
  (pss_cons (ps_set (i := 6) sc__law_seeded.nd rfl (Or.inl rfl) (pe_lst pa_nil))
  (pss_cons (ps_for PassesOwn.never rfl (pi_tup (pe_op op_catA (pv 4) (pe_tup (pa_cons (pv 5) pa_nil)))) (pg_tup rfl (pgs_cons (pg_name (i := 7) sc__law_seeded.nd rfl (Or.inl rfl)) (pgs_cons (pg_name (i := 8) sc__law_seeded.nd rfl (Or.inl rfl)) pgs_nil))) (pss_one (ps_expr (pe_bm PySem.F.plainAttrs_list PySem.F.slot_list_append PySem.F.type_list_append mt_append (pv 6) (pa_cons (pe_tup (pa_cons (pe_op op_mod (pe_callTy call_int1 (by rfl) T.z_int (by decide +kernel) (pa_cons (pe_op op_add (pe_op op_mulX (pv 7) (pe_op op_add (pe_op op_add (pv 1) (pv 1)) pe_int)) (pv 1)) pa_nil)) (pv 3)) (pa_cons (pe_op op_mod (pe_callTy call_int1 (by rfl) T.z_int (by decide +kernel) (pa_cons (pe_op op_add (pv 8) (pe_op op_mulX (pv 1) (pv 1))) pa_nil)) (pv 3)) pa_nil))) pa_nil)))))
  (pss_one (ps_ret (pe_tup (pa_cons (pv 2) (pa_cons (pv 3) (pa_cons (pe_callTy call_tuple_of (by rfl) T.z_tuple (by decide +kernel) (pa_cons (pe_slice sl_list (pv 6) po_none (po_some (pe_un un_neg pe_int))) pa_nil)) (pa_cons (pe_ix ix_list (pv 6) (pe_un un_neg pe_int) (fun _ _ => rfl)) pa_nil)))))))))), ?_⟩
    obtain ⟨a, b, c, xs, rfl, h1, h2, h3, h4⟩ := mix_inv hv
    have hl : xs.length = pairs.length := (DpAll.length _ h3).trans (List.length_map _)
    have hfew := hOk.few
    have hp2 := hOk.p2
    have hp1 := hOk.p1
    refine ⟨_, rfl, a, _, rfl, h1, rfl, _, _, rfl, _, _, rfl, _, _, rfl, _, _, rfl, rfl, ?_⟩
    refine ⟨(by show 0 ≤ sizeLine; decide), fun F nF => ?_⟩
    have g0 := Gro.of (same_upd (o := HO.lst []) nF)
    refine ⟨_, rfl, _, rfl, (by show 1 ≤ sizeLine; decide), fun pt hpt => ?_⟩
    have g1 := g0.trans (.of (same_upd (o := HO.tup [V.ref c]) hpt))
    refine cat_of (g1.tupS h2) (SqT.of upd_same) (by show xs.length + 1 ≤ sizeLine; exact Nat.le_trans (by omega : _ ≤ 100) (by decide)) fun pc H1 g2 s2 => ⟨pc, rfl, ⟨_, s2⟩, ?_⟩
    have gg := g1.trans g2
    have eF : H1 F = some (.lst []) := g2.at (same_upd hpt _ _ upd_same)
    have dAll : DpAll K H1 (xs ++ [V.ref c]) ((pairs ++ [mark]).map pqD) := by
      rw [List.map_append]
      exact DpAll.app (.cons (pair_mk (gg.tupS h4)) .nil) (DpAll.gro gg _ _ h3)
    have hall : ∀ r ∈ pairs ++ [mark], r.1 < p ∧ r.2 < p := fun r hr => by
      rcases List.mem_append.mp hr with h | h
      · exact hOk.each r h
      · rw [List.mem_singleton.mp h]; exact hOk.mkd
    have hlen : (xs ++ [V.ref c]).length = (pairs ++ [mark]).length := by rw [List.length_append, List.length_append, hl]; rfl
    have hlen2 : (pairs ++ [mark]).length = pairs.length + 1 := by rw [List.length_append]; rfl
    generalize hys : xs ++ [V.ref c] = ys at s2 dAll hlen
    generalize hall2 : pairs ++ [mark] = all at dAll hall hlen hlen2
    refine for_it (walk_tup (xs := ys)) (fun i σ H' => ∃ (z7 z8 : Option V) (vs : List V), σ = [some (V.ref a), some (V.int (s1 : Int)), some (V.int (m : Int)), some (V.int (p : Int)), some (V.ref b), some (V.ref c), some (V.ref F), z7, z8] ∧ Tup H1 H' ∧ Gro H H' ∧ H' F = some (.lst vs) ∧ vs.length = i ∧ DpAll K H' vs (((all.take i).map (seedP p s1)).map pqD)) ⟨none, none, [], rfl, Tup.refl H1, gg, eF, rfl, .nil⟩ (fun i σ H' _ hP => ?_) (fun i u σ H' H2 hi hP yl => ?_) (fun σ H' hP => ?_)
    · obtain ⟨_, _, _, _, tP, _⟩ := hP
      exact tP.sqt s2
    · obtain ⟨z7, z8, vs, rfl, tP, gP, eP, lP, dP⟩ := hP
      obtain ⟨rfl, ev⟩ := yl
      have hip : i < all.length := by omega
      obtain ⟨u2, eu, du⟩ := DpAll.get _ dAll (i := i) (d := pqD all[i]) (by rw [List.getElem?_map, List.getElem?_eq_getElem hip]; rfl)
      have ee : u = u2 := Option.some.inj (ev.symm.trans eu)
      subst ee
      obtain ⟨d, rfl, hd⟩ := pair_inv (tP.pair du)
      have hq := hall _ (List.getElem_mem hip)
      have b1 : all[i].1 < 2 ^ 11 := by omega
      have b2 : s1 + s1 + 1 < 2 ^ 302 := by
        have : (2 : Nat) ^ 302 = 4 * 2 ^ 300 := by decide
        omega
      have e0 : (s1 : Int) + (s1 : Int) + 1 = ((s1 + s1 + 1 : Nat) : Int) := by omega
      refine ⟨d, _, rfl, hd, rfl, _, _, rfl, _, _, rfl, rfl, ?_⟩
      refine ⟨_, rfl, .inl ⟨rfl, _, SqL.of eP⟩, _, rfl, _, rfl, _, rfl, _, _, rfl, rfl, _, 1, rfl, rfl, _, _, rfl, rfl, (by show CMulX (all[i].1 : Int) ((s1 : Int) + (s1 : Int) + 1); rw [e0]; exact cmulx b1 b2 (by decide)), _, rfl, _, _, rfl, rfl, .inl ⟨_, rfl, _, rfl, _, _, rfl, rfl, (by show (0 : Int) < (p : Int); omega), ?_⟩⟩
      refine ⟨_, rfl, _, rfl, _, rfl, _, _, rfl, rfl, cmulx (n := s1) (m := s1) hs hs (by decide), _, _, rfl, rfl, .inl ⟨_, rfl, _, rfl, _, _, rfl, rfl, (by show (0 : Int) < (p : Int); omega), (by show 2 ≤ sizeLine; decide), fun pe hpe => ?_⟩⟩
      have e1 : ((all[i].1 : Int) * ((s1 : Int) + (s1 : Int) + 1) + (s1 : Int)) % (p : Int) = ((seedP p s1 all[i]).1 : Int) := by
        show _ = (((all[i].1 * (2 * s1 + 1) + s1) % p : Nat) : Int)
        rw [show 2 * s1 + 1 = s1 + s1 + 1 by omega, e0, ← Int.natCast_mul, ← Int.natCast_add, ← Int.natCast_emod]
      have e2 : ((all[i].2 : Int) + (s1 : Int) * (s1 : Int)) % (p : Int) = ((seedP p s1 all[i]).2 : Int) := by
        show _ = (((all[i].2 + s1 * s1) % p : Nat) : Int)
        rw [← Int.natCast_mul, ← Int.natCast_add, ← Int.natCast_emod]
      have hE : Dp K (upd H2 pe (.tup [V.int (((all[i].1 : Int) * ((s1 : Int) + (s1 : Int) + 1) + (s1 : Int)) % (p : Int)), V.int (((all[i].2 : Int) + (s1 : Int) * (s1 : Int)) % (p : Int))])) (.ref pe) (pqD (seedP p s1 all[i])) := pair_mk (SqT.of (by rw [upd_same, e1, e2]))
      have sE := same_upd (o := HO.tup [V.int (((all[i].1 : Int) * ((s1 : Int) + (s1 : Int) + 1) + (s1 : Int)) % (p : Int)), V.int (((all[i].2 : Int) + (s1 : Int) * (s1 : Int)) % (p : Int))]) hpe
      have tE := Tup.put (vs ++ [V.ref pe]) (sE _ _ eP)
      refine ⟨F, _, _, rfl, rfl, sE _ _ eP, Nat.lt_of_lt_of_le (by omega : vs.length < 100) (by decide), _, _, vs ++ [V.ref pe], rfl, (tP.trans (.of (.of sE))).trans tE, ?_, upd_same, by rw [List.length_append, lP]; rfl, ?_⟩
      · exact fun u o e => ((gP.trans (.of sE)) u o e).imp fun o' z => ⟨by rw [upd_ne (fun q => by rw [q, nF] at e; cases e)]; exact z.1, z.2⟩
      · rw [List.take_add_one, List.getElem?_eq_getElem hip, List.map_append, List.map_append]
        exact DpAll.app (.cons (tE.pair hE) .nil) (tE.pairs (DpAll.same sE _ _ dP))
    · obtain ⟨z7, z8, vs, rfl, tP, gP, eP, lP, dP⟩ := hP
      rw [hlen, List.take_length, ← hall2, List.map_append, List.map_append] at dP
      have lv : vs.length = pairs.length + 1 := by omega
      obtain ⟨vs0, u, rfl⟩ : ∃ vs0 u, vs = vs0 ++ [u] := by
        cases hv2 : vs.reverse with
        | nil =>
          have := congrArg List.length hv2
          rw [List.length_reverse] at this
          exact absurd this (by rw [lv]; exact Nat.succ_ne_zero _)
        | cons u r =>
          refine ⟨r.reverse, u, ?_⟩
          rw [← List.reverse_reverse vs, hv2, List.reverse_cons]
      have l0 : vs0.length = pairs.length := by
        rw [List.length_append] at lv
        exact Nat.succ.inj lv
      obtain ⟨d1, d2⟩ := DpAll.split dP (by rw [l0, List.length_map, List.length_map])
      cases d2 with
      | cons du dn =>
      have eP2 : SqL K H' F (vs0 ++ [u]) := SqL.of eP
      refine ⟨_, rfl, _, rfl, _, rfl, 1, rfl, (-1), rfl, F, _, rfl, eP2, fun ps hps => ?_⟩
      rw [cut_last]
      have sS := same_upd (o := HO.lst vs0) hps
      refine ⟨ps, _, rfl, .inl ⟨SqL.of upd_same, fun pq hpq => ?_⟩⟩
      have sQ := same_upd (o := HO.tup vs0) hpq
      refine ⟨_, rfl, 1, rfl, F, _, (-1), u, rfl, rfl, Same.seq sQ (Same.seq sS eP2), at_last vs0 u, (by show 4 ≤ sizeLine; decide), fun pr hpr => ?_⟩
      have sR := same_upd (o := HO.tup [V.int (m : Int), V.int (p : Int), V.ref pq, u]) hpr
      exact q _ pr (((gP.trans (.of sS)).trans (.of sQ)).trans (.of sR)) (mix_mk (SqT.of upd_same) (Same.tupS sR (SqT.of upd_same)) (DpAll.same sR _ _ (DpAll.same sQ _ _ (DpAll.same sS _ _ d1))) (Dp.same sR _ _ (Dp.same sQ _ _ (Dp.same sS _ _ du))))
theorem ok__law_numbers (T : Top K mg) (c__law_pick : CalD P w K mg base 1 "_law_pick" s__law_pick ["stock", "many"] (spDip)) : CalD P w K mg base 2 "_law_numbers" s__law_numbers ["stock", "many"] (spNumbers) := by
  refine cal_mk T.d__law_numbers sc__law_numbers (fun _ _ _ _ _ _ us hl => match us, hl with | [_, _], _ => rfl) (fun vs H Q E h => ?_) (fun f cdv A outer s H vs Q E hr h => ?_)
  · obtain ⟨a, many, k, rfl, hW, hk, hmany, q⟩ := h
    rfl
  · obtain ⟨a, many, k, rfl, hW, hk, hmany, q⟩ := h
    refine ⟨_, (pss_cons (ps_set (i := 2) sc__law_numbers.nd rfl (Or.inl rfl) (pe_lst pa_nil))
  (pss_cons (ps_for PassesOwn.never rfl (pi_range1 (by rfl) T.z_range (pa_cons (pe_f c__law_pick hr (by omega) (by rfl) (pa_cons (pv 0) (pa_cons (pe_op op_add (pv 1) pe_int) pa_nil))) pa_nil)) (pg_name (i := 3) sc__law_numbers.nd rfl (Or.inl rfl)) (pss_cons (ps_set (i := 4) sc__law_numbers.nd rfl (Or.inl rfl) (pe_f c__law_pick hr (by omega) (by rfl) (pa_cons (pv 0) (pa_cons (pe_ix ix_list (pe_lst (pa_cons pe_int (pa_cons pe_int (pa_cons (pe_op op_pow pe_int pe_int) pa_nil)))) (pe_f c__law_pick hr (by omega) (by rfl) (pa_cons (pv 0) (pa_cons pe_int pa_nil))) (fun _ _ => rfl)) pa_nil))))
  (pss_one (ps_if (pt_cmpR op_notIn_seq (pv 4) (pv 2) rfl) (pss_one (ps_expr (pe_bm PySem.F.plainAttrs_list PySem.F.slot_list_append PySem.F.type_list_append mt_append (pv 2) (pa_cons (pv 4) pa_nil)))) pss_nil))))
  (pss_one (ps_ret (pv 2))))), ?_⟩
    refine ⟨(by show 0 ≤ sizeLine; decide), fun F nF => ?_⟩
    have nFa := hW.ne nF
    have s0 := same_upd (o := HO.lst []) nF
    have w0 := hW.same s0
    have o0 : OffG a H (upd H F (.lst [])) := .of (.of s0)
    have e0 : upd H F (.lst []) F = some (.lst []) := upd_same
    refine ⟨_, rfl, _, rfl, _, 1, rfl, rfl, a, many + 1, _, rfl, w0, by omega, by omega, by omega, fun n H1 hn o1 w1 => ⟨(n : Int), rfl, by omega, by omega, ?_⟩⟩
    have o1' := o0.trans (.off o1)
    have e1 := o1 F _ nFa e0
    clear s0 w0 o0 e0 o1
    have en : ((n : Nat) : Int).toNat = n := Int.toNat_natCast _
    refine for_range (lo := 0) (n := ((n : Nat) : Int).toNat) (fun i σ H' => ∃ (z3 z4 : Option V) (l : List Nat), σ = [some (V.ref a), some (V.int (many : Int)), some (V.ref F), z3, z4] ∧ OffG a H H' ∧ WellAt H' a (k + 1 + 2 * i) ∧ H' F = some (.lst (intsV l)) ∧ l.Nodup ∧ (∀ x ∈ l, x < 10 ^ 18) ∧ l.length ≤ i) ⟨none, none, [], rfl, o1', w1, e1, List.nodup_nil, (fun _ h => absurd h List.not_mem_nil), Nat.le_refl _⟩ (fun i σ H' hi hP => ?_) (fun σ H' hP => ?_)
    · obtain ⟨z3, z4, l, rfl, oP, wP, eP, nP, bP, lP⟩ := hP
      have hin : i < n := by omega
      refine ⟨_, rfl, 10, 18, rfl, rfl, ⟨by decide, by decide, by decide⟩, (by show 3 ≤ sizeLine; decide), fun pl hpl => ?_⟩
      have npl := wP.ne hpl
      have sA := same_upd (o := HO.lst [V.int 20, V.int 1000, V.int ((10 : Int) ^ Int.toNat 18)]) hpl
      have wA := wP.same sA
      have eA := sA _ _ eP
      have fA : upd H' pl (.lst [V.int 20, V.int 1000, V.int ((10 : Int) ^ Int.toNat 18)]) pl = some (.lst [V.int 20, V.int 1000, V.int ((10 : Int) ^ Int.toNat 18)]) := upd_same
      refine ⟨_, rfl, a, 3, _, rfl, wA, by omega, by decide, by decide, fun j HB hj oB wB => ?_⟩
      obtain ⟨md, hm1, hm2, hat⟩ : ∃ md : Nat, 1 ≤ md ∧ md ≤ 10 ^ 18 ∧ atI [V.int 20, V.int 1000, V.int ((10 : Int) ^ Int.toNat 18)] (j : Int) = some (.int (md : Int)) := by
        have h3 : j = 0 ∨ j = 1 ∨ j = 2 := by omega
        rcases h3 with rfl | rfl | rfl
        · exact ⟨20, by decide, by decide, rfl⟩
        · exact ⟨1000, by decide, by decide, rfl⟩
        · exact ⟨10 ^ 18, by decide, by decide, rfl⟩
      refine ⟨pl, _, (j : Int), _, rfl, rfl, SqL.of (oB pl _ npl fA), hat, a, md, _, rfl, wB, by omega, by omega, Nat.lt_of_le_of_lt hm2 (by decide), fun x HC hx oC wC => ?_⟩
      have oD := (oP.trans (.of (.of sA))).trans (.off (oB.trans oC))
      have eD := (oB.trans oC) F _ nFa eA
      refine ⟨_, rfl, _, rfl, F, _, rfl, .inl (SqL.of eD), rfl, flat_nats _, _, rfl, ?_⟩
      show (if (!inV (.int (x : Int)) (intsV l)) = true then _ else _)
      rw [inV_nats]
      by_cases hin2 : x ∈ l
      · rw [decide_eq_true hin2]
        exact iteF ⟨_, _, l, rfl, oD, wC.mono (by omega), eD, nP, bP, by omega⟩
      · rw [decide_eq_false hin2]
        refine iteT ⟨_, rfl, .inl ⟨rfl, _, SqL.of eD⟩, _, rfl, F, _, _, rfl, rfl, eD, by rw [intsV_len]; exact Nat.lt_of_le_of_lt (by omega : _ ≤ 100) (by decide), _, _, l ++ [x], rfl, oD.put nF, (wC.put nFa).mono (by omega), ?_, ?_, ?_, by rw [List.length_append]; exact Nat.succ_le_succ lP⟩
        · rw [upd_same, ← intsV_app]
          rfl
        · rw [List.nodup_append]
          exact ⟨nP, List.pairwise_singleton _ _, fun y hy z hz e => by rw [List.mem_singleton.mp hz] at e; rw [e] at hy; exact hin2 hy⟩
        · intro y hy
          rcases List.mem_append.mp hy with h | h
          · exact bP y h
          · rw [List.mem_singleton.mp h]; omega
    · obtain ⟨z3, z4, l, rfl, oP, wP, eP, nP, bP, lP⟩ := hP
      rw [en] at lP wP
      exact ⟨_, rfl, q _ F l oP (wP.mono (by omega)) nF nFa eP nP bP (by omega)⟩
theorem ok__law_is_whole (T : Top K mg)  : CalD P w K mg base 1 "_law_is_whole" s__law_is_whole ["value"] (spWhole K) := by
  refine cal_mk T.d__law_is_whole sc__law_is_whole (fun _ _ _ _ _ _ us hl => match us, hl with | [_], _ => rfl) (fun vs H Q E h => ?_) (fun f cdv A outer s H vs Q E hr h => ?_)
  · obtain ⟨x, d, rfl, hx, q⟩ := h
    rfl
  · obtain ⟨x, d, rfl, hx, q⟩ := h
    refine ⟨_, (pss_one (ps_ret (pe_and (pe_callB call_isi (by rfl) T.z_isinstance (by decide +kernel) (pa_cons (pv 0) (pa_cons (pe_bltn (v := .ty "int") (by rfl) T.z_int (by decide +kernel) rfl) pa_nil))) (pe_one (pe_not (pe_callB call_isi (by rfl) T.z_isinstance (by decide +kernel) (pa_cons (pv 0) (pa_cons (pe_bltn (v := .ty "bool") (by rfl) T.z_bool (by decide +kernel) rfl) pa_nil)))))))), ?_⟩
    cases d with
    | none =>
      cases hx
      exact ⟨_, rfl, _, _, _, _, false, rfl, .ty _, .base .non, kit_ty (by decide +kernel), _, rfl, iteF q⟩
    | bool b =>
      cases hx
      exact ⟨_, rfl, _, _, _, _, true, rfl, .ty _, .base (.bl _), kit_ty (by decide +kernel), _, rfl, iteT ⟨_, rfl, _, _, _, _, true, rfl, .ty _, .base (.bl _), kit_ty (by decide +kernel), _, rfl, q⟩⟩
    | int i =>
      cases hx
      exact ⟨_, rfl, _, _, _, _, true, rfl, .ty _, .base (.int _), kit_ty (by decide +kernel), _, rfl, iteT ⟨_, rfl, _, _, _, _, false, rfl, .ty _, .base (.int _), kit_ty (by decide +kernel), _, rfl, q⟩⟩
    | str z =>
      cases hx
      exact ⟨_, rfl, _, _, _, _, false, rfl, .ty _, .base (.str _), kit_ty (by decide +kernel), _, rfl, iteF q⟩
    | list ds => exact ⟨_, rfl, _, _, _, _, false, rfl, .ty _, ty_data hx, kit_ty (show kitB "list" "int" = some false by decide +kernel), _, rfl, iteF q⟩
    | tuple ds => exact ⟨_, rfl, _, _, _, _, false, rfl, .ty _, ty_data hx, kit_ty (show kitB "tuple" "int" = some false by decide +kernel), _, rfl, iteF q⟩
    | dict kvs => cases hx
theorem ok__law_is_mixing (T : Top K mg) (c__law_is_whole : CalD P w K mg base 1 "_law_is_whole" s__law_is_whole ["value"] (spWhole K)) : CalD P w K mg base 2 "_law_is_mixing" s__law_is_mixing ["item"] (spLMix K) := by
  refine cal_mk T.d__law_is_mixing sc__law_is_mixing (fun _ _ _ _ _ _ us hl => match us, hl with | [_], _ => rfl) (fun vs H Q E h => ?_) (fun f cdv A outer s H vs Q E hr h => ?_)
  · obtain ⟨x, d, rfl, hx, hZ, q⟩ := h
    rfl
  · obtain ⟨x, d, rfl, hx, hZ, q⟩ := h
    refine ⟨_, (pss_cons (ps_if (PW.pt (pw_or (pt_not (pt_val (pe_callB call_isi (by rfl) T.z_isinstance (by decide +kernel) (pa_cons (pv 0) (pa_cons (pe_bltn (v := .ty "tuple") (by rfl) T.z_tuple (by decide +kernel) rfl) pa_nil))))) (pw_or (pt_cmpR op_ne (pe_callB call_len_seq (by rfl) T.z_len PySem.boot_len (pa_cons (pv 0) pa_nil)) pe_int (nomark _)) (pw_or (pt_not (pt_val (pe_callB call_isi (by rfl) T.z_isinstance (by decide +kernel) (pa_cons (pe_ix ix_tup (pv 0) pe_int (fun _ _ => rfl)) (pa_cons (pe_bltn (v := .ty "tuple") (by rfl) T.z_tuple (by decide +kernel) rfl) pa_nil))))) (pw_or1 (pt_cmpR (op_eqD hr.units) (pe_ix ix_tup (pv 0) pe_int (fun _ _ => rfl)) (pe_tup pa_nil) (nomark _))))))) (pss_one (ps_ret pe_bl)) pss_nil)
  (pss_cons (ps_asg (pv 0) (pg_tup rfl (pgs_cons (pg_name (i := 1) sc__law_is_mixing.nd rfl (Or.inl rfl)) (pgs_cons (pg_name (i := 2) sc__law_is_mixing.nd rfl (Or.inr rfl)) (pgs_cons (pg_name (i := 3) sc__law_is_mixing.nd rfl (Or.inl rfl)) (pgs_cons (pg_name (i := 4) sc__law_is_mixing.nd rfl (Or.inl rfl)) pgs_nil))))))
  (pss_cons (ps_if (PW.pt (pw_or (pt_not (pt_val (pe_f c__law_is_whole hr (by omega) (by rfl) (pa_cons (pv 1) pa_nil)))) (pw_or (pt_not (pt_val (pe_f c__law_is_whole hr (by omega) (by rfl) (pa_cons (pv 2) pa_nil)))) (pw_or (pt_cmpR op_lt (pv 1) pe_int (nomark _)) (pw_or1 (pt_cmpR op_lt (pv 2) pe_int (nomark _))))))) (pss_one (ps_ret pe_bl)) pss_nil)
  (pss_cons (ps_for PassesOwn.never rfl (pi_tup (pe_op op_catA (pv 3) (pe_tup (pa_cons (pv 4) pa_nil)))) (pg_name (i := 5) sc__law_is_mixing.nd rfl (Or.inl rfl)) (pss_cons (ps_if (PW.pt (pw_or (pt_not (pt_val (pe_callB call_isi (by rfl) T.z_isinstance (by decide +kernel) (pa_cons (pv 5) (pa_cons (pe_bltn (v := .ty "tuple") (by rfl) T.z_tuple (by decide +kernel) rfl) pa_nil))))) (pw_or1 (pt_cmpR op_ne (pe_callB call_len_seq (by rfl) T.z_len PySem.boot_len (pa_cons (pv 5) pa_nil)) pe_int (nomark _))))) (pss_one (ps_ret pe_bl)) pss_nil)
  (pss_one (ps_if (pt_cmpR (op_neD hr.units) (pe_lc (own := [("number", 6)]) (g := gName 6) rfl sc__law_is_mixing.nd (pi_tup (pv 5)) (blkOk_by (own := [("number", 6)]) (N := N__law_is_mixing) (sc := defScope s__law_is_mixing) (by decide +kernel)) (fun _ _ _ _ _ => pg_name (i := 6) sc__law_is_mixing.nd rfl (Or.inl rfl)) (fun _ _ _ _ _ => (pts_one (PW.pt (pw_or (pt_not (pt_val (pe_f c__law_is_whole hr (by omega) (by rfl) (pa_cons (pv 6) pa_nil)))) (pw_or (pt_cmpR op_lt (pv 6) pe_int (nomark _)) (pw_or1 (pt_cmpR op_ge (pv 6) (pv 2) (nomark _)))))))) (fun _ _ _ _ _ => (pv 6))) (pe_lst pa_nil) (nomark _)) (pss_one (ps_ret pe_bl)) pss_nil))))
  (pss_one (ps_ret pe_bl)))))), ?_⟩
    have q0 := q H (Gro.refl H)
    cases d with
    | none =>
      cases hx
      exact ⟨_, rfl, _, _, _, _, false, rfl, .ty _, .base .non, kit_ty (by decide +kernel), _, rfl, iteT (iteT q0)⟩
    | bool b =>
      cases hx
      exact ⟨_, rfl, _, _, _, _, false, rfl, .ty _, .base (.bl _), kit_ty (by decide +kernel), _, rfl, iteT (iteT q0)⟩
    | int i =>
      cases hx
      exact ⟨_, rfl, _, _, _, _, false, rfl, .ty _, .base (.int _), kit_ty (by decide +kernel), _, rfl, iteT (iteT q0)⟩
    | str z =>
      cases hx
      exact ⟨_, rfl, _, _, _, _, false, rfl, .ty _, .base (.str _), kit_ty (by decide +kernel), _, rfl, iteT (iteT q0)⟩
    | list ds => exact ⟨_, rfl, _, _, _, _, false, rfl, .ty _, ty_data hx, kit_ty (show kitB "list" "tuple" = some false by decide +kernel), _, rfl, iteT (iteT q0)⟩
    | dict kvs => cases hx
    | tuple ds =>
      obtain ⟨a, xs, h1, h2, rfl⟩ : ∃ a xs, SqT K H a xs ∧ DpAll K H xs ds ∧ x = .ref a := by
        cases hx with
        | tup h1 h2 => exact ⟨_, _, h1, h2, rfl⟩
      have hl := DpAll.length _ h2
      refine ⟨_, rfl, _, _, _, _, true, rfl, .ty _, ty_tuple h1, kit_ty (by decide +kernel), _, rfl, iteF ⟨_, rfl, a, _, rfl, .inr h1, rfl, _, rfl, ite2 (fun h => ?_) (fun h => ?_)⟩⟩
      · have nl : ds.length ≠ 4 := fun z => by
          rw [hl, z] at h
          exact absurd h (by decide)
        have e : isMixD (.tuple ds) = false := mix_len nl
        rw [e] at q0
        exact iteT q0
      · have l4 : ds.length = 4 := by
          cases w : decide (V.int (xs.length : Int) = V.int 4) with
          | true =>
            have z := V.int.inj (of_decide_eq_true w)
            omega
          | false => exact absurd (by show (!decide (V.int (xs.length : Int) = V.int 4)) = true; rw [w]; rfl) h
        obtain ⟨d1, d2, d3, d4, rfl⟩ : ∃ d1 d2 d3 d4, ds = [d1, d2, d3, d4] := by
          match ds, l4 with
          | [d1, d2, d3, d4], _ => exact ⟨_, _, _, _, rfl⟩
        clear h hl l4
        have hz3 : Sz 2000 19 d3 := hZ.2 d3 (by simp)
        have hz4 : Sz 2000 19 d4 := hZ.2 d4 (by simp)
        cases h2 with
        | cons g1 h2 =>
        cases h2 with
        | cons g2 h2 =>
        cases h2 with
        | cons g3 h2 =>
        cases h2 with
        | cons g4 h2 =>
        cases h2
        rename_i v1 v2 v3 v4
        refine ⟨_, rfl, a, _, 2, v3, rfl, rfl, h1, rfl, ?_⟩
        by_cases ht : isTup d3 = true
        · obtain ⟨cs, rfl⟩ : ∃ cs, d3 = .tuple cs := by
            cases d3 with
            | tuple cs => exact ⟨cs, rfl⟩
            | _ => cases ht
          obtain ⟨b, ys, k1, k2, rfl⟩ : ∃ b ys, SqT K H b ys ∧ DpAll K H ys cs ∧ v3 = .ref b := by
            cases g3 with
            | tup z1 z2 => exact ⟨_, _, z1, z2, rfl⟩
          have kl := DpAll.length _ k2
          refine ⟨_, _, _, _, true, rfl, .ty _, ty_tuple k1, kit_ty (by decide +kernel), _, rfl, iteF ?_⟩
          have szs : SeqAt.shaped (.tuple cs) = true := hz3.shaped (by omega)
          refine ⟨_, rfl, a, _, 2, .ref b, rfl, rfl, h1, rfl, Nat.zero_le _, fun pe hpe => ?_⟩
          have sE := same_upd (o := HO.tup []) hpe
          refine ⟨.tuple cs, .tuple [], Dp.same sE _ _ g3, .tup (SqT.of upd_same) .nil, szs, rfl, _, rfl, ?_⟩
          rw [eqv_nilT]
          have gE : Gro H _ := .of sE
          generalize upd H pe (HO.tup []) = He at sE gE
          have qE := q He gE
          cases ce : cs.isEmpty with
          | true =>
            obtain rfl := List.isEmpty_iff.mp ce
            have e : isMixD (.tuple [d1, d2, .tuple [], d4]) = false := by
              cases d2 with
              | int p =>
                show (isIntD d1 1 && (decide (2 ≤ p) && (arePairsD (.tuple []) p p && (false && _)))) = false
                simp
              | _ => rfl
            rw [e] at qE
            exact iteT qE
          | false =>
          refine iteF ⟨_, rfl, a, _, rfl, Same.tupS sE h1, rfl, _, _, rfl, _, _, rfl, _, _, rfl, _, _, rfl, rfl, ?_⟩
          refine ⟨_, rfl, v1, d1, rfl, Dp.same sE _ _ g1, _, rfl, ?_⟩
          by_cases hd1 : isWholeD d1 = true
          · obtain ⟨i1, rfl⟩ : ∃ i, d1 = .int i := by
              cases d1 with
              | int i => exact ⟨i, rfl⟩
              | _ => cases hd1
            cases g1
            refine iteF ⟨_, rfl, v2, d2, rfl, Dp.same sE _ _ g2, _, rfl, ?_⟩
            by_cases hd2 : isWholeD d2 = true
            · obtain ⟨p, rfl⟩ : ∃ i, d2 = .int i := by
                cases d2 with
                | int i => exact ⟨i, rfl⟩
                | _ => cases hd2
              cases g2
              refine iteF ⟨_, rfl, _, _, rfl, rfl, _, rfl, ?_⟩
              have ncs : cs ≠ [] := fun z => by rw [z] at ce; cases ce
              have nys : ys ≠ [] := fun z => by rw [z] at kl; exact ncs (List.length_eq_zero_iff.mp kl.symm)
              have eM : isMixD (.tuple [.int i1, .int p, .tuple cs, d4]) = (decide (1 ≤ i1) && (decide (2 ≤ p) && (cs ++ [d4]).all fun d => isPairD d p p)) := by
                show (decide (1 ≤ i1) && (decide (2 ≤ p) && ((cs.all fun d => isPairD d p p) && (!cs.isEmpty && isPairD d4 p p)))) = _
                rw [ce, List.all_append]
                show _ = (decide (1 ≤ i1) && (decide (2 ≤ p) && ((cs.all fun d => isPairD d p p) && (isPairD d4 p p && true))))
                rw [Bool.and_true]
                rfl
              clear q0 qE
              have ei : isIntD (.int i1) 1 = decide (1 ≤ i1) := rfl
              refine ite2 (fun h => ?_) (fun h => ?_)
              · have z : i1 < 1 := of_decide_eq_true h
                have qE := q He gE
                rw [eM, decide_eq_false (show ¬ 1 ≤ i1 by omega), Bool.false_and] at qE
                exact iteT qE
              have z1 : 1 ≤ i1 := by
                have := of_decide_eq_false (Bool.not_eq_true _ ▸ h)
                omega
              refine ⟨_, rfl, _, _, rfl, rfl, _, rfl, ite2 (fun h => ?_) (fun h => ?_)⟩
              · have z : p < 2 := of_decide_eq_true h
                have qE := q He gE
                rw [eM, decide_eq_false (show ¬ 2 ≤ p by omega), Bool.false_and, Bool.and_false] at qE
                exact qE
              have z2 : 2 ≤ p := by
                have := of_decide_eq_false (Bool.not_eq_true _ ▸ h)
                omega
              rw [eM, decide_eq_true z1, decide_eq_true z2, Bool.true_and, Bool.true_and] at q
              refine ⟨_, rfl, _, rfl, (by show 1 ≤ sizeLine; decide), fun pu hpu => ?_⟩
              have sU := same_upd (o := HO.tup [v4]) hpu
              refine ⟨b, pu, ys, [v4], rfl, rfl, Same.tupS (sE.trans sU) k1, SqT.of upd_same, ?_, fun z => absurd z nys, (fun _ z => by cases z), fun _ _ pc hpc => ?_⟩
              · have := hz3.1
                exact Nat.le_trans (show ys.length + 1 ≤ 2001 by omega) (by decide)
              have sC := same_upd (o := HO.tup (ys ++ [v4])) hpc
              have gC : Gro H _ := .of ((sE.trans sU).trans sC)
              have kC : SqT K _ pc (ys ++ [v4]) := SqT.of (upd_same (H := upd He pu (HO.tup [v4])) (o := HO.tup (ys ++ [v4])))
              have kD : DpAll K H (ys ++ [v4]) (cs ++ [d4]) := DpAll.app (.cons g4 .nil) k2
              have hzA : ∀ d ∈ cs ++ [d4], Sz 2000 19 d := fun d hd => by
                rcases List.mem_append.mp hd with h | h
                · exact Sz.mono (n := 18) (Nat.le_refl _) (hz3.2 d h) (by decide)
                · rw [List.mem_singleton.mp h]; exact hz4
              generalize upd (upd He pu (HO.tup [v4])) pc (HO.tup (ys ++ [v4])) = Hc at sC gC kC
              generalize ys ++ [v4] = us at kC kD
              generalize cs ++ [d4] = ns at kD hzA q
              have ln := DpAll.length _ kD
              refine ⟨pc, rfl, ⟨_, kC⟩, ?_⟩
              refine for_tup (xs := us) (fun i σ H' => ∃ z5 z6 : Option V, σ = [some (.ref a), some (.int i1), some (.int p), some (.ref b), some v4, z5, z6] ∧ Gro Hc H' ∧ ((ns.take i).all fun d => isPairD d p p) = true) ⟨none, none, rfl, Gro.refl _, rfl⟩ (fun i σ H' _ hP => ?_) (fun i u σ H' eu hP => ?_) (fun σ H' hP => ?_)
              · obtain ⟨_, _, _, gP, _⟩ := hP
                exact gP.tupS kC
              · obtain ⟨z5, z6, rfl, gP, aP⟩ := hP
                have hin : i < ns.length := by
                  have := (List.getElem?_eq_some_iff.mp eu).1
                  omega
                obtain ⟨u2, eu2, du⟩ := DpAll.get _ kD (i := i) (d := ns[i]) (List.getElem?_eq_getElem hin)
                obtain rfl : u = u2 := Option.some.inj (eu.symm.trans eu2)
                have hzu := hzA _ (List.getElem_mem hin)
                have enx : ∀ b, isPairD ns[i] p p = b → ((ns.take (i + 1)).all fun d => isPairD d p p) = b := fun b e => by
                  rw [List.take_add_one, List.getElem?_eq_getElem hin, List.all_append, aP, Bool.true_and]
                  show (isPairD ns[i] p p && true) = b
                  rw [e, Bool.and_true]
                have enf : isPairD ns[i] p p = false → (ns.all fun d => isPairD d p p) = false := fun e => by
                  rw [List.all_eq_false]
                  exact ⟨_, List.getElem_mem hin, by rw [e]; exact Bool.false_ne_true⟩
                generalize ns[i] = d at du hzu enx enf
                have gD := gC.trans gP
                have du2 := Dp.gro gD _ _ du
                have bad : isPairD d p p = false → Q (.bl false) H' := fun e => by
                  have qE := q _ gD
                  rw [enf e] at qE
                  exact qE
                by_cases ht2 : isTup d = true
                · obtain ⟨es, rfl⟩ : ∃ cs, d = .tuple cs := by
                    cases d with
                    | tuple cs => exact ⟨cs, rfl⟩
                    | _ => cases ht2
                  obtain ⟨e0, ws, k5, k6, rfl⟩ : ∃ b ys, SqT K H' b ys ∧ DpAll K H' ys es ∧ u = .ref b := by
                    cases du2 with
                    | tup z1 z2 => exact ⟨_, _, z1, z2, rfl⟩
                  have le := DpAll.length _ k6
                  refine ⟨_, rfl, _, _, _, _, true, rfl, .ty _, ty_tuple k5, kit_ty (by decide +kernel), _, rfl, iteF ⟨_, rfl, e0, _, rfl, .inr k5, rfl, _, rfl, ite2 (fun h => ?_) (fun h => ?_)⟩⟩
                  · have nl : es.length ≠ 2 := fun z => by
                      rw [le, z] at h
                      exact absurd h (by decide)
                    refine bad ?_
                    match es, nl with
                    | [], _ => rfl
                    | [_], _ => rfl
                    | [_, _], n => exact absurd rfl n
                    | _ :: _ :: _ :: _, _ => rfl
                  have l2 : es.length = 2 := by
                    cases w : decide (V.int (ws.length : Int) = V.int 2) with
                    | true =>
                      have z := V.int.inj (of_decide_eq_true w)
                      omega
                    | false => exact absurd (by show (!decide (V.int (ws.length : Int) = V.int 2)) = true; rw [w]; rfl) h
                  have eP2 : isPairD (.tuple es) p p = es.all fun e => isBelowD e p := by
                    match es, l2 with
                    | [x, y], _ =>
                      show (isBelowD x p && isBelowD y p) = (isBelowD x p && (isBelowD y p && true))
                      rw [Bool.and_true]
                  refine ⟨_, rfl, e0, rfl, ⟨_, k5⟩, fun D hD => ?_⟩
                  refine lc_it (walk_tup (xs := ws)) (fun j H'' => ∃ (vs : List V) (fs : List PyData), Gro H' H'' ∧ H'' D = some (.lst vs) ∧ DpAll K H' vs fs ∧ (∀ z ∈ fs, z ∈ es) ∧ fs.length ≤ j ∧ fs.isEmpty = (es.take j).all fun e => isBelowD e p) ⟨[], [], .of (same_upd hD), upd_same, .nil, (fun z h => absurd h List.not_mem_nil), Nat.le_refl _, rfl⟩ (fun j H'' _ hP => ?_) (fun j v H'' H3 hj hP yl => ?_) (fun H'' hP => ?_)
                  · obtain ⟨_, _, g7, _⟩ := hP
                    exact g7.tupS k5
                  · obtain ⟨vs, fs, g7, eP, dP, mP, lP, nP⟩ := hP
                    obtain ⟨rfl, ev⟩ := yl
                    have hjn : j < es.length := by omega
                    have lv := DpAll.length _ dP
                    obtain ⟨v2', ev2, dv⟩ := DpAll.get _ k6 (i := j) (d := es[j]) (List.getElem?_eq_getElem hjn)
                    obtain rfl : v = v2' := Option.some.inj (ev.symm.trans ev2)
                    have dv3 := Dp.gro g7 _ _ dv
                    have nxe : ((es.take (j + 1)).all fun e => isBelowD e p) = (fs.isEmpty && isBelowD es[j] p) := by
                      rw [List.take_add_one, List.getElem?_eq_getElem hjn, List.all_append, nP]
                      show (_ && (isBelowD es[j] p && true)) = _
                      rw [Bool.and_true]
                    have gY : ∀ v, Gro H' (upd H3 D (.lst (vs ++ [v]))) := fun v u o e => (g7 u o e).imp fun o' z => ⟨by rw [upd_ne (fun q => by rw [q, hD] at e; cases e)]; exact z.1, z.2⟩
                    refine ⟨rfl, _, rfl, v, es[j], rfl, dv3, _, rfl, ?_⟩
                    cases hb : isBelowD es[j] p with
                    | true =>
                      obtain ⟨i3, e3⟩ : ∃ i, es[j] = .int i := by
                        cases z : es[j] with
                        | int i => exact ⟨i, rfl⟩
                        | _ => rw [z] at hb; cases hb
                      rw [e3] at dv3 hb ⊢
                      cases dv3
                      have hb2 : (decide (0 ≤ i3) && decide (i3 < p)) = true := hb
                      have hb3 := hb2
                      rw [Bool.and_eq_true, decide_eq_true_iff, decide_eq_true_iff] at hb2
                      have t1 : decide (i3 < 0) = false := decide_eq_false (by omega)
                      have t2 : decide (p ≤ i3) = false := decide_eq_false (by omega)
                      refine iteF ⟨_, rfl, _, _, rfl, rfl, _, rfl, ?_⟩
                      rw [t1]
                      refine iteF ⟨_, rfl, _, rfl, _, _, rfl, rfl, _, rfl, ?_⟩
                      rw [t2]
                      exact iteF ⟨vs, fs, g7, eP, dP, mP, by omega, by rw [nxe, e3]; show _ = (_ && (decide (0 ≤ i3) && decide (i3 < p))); rw [hb3, Bool.and_true]⟩
                    | false =>
                      by_cases hw : isWholeD es[j] = true
                      · obtain ⟨i3, e3⟩ : ∃ i, es[j] = .int i := by
                          cases z : es[j] with
                          | int i => exact ⟨i, rfl⟩
                          | _ => rw [z] at hw; cases hw
                        rw [e3] at dv3 
                        cases dv3
                        have hb2 : (decide (0 ≤ i3) && decide (i3 < p)) = false := by rw [e3] at hb; exact hb
                        rw [hw]
                        refine iteF ⟨_, rfl, _, _, rfl, rfl, _, rfl, ite2 (fun _ => iteT ⟨_, rfl, vs, eP, Nat.lt_of_lt_of_le (by omega : vs.length < 100) (by decide), vs ++ [_], fs ++ [es[j]], gY _, upd_same, DpAll.app (.cons dv .nil) dP, fun z hz => by
                          rcases List.mem_append.mp hz with h | h
                          · exact mP z h
                          · rw [List.mem_singleton.mp h]; exact List.getElem_mem hjn, by rw [List.length_append]; exact Nat.succ_le_succ lP, by rw [nxe, hb]; cases fs <;> rfl⟩) (fun h => ?_)⟩
                        have t1 : 0 ≤ i3 := by
                          have := of_decide_eq_false (Bool.not_eq_true _ ▸ h)
                          omega
                        rw [decide_eq_true t1, Bool.true_and] at hb2
                        have t2 : decide (p ≤ i3) = true := decide_eq_true (by have := of_decide_eq_false hb2; omega)
                        refine ⟨_, rfl, _, rfl, _, _, rfl, rfl, _, rfl, ?_⟩
                        rw [t2]
                        exact iteT ⟨_, rfl, vs, eP, Nat.lt_of_lt_of_le (by omega : vs.length < 100) (by decide), vs ++ [_], fs ++ [es[j]], gY _, upd_same, DpAll.app (.cons dv .nil) dP, fun z hz => by
                          rcases List.mem_append.mp hz with h | h
                          · exact mP z h
                          · rw [List.mem_singleton.mp h]; exact List.getElem_mem hjn, by rw [List.length_append]; exact Nat.succ_le_succ lP, by rw [nxe, hb]; cases fs <;> rfl⟩
                      · have e2 : isWholeD es[j] = false := by
                          cases z : isWholeD es[j] with
                          | false => rfl
                          | true => exact absurd z hw
                        rw [e2]
                        exact iteT (iteT ⟨_, rfl, vs, eP, Nat.lt_of_lt_of_le (by omega : vs.length < 100) (by decide), vs ++ [_], fs ++ [es[j]], gY _, upd_same, DpAll.app (.cons dv .nil) dP, fun z hz => by
                          rcases List.mem_append.mp hz with h | h
                          · exact mP z h
                          · rw [List.mem_singleton.mp h]; exact List.getElem_mem hjn, by rw [List.length_append]; exact Nat.succ_le_succ lP, by rw [nxe, hb]; cases fs <;> rfl⟩)
                  · obtain ⟨vs, fs, g7, eP, dP, mP, lP, nP⟩ := hP
                    rw [le, List.take_length, ← eP2] at nP
                    rw [le] at lP
                    refine ⟨Nat.zero_le _, fun pz hpz => ?_⟩
                    have sZ := same_upd (o := HO.lst []) hpz
                    have hsz : Sz 2000 20 (.list fs) := ⟨by omega, fun e he => Sz.mono (n := 18) (Nat.le_refl _) (hzu.2 e (mP e he)) (by decide)⟩
                    refine ⟨.list fs, .list [], .lst (Same.seq sZ (SqL.of eP)) (DpAll.same sZ _ _ (DpAll.gro g7 _ _ dP)), .lst (SqL.of upd_same) .nil, hsz.shaped (by omega), rfl, _, rfl, ?_⟩
                    rw [eqv_nil, nP]
                    have gz := (gP.trans g7).trans (.of sZ)
                    cases hb : isPairD (.tuple es) p p with
                    | false =>
                      have qE := q _ (gC.trans gz)
                      rw [enf hb] at qE
                      exact iteT qE
                    | true => exact iteF ⟨_, _, rfl, gz, enx _ hb⟩
                · refine ⟨_, rfl, _, _, _, _, false, rfl, .ty _, ty_data du2, kit_ty ?_, _, rfl, iteT (iteT (bad ?_))⟩
                  · rw [kit_tup]
                    cases z : isTup d with
                    | true => exact absurd z ht2
                    | false => rfl
                  · cases d with
                    | tuple _ => exact absurd rfl ht2
                    | _ => rfl
              · obtain ⟨z5, z6, rfl, gP, aP⟩ := hP
                rw [ln, List.take_length] at aP
                have qE := q _ (gC.trans gP)
                rw [aP] at qE
                exact qE
            · have e : isMixD (.tuple [.int i1, d2, .tuple cs, d4]) = false := by
                cases d2 with
                | int i => exact absurd rfl hd2
                | _ => rfl
              have e2 : isWholeD d2 = false := by
                cases z : isWholeD d2 with
                | false => rfl
                | true => exact absurd z hd2
              rw [e] at qE
              rw [e2]
              exact iteT (iteT qE)
          · have e : isMixD (.tuple [d1, d2, .tuple cs, d4]) = false := mix_1 (by
                cases d1 with
                | int i => exact absurd rfl hd1
                | _ => rfl)
            have e2 : isWholeD d1 = false := by
              cases z : isWholeD d1 with
              | false => rfl
              | true => exact absurd z hd1
            rw [e] at qE
            rw [e2]
            exact iteT (iteT qE)
        · have e : isMixD (.tuple [d1, d2, d3, d4]) = false := by
            cases d2 with
            | int p =>
              have e3 : arePairsD d3 p p = false := by
                cases d3 with
                | tuple cs => exact absurd rfl ht
                | _ => rfl
              show (isIntD d1 1 && (decide (2 ≤ p) && (arePairsD d3 p p && _))) = false
              rw [e3, Bool.false_and, Bool.and_false, Bool.and_false]
            | _ => rfl
          rw [e] at q0
          refine ⟨_, _, _, _, false, rfl, .ty _, ty_data g3, kit_ty ?_, _, rfl, iteT (iteT q0)⟩
          rw [kit_tup]
          cases z : isTup d3 with
          | true => exact absurd z ht
          | false => rfl
theorem ok__law_put (T : Top K mg) (c__law_pick : CalD P w K mg base 1 "_law_pick" s__law_pick ["stock", "many"] spDip) : ∀ n : Nat, CalD P w K mg base (n + 2) "_law_put" s__law_put ["stock", "item", "p", "deep"] (spPut K n) := by
  intro n
  induction n with
  | zero =>
    refine cal_mk T.d__law_put sc__law_put (fun _ _ _ _ _ _ us hl => match us, hl with | [_, _, _, _], _ => rfl) (fun vs H Q E h => ?_) (fun f cdv A outer s H vs Q E hr h => ?_)
    · obtain ⟨a, k, p, deep, L, N, x, d, rfl, _⟩ := h
      rfl
    · obtain ⟨a, k, p, deep, L, N, x, d, rfl, _, _, _, _, _, _, _, hd, _⟩ := h
      exact absurd hd (Nat.not_lt_zero _)
  | succ n ih =>
  have c__law_put := ih
  refine cal_mk T.d__law_put sc__law_put (fun _ _ _ _ _ _ us hl => match us, hl with | [_, _, _, _], _ => rfl) (fun vs H Q E h => ?_) (fun f cdv A outer s H vs Q E hr h => ?_)
  · obtain ⟨a, k, p, deep, L, N, x, d, rfl, _⟩ := h
    rfl
  · obtain ⟨a, k, p, deep, L, N, x, d, rfl, hW, hk, hx, hZ, hL1, hL, hN, hdp, q⟩ := h
    refine ⟨_, (pss_cons (ps_set (i := 4) sc__law_put.nd rfl (Or.inl rfl) (pe_lst (pa_cons pe_non (pa_cons pe_bl (pa_cons pe_bl (pa_cons (pe_un un_neg pe_int) (pa_cons pe_int (pa_cons pe_int (pa_cons (pv 2) (pa_cons (pe_op op_sub (pv 2) pe_int) (pa_cons (pe_op op_add (pv 2) pe_int) (pa_cons (pe_tup pa_nil) (pa_cons (pe_lst pa_nil) (pa_cons pe_str (pa_cons (pe_tup (pa_cons pe_int (pa_cons pe_int pa_nil))) (pa_cons (pe_tup (pa_cons pe_int pa_nil)) (pa_cons (pe_tup (pa_cons pe_int (pa_cons pe_int (pa_cons pe_int pa_nil)))) pa_nil)))))))))))))))))
  (pss_cons (ps_if (PW.pt (pw_or (pt_not (pt_val (pe_callB call_isi (by rfl) T.z_isinstance (by decide +kernel) (pa_cons (pv 1) (pa_cons (pe_bltn (v := .ty "tuple") (by rfl) T.z_tuple (by decide +kernel) rfl) pa_nil))))) (pw_or (pt_cmpR (op_eqD hr.units) (pv 1) (pe_tup pa_nil) (nomark _)) (pw_or1 (pt_cmpR op_eq (pv 3) pe_int (nomark _)))))) (pss_one (ps_ret (pe_ix ix_list (pv 4) (pe_f c__law_pick hr (by omega) (by rfl) (pa_cons (pv 0) (pa_cons pe_int pa_nil))) (fun _ _ => rfl)))) pss_nil)
  (pss_cons (ps_par (i := 5) (j := 6) rfl sc__law_put.nd rfl rfl (by decide) rfl rfl (pa_cons (pe_f c__law_pick hr (by omega) (by rfl) (pa_cons (pv 0) (pa_cons (pe_callB call_len_seq (by rfl) T.z_len PySem.boot_len (pa_cons (pv 1) pa_nil)) pa_nil))) (pa_cons (pe_f c__law_pick hr (by omega) (by rfl) (pa_cons (pv 0) (pa_cons pe_int pa_nil))) pa_nil)) (by rfl))
  (pss_cons (ps_if (pt_cmpR op_eq (pv 6) pe_int (nomark _)) (pss_one (ps_ret (pe_op op_catA (pe_slice sl_tupA (pv 1) po_none (po_some (pv 5))) (pe_slice sl_tupA (pv 1) (po_some (pe_op op_add (pv 5) pe_int)) po_none)))) pss_nil)
  (pss_cons (ps_if (pt_cmpR op_eq (pv 6) pe_int (nomark _)) (pss_one (ps_ret (pe_op op_catA (pe_op op_catA (pe_slice sl_tupA (pv 1) po_none (po_some (pv 5))) (pe_tup (pa_cons (pe_ix ix_tup (pv 1) (pv 5) (fun _ _ => rfl)) pa_nil))) (pe_slice sl_tupA (pv 1) (po_some (pv 5)) po_none)))) pss_nil)
  (pss_cons (ps_if (pt_cmpR op_eq (pv 6) pe_int (nomark _)) (pss_one (ps_ret (pe_callTy call_list_of (by rfl) T.z_list (by decide +kernel) (pa_cons (pv 1) pa_nil)))) pss_nil)
  (pss_cons (ps_if (pt_cmpR op_eq (pv 6) pe_int (nomark _)) (pss_one (ps_ret (pe_revT (pv 1)))) pss_nil)
  (pss_one (ps_ret (pe_op op_catA (pe_op op_catA (pe_slice sl_tupA (pv 1) po_none (po_some (pv 5))) (pe_tup (pa_cons (pe_f c__law_put hr (by omega) (by rfl) (pa_cons (pv 0) (pa_cons (pe_ix ix_tup (pv 1) (pv 5) (fun _ _ => rfl)) (pa_cons (pv 2) (pa_cons (pe_op op_sub (pv 3) pe_int) pa_nil))))) pa_nil))) (pe_slice sl_tupA (pv 1) (po_some (pe_op op_add (pv 5) pe_int)) po_none))))))))))), ?_⟩
    refine ⟨_, rfl, _, rfl, _, rfl, ?_⟩
    refine ⟨_, _, rfl, rfl, _, rfl, _, _, rfl, rfl, Nat.zero_le _, fun p1 h1 => ⟨Nat.zero_le _, fun p2 h2 => ⟨(by show 2 ≤ sizeLine; decide), fun p3 h3 => ⟨(by show 1 ≤ sizeLine; decide), fun p4 h4 => ⟨(by show 3 ≤ sizeLine; decide), fun p5 h5 => ⟨(by show 15 ≤ sizeLine; decide), fun O hO => ?_⟩⟩⟩⟩⟩⟩
    have s1 := same_upd (o := HO.tup []) h1
    have s2 := same_upd (o := HO.lst []) h2
    have s3 := same_upd (o := HO.tup [V.int 0, V.int 0]) h3
    have s4 := same_upd (o := HO.tup [V.int 0]) h4
    have s5 := same_upd (o := HO.tup [V.int 0, V.int 0, V.int 0]) h5
    have n2 := (hW.same s1).ne h2
    have w5 := ((((hW.same s1).same s2).same s3).same s4).same s5
    have nO := w5.ne hO
    have d1 : DpN K (upd H p1 (HO.tup [])) a (.ref p1) (.tuple []) := .tup (SqT.of upd_same) .nil
    have d2 : DpN K (upd (upd H p1 (HO.tup [])) p2 (HO.lst [])) a (.ref p2) (.list []) := .lst (SqL.of upd_same) n2 .nil
    have d3 : DpN K (upd (upd (upd H p1 (HO.tup [])) p2 (HO.lst [])) p3 (HO.tup [V.int 0, V.int 0])) a (.ref p3) (.tuple [.int 0, .int 0]) := .tup (SqT.of upd_same) (.cons (.int _) (.cons (.int _) .nil))
    have d4 : DpN K (upd (upd (upd (upd H p1 (HO.tup [])) p2 (HO.lst [])) p3 (HO.tup [V.int 0, V.int 0])) p4 (HO.tup [V.int 0])) a (.ref p4) (.tuple [.int 0]) := .tup (SqT.of upd_same) (.cons (.int _) .nil)
    have d5 : DpN K (upd (upd (upd (upd (upd H p1 (HO.tup [])) p2 (HO.lst [])) p3 (HO.tup [V.int 0, V.int 0])) p4 (HO.tup [V.int 0])) p5 (HO.tup [V.int 0, V.int 0, V.int 0])) a (.ref p5) (.tuple [.int 0, .int 0, .int 0]) := .tup (SqT.of upd_same) (.cons (.int _) (.cons (.int _) (.cons (.int _) .nil)))
    have g2 := Gro.of s2
    have g3 := Gro.of s3
    have g4 := Gro.of s4
    have g5 := Gro.of s5
    have g0 : Gro H _ := ((((Gro.of s1).trans g2).trans g3).trans g4).trans g5
    have dA : DpNAll K _ a [V.non, V.bl true, V.bl false, V.int (-1), V.int 0, V.int 1, V.int (p : Int), V.int ((p : Int) - 1), V.int ((p : Int) + 1), V.ref p1, V.ref p2, V.str (Str.ofString "7"), V.ref p3, V.ref p4, V.ref p5] [.none, .bool true, .bool false, .int (-1), .int 0, .int 1, .int (p : Int), .int ((p : Int) - 1), .int ((p : Int) + 1), .tuple [], .list [], .str (Str.ofString "7"), .tuple [.int 0, .int 0], .tuple [.int 0], .tuple [.int 0, .int 0, .int 0]] := .cons .non (.cons (.bl _) (.cons (.bl _) (.cons (.int _) (.cons (.int _) (.cons (.int _) (.cons (.int _) (.cons (.int _) (.cons (.int _) (.cons (d1.gro (((g2.trans g3).trans g4).trans g5)) (.cons (d2.gro ((g3.trans g4).trans g5)) (.cons (.str _) (.cons (d3.gro (g4.trans g5)) (.cons (d4.gro g5) (.cons d5 .nil))))))))))))))
    have zA : ∀ e ∈ ([.none, .bool true, .bool false, .int (-1), .int 0, .int 1, .int (p : Int), .int ((p : Int) - 1), .int ((p : Int) + 1), .tuple [], .list [], .str (Str.ofString "7"), .tuple [.int 0, .int 0], .tuple [.int 0], .tuple [.int 0, .int 0, .int 0]] : List PyData), Sz 3 1 e := fun e he => by
      simp only [List.mem_cons, List.not_mem_nil, or_false] at he
      rcases he with rfl | rfl | rfl | rfl | rfl | rfl | rfl | rfl | rfl | rfl | rfl | rfl | rfl | rfl | rfl
      · exact trivial
      · exact trivial
      · exact trivial
      · exact trivial
      · exact trivial
      · exact trivial
      · exact trivial
      · exact trivial
      · exact trivial
      · exact ⟨Nat.zero_le _, fun _ h => absurd h List.not_mem_nil⟩
      · exact ⟨Nat.zero_le _, fun _ h => absurd h List.not_mem_nil⟩
      · show PyData.canLay0 (.str (Str.ofString "7")) = true
        decide +kernel
      · refine ⟨by show 2 ≤ 3; decide, fun e he => ?_⟩
        simp only [List.mem_cons, List.not_mem_nil, or_false, or_self] at he
        rw [he]; exact trivial
      · refine ⟨by show 1 ≤ 3; decide, fun e he => ?_⟩
        simp only [List.mem_cons, List.not_mem_nil, or_false, or_self] at he
        rw [he]; exact trivial
      · refine ⟨by show 3 ≤ 3; decide, fun e he => ?_⟩
        simp only [List.mem_cons, List.not_mem_nil, or_false, or_self] at he
        rw [he]; exact trivial
    have g6 : Gro _ _ := .of (same_upd (o := HO.lst [V.non, V.bl true, V.bl false, V.int (-1), V.int 0, V.int 1, V.int (p : Int), V.int ((p : Int) - 1), V.int ((p : Int) + 1), V.ref p1, V.ref p2, V.str (Str.ofString "7"), V.ref p3, V.ref p4, V.ref p5]) hO)
    have w6 := w5.same (same_upd (o := HO.lst [V.non, V.bl true, V.bl false, V.int (-1), V.int 0, V.int 1, V.int (p : Int), V.int ((p : Int) - 1), V.int ((p : Int) + 1), V.ref p1, V.ref p2, V.str (Str.ofString "7"), V.ref p3, V.ref p4, V.ref p5]) hO)
    have dA6 := dA.gro g6
    have g06 := g0.trans g6
    have eO : upd _ O (HO.lst [V.non, V.bl true, V.bl false, V.int (-1), V.int 0, V.int 1, V.int (p : Int), V.int ((p : Int) - 1), V.int ((p : Int) + 1), V.ref p1, V.ref p2, V.str (Str.ofString "7"), V.ref p3, V.ref p4, V.ref p5]) O = some (HO.lst [V.non, V.bl true, V.bl false, V.int (-1), V.int 0, V.int 1, V.int (p : Int), V.int ((p : Int) - 1), V.int ((p : Int) + 1), V.ref p1, V.ref p2, V.str (Str.ofString "7"), V.ref p3, V.ref p4, V.ref p5]) := upd_same (H := upd (upd (upd (upd (upd H p1 (HO.tup [])) p2 (HO.lst [])) p3 (HO.tup [V.int 0, V.int 0])) p4 (HO.tup [V.int 0])) p5 (HO.tup [V.int 0, V.int 0, V.int 0]))
    have l15 : ([.none, .bool true, .bool false, .int (-1), .int 0, .int 1, .int (p : Int), .int ((p : Int) - 1), .int ((p : Int) + 1), .tuple [], .list [], .str (Str.ofString "7"), .tuple [.int 0, .int 0], .tuple [.int 0], .tuple [.int 0, .int 0, .int 0]] : List PyData).length = 15 := rfl
    show tSeq _ _ _ [some (V.ref a), some x, some (V.int (p : Int)), some (V.int (deep : Int)), some (V.ref O), none, none] (upd (upd (upd (upd (upd (upd H p1 (HO.tup [])) p2 (HO.lst [])) p3 (HO.tup [V.int 0, V.int 0])) p4 (HO.tup [V.int 0])) p5 (HO.tup [V.int 0, V.int 0, V.int 0])) O (HO.lst [V.non, V.bl true, V.bl false, V.int (-1), V.int 0, V.int 1, V.int (p : Int), V.int ((p : Int) - 1), V.int ((p : Int) + 1), V.ref p1, V.ref p2, V.str (Str.ofString "7"), V.ref p3, V.ref p4, V.ref p5]))
    generalize ([.none, .bool true, .bool false, .int (-1), .int 0, .int 1, .int (p : Int), .int ((p : Int) - 1), .int ((p : Int) + 1), .tuple [], .list [], .str (Str.ofString "7"), .tuple [.int 0, .int 0], .tuple [.int 0], .tuple [.int 0, .int 0, .int 0]] : List PyData) = os at dA6 zA l15
    generalize [V.non, V.bl true, V.bl false, V.int (-1), V.int 0, V.int 1, V.int (p : Int), V.int ((p : Int) - 1), V.int ((p : Int) + 1), V.ref p1, V.ref p2, V.str (Str.ofString "7"), V.ref p3, V.ref p4, V.ref p5] = vs at dA6 eO g6 w6 g06 ⊢
    generalize upd (upd (upd (upd (upd (upd H p1 (HO.tup [])) p2 (HO.lst [])) p3 (HO.tup [V.int 0, V.int 0])) p4 (HO.tup [V.int 0])) p5 (HO.tup [V.int 0, V.int 0, V.int 0])) O (HO.lst vs) = H6 at dA6 eO g6 w6 g06 ⊢
    clear dA d1 d2 d3 d4 d5 g2 g3 g4 g5 g0 g6 s1 s2 s3 s4 s5 w5 n2 h1 h2 h3 h4 h5 hO
    have lv := (DpNAll.length dA6).trans l15
    have base : ∀ H7, Gro H6 H7 → tOp (rIxL K) (tVar 4) (tCall spDip [] E0 (tCons (tVar 0) (tCons (tC (V.int 15)) tNil))) [some (V.ref a), some x, some (V.int (p : Int)), some (V.int (deep : Int)), some (V.ref O), none, none] H7 Q := by
      intro H7 g7
      have w7 := w6.gro g7
      refine ⟨_, rfl, _, rfl, a, 15, _, rfl, w7, by omega, by decide, by decide, fun j H8 hj o8 w8 => ?_⟩
      have e8 := o8 O _ nO (g7.at eO)
      obtain ⟨v, ev, dv⟩ := DpNAll.get dA6 (i := j) (d := os[j]) (List.getElem?_eq_getElem (by omega))
      have o68 : OffG a H6 H8 := (OffG.of g7).trans (.off o8)
      refine ⟨O, vs, (j : Int), v, rfl, rfl, SqL.of e8, (by rw [atI_nat ev]), ?_⟩
      exact q H8 v _ ((OffG.of g06).trans o68) (w8.mono (by omega)) (DpN.off o68 (Tup.well o68 w6) _ _ dv) (Sz.mono (L := 3) (n := 1) (by omega) (zA _ (List.getElem_mem _)) (by omega))
    have x6 := hx.gro g06
    by_cases ht : isTup d = true
    · obtain ⟨ds, rfl⟩ : ∃ cs, d = .tuple cs := by
        cases d with
        | tuple cs => exact ⟨cs, rfl⟩
        | _ => cases ht
      obtain ⟨b, xs, k1, k2, rfl⟩ : ∃ b xs, SqT K H6 b xs ∧ DpNAll K H6 a xs ds ∧ x = .ref b := by
        cases x6 with
        | tup z1 z2 => exact ⟨_, _, z1, z2, rfl⟩
      have le := k2.length
      refine ⟨_, rfl, _, _, _, _, true, rfl, .ty _, ty_tuple k1, kit_ty (by decide +kernel), _, rfl, iteF ?_⟩
      refine ⟨_, rfl, Nat.zero_le _, fun pe hpe => ?_⟩
      have sE := same_upd (o := HO.tup []) hpe
      have gE := Gro.of sE
      refine ⟨.tuple ds, .tuple [], Dp.same sE _ _ (DpN.dp _ _ x6), .tup (SqT.of upd_same) .nil, hZ.shaped (by omega), rfl, _, rfl, ?_⟩
      rw [eqv_nilT]
      cases ce : ds.isEmpty with
      | true => exact iteT (base _ gE)
      | false =>
      refine iteF ⟨_, rfl, rfl, _, rfl, ite2 (fun _ => base _ gE) (fun hdeep => ?_)⟩
      have nd : ds ≠ [] := fun z => by rw [z] at ce; cases ce
      have hlp : 0 < ds.length := List.length_pos_iff.mpr nd
      obtain ⟨M, rfl, hlen, hall⟩ : ∃ M, N = M + 1 ∧ ds.length ≤ L ∧ ∀ e ∈ ds, Sz L M e := by
        cases N with
        | zero => exact hZ.elim
        | succ M => exact ⟨M, rfl, hZ.1, hZ.2⟩
      obtain ⟨e, rfl⟩ : ∃ e, deep = e + 1 := by
        cases deep with
        | zero => exact absurd (decide_eq_true rfl) hdeep
        | succ e => exact ⟨e, rfl⟩
      have lim : ∀ {n : Nat}, n ≤ 5000 → n ≤ sizeLine := fun h => Nat.le_trans h (by decide)
      have w7 := w6.gro gE
      refine ⟨_, rfl, _, rfl, b, _, rfl, .inr (gE.tupS k1), a, xs.length, _, rfl, w7, by omega, by omega, Nat.lt_of_le_of_lt (by omega : xs.length ≤ 900) (by decide), fun at_ HA hat oA wA => ⟨_, rfl, a, 9, _, rfl, wA, by omega, by decide, by decide, fun way HB hway oB wB => ⟨_, _, rfl, ?_⟩⟩⟩
      have o6B : OffG a H6 HB := (OffG.of gE).trans ((OffG.off oA).trans (.off oB))
      have t6B := Tup.well o6B w6
      have kB := t6B.sqt k1
      have k2B := DpNAll.off o6B t6B _ _ k2
      have oB0 := (OffG.of g06).trans o6B
      clear oA oB wA w7 hpe sE gE base
      have fin : ∀ (H' : Hp) (pp : Addr) (vs' : List V) (es : List PyData), Gro HB H' → SqT K H' pp vs' → DpNAll K HB a vs' es → es.length ≤ 2 * L + 1 → (∀ e ∈ es, Sz L M e) → Q (.ref pp) H' := fun H' pp vs' es g s d l m => q H' (.ref pp) (.tuple es) (oB0.trans (.of g)) ((wB.gro g).mono (by omega)) (.tup s (d.gro g)) ⟨l, fun e he => Sz.mono (by omega) (m e he) (by omega)⟩
      have c1 := cutV_length xs none (some (at_ : Int))
      obtain ⟨l1, e1, n1, m1⟩ := k2B.cut none (some (at_ : Int))
      have hatd : at_ < ds.length := by omega
      obtain ⟨v, ev, dv⟩ := DpNAll.get k2B (i := at_) (d := ds[at_]) (List.getElem?_eq_getElem hatd)
      have hmv := List.getElem_mem hatd
      refine ⟨_, rfl, rfl, _, rfl, ite2 (fun _ => ?_) (fun _ => ?_)⟩
      · refine ⟨_, rfl, _, rfl, (at_ : Int), rfl, sl_of kB fun p1 H3 g3 s3 => ⟨_, rfl, _, rfl, _, _, rfl, rfl, _, rfl, ?_⟩⟩
        dsimp only [tNoPart]
        refine sl_of (g3.tupS kB) fun p2 H4 g4 s4 => cat_of (g4.tupS s3) s4 (lim ?_) fun p3 H5 g5 s5 => ?_
        · have := cutV_length xs (some ((at_ : Int) + 1)) none
          omega
        obtain ⟨l2, e2, n2, m2⟩ := k2B.cut (some ((at_ : Int) + 1)) none
        refine fin H5 p3 _ (l1 ++ l2) ((g3.trans g4).trans g5) s5 (DpNAll.app e2 e1) (by rw [List.length_append]; omega) fun e he => ?_
        rcases List.mem_append.mp he with h | h
        · exact hall e (m1 e h)
        · exact hall e (m2 e h)
      refine ⟨_, rfl, rfl, _, rfl, ite2 (fun _ => ?_) (fun _ => ?_)⟩
      · refine ⟨_, rfl, _, rfl, (at_ : Int), rfl, sl_of kB fun p1 H3 g3 s3 => ⟨_, rfl, _, rfl, b, _, (at_ : Int), v, rfl, rfl, g3.tupS kB, (by rw [atI_nat ev]), (by show 1 ≤ sizeLine; decide), fun p2 hp2 => ?_⟩⟩
        have g4 := Gro.of (same_upd (o := HO.tup [v]) hp2)
        refine cat_of (g4.tupS s3) (SqT.of upd_same) (lim ?_) fun p3 H5 g5 s5 => ⟨_, rfl, _, rfl, _, rfl, ?_⟩
        · show (cutV xs none (some (at_ : Int))).length + 1 ≤ 5000
          omega
        dsimp only [tNoPart]
        have g35 := (g3.trans g4).trans g5
        refine sl_of (g35.tupS kB) fun p4 H6' g6 s6 => cat_of (g6.tupS s5) s6 (lim ?_) fun p5 H7 g7 s7 => ?_
        · have := cutV_length xs (some (at_ : Int)) none
          rw [List.length_append]
          show (cutV xs none (some (at_ : Int))).length + 1 + _ ≤ 5000
          omega
        obtain ⟨l2, e2, n2, m2⟩ := k2B.cut (some (at_ : Int)) none
        refine fin H7 p5 _ ((l1 ++ [ds[at_]]) ++ l2) ((g35.trans g6).trans g7) s7 (DpNAll.app e2 (DpNAll.app (.cons dv .nil) e1)) (by rw [List.length_append, List.length_append]; show l1.length + 1 + l2.length ≤ _; omega) fun e he => ?_
        rcases List.mem_append.mp he with h | h
        · rcases List.mem_append.mp h with h | h
          · exact hall e (m1 e h)
          · rw [List.mem_singleton.mp h]; exact hall _ hmv
        · exact hall e (m2 e h)
      refine ⟨_, rfl, rfl, _, rfl, ite2 (fun _ => ?_) (fun _ => ?_)⟩
      · refine ⟨_, rfl, b, xs, rfl, .inr kB, fun l hl => ?_⟩
        have gl := Gro.of (same_upd (o := HO.lst xs) hl)
        exact q _ _ (.list ds) (oB0.trans (.of gl)) ((wB.gro gl).mono (by omega)) (.lst (SqL.of upd_same) (wB.ne hl) (k2B.gro gl)) ⟨by omega, fun e he => Sz.mono (by omega) (hall e he) (by omega)⟩
      refine ⟨_, rfl, rfl, _, rfl, ite2 (fun _ => ?_) (fun _ => ?_)⟩
      · refine ⟨_, rfl, b, _, rfl, kB, fun pp hp => fin _ pp xs.reverse ds.reverse (.of (same_upd hp)) (SqT.of upd_same) k2B.rev (by rw [List.length_reverse]; omega) fun e he => hall e (List.mem_reverse.mp he)⟩
      have ez : (((e + 1 : Nat) : Int) - 1) = (e : Int) := by omega
      refine ⟨_, rfl, _, rfl, (at_ : Int), rfl, sl_of kB fun p1 H3 g3 s3 => ⟨_, rfl, _, rfl, _, rfl, b, _, (at_ : Int), v, rfl, rfl, g3.tupS kB, (by rw [atI_nat ev]), _, rfl, _, rfl, _, _, rfl, rfl, a, _, p, e, L, M, v, ds[at_], (by show [V.ref a, v, V.int (p : Int), V.int (((e + 1 : Nat) : Int) - 1)] = _; rw [ez]), wB.gro g3, by omega, dv.gro g3, hall _ hmv, hL1, hL, by omega, by omega, fun H4 y d' o4 w4 dy zy => ⟨(by show 1 ≤ sizeLine; decide), fun p2 hp2 => ?_⟩⟩⟩
      have t4 := Tup.well o4 (wB.gro g3)
      have g5 := Gro.of (same_upd (o := HO.tup [y]) hp2)
      refine cat_of (g5.tupS (t4.sqt s3)) (SqT.of upd_same) (lim ?_) fun p3 H5 g6 s6 => ⟨_, rfl, _, rfl, _, _, rfl, rfl, _, rfl, ?_⟩
      · show (cutV xs none (some (at_ : Int))).length + 1 ≤ 5000
        omega
      dsimp only [tNoPart]
      have g46 := g5.trans g6
      refine sl_of (g46.tupS (t4.sqt (g3.tupS kB))) fun p4 H6' g7 s7 => cat_of (g7.tupS s6) s7 (lim ?_) fun p5 H7 g8 s8 => ?_
      · have := cutV_length xs (some ((at_ : Int) + 1)) none
        rw [List.length_append]
        show (cutV xs none (some (at_ : Int))).length + 1 + _ ≤ 5000
        omega
      obtain ⟨l2, e2, n2, m2⟩ := k2B.cut (some ((at_ : Int) + 1)) none
      have oB4 : OffG a HB H4 := (OffG.of g3).trans o4
      have tB4 := Tup.well oB4 wB
      have e1' := DpNAll.off oB4 tB4 _ _ e1
      have e2' := DpNAll.off oB4 tB4 _ _ e2
      have g48 := (g46.trans g7).trans g8
      refine q H7 (.ref p5) (.tuple ((l1 ++ [d']) ++ l2)) ((oB0.trans oB4).trans (.of g48)) ((w4.gro g48).mono (by omega)) (.tup s8 ((DpNAll.app e2' (DpNAll.app (.cons dy .nil) e1')).gro g48)) ⟨by rw [List.length_append, List.length_append]; show l1.length + 1 + l2.length ≤ _; omega, fun z hz => ?_⟩
      rcases List.mem_append.mp hz with h | h
      · rcases List.mem_append.mp h with h | h
        · exact Sz.mono (by omega) (hall z (m1 z h)) (by omega)
        · rw [List.mem_singleton.mp h]; exact zy
      · exact Sz.mono (by omega) (hall z (m2 z h)) (by omega)
    · refine ⟨_, rfl, _, _, _, _, false, rfl, .ty _, ty_data (DpN.dp _ _ x6), kit_ty ?_, _, rfl, iteT (iteT (base H6 (Gro.refl _)))⟩
      rw [kit_tup]
      cases z : isTup d with
      | true => exact absurd z ht
      | false => rfl
theorem ok__law_right (T : Top K mg) (c__law_numbers : CalD P w K mg base 2 "_law_numbers" s__law_numbers ["stock", "many"] (spNumbers)) (c__law_pick : CalD P w K mg base 1 "_law_pick" s__law_pick ["stock", "many"] (spDip)) (c__law_row : CalD P w K mg base 2 "_law_row" s__law_row ["mixing", "x"] (spRowL K)) (c__law_mark : CalD P w K mg base 2 "_law_mark" s__law_mark ["mixing", "w", "x"] (spMarkL K)) (c__law_alike : CalD P w K mg base 7 "_law_alike" s__law_alike ["item", "due"] (spAlike K 6)) (c_row_of : CalD P w K mg base 8 "row_of" s_row_of ["mixing", "x"] (spRowM K)) (c_mark_of : CalD P w K mg base 8 "mark_of" s_mark_of ["mixing", "w", "x"] (spMarkM K)) (c_book_of : CalD P w K mg base 9 "book_of" s_book_of ["mixing", "numbers"] (spBookOf K)) : CalD P w K mg base 10 "_law_right" s__law_right ["stock", "mixing"] (spRightM K) := by
  refine cal_mk T.d__law_right sc__law_right (fun _ _ _ _ _ _ us hl => match us, hl with | [_, _], _ => rfl) (fun vs H Q E h => ?_) (fun f cdv A outer s H vs Q E hr h => ?_)
  · obtain ⟨a, v, k, m, p, pairs, mark, rfl, hW, hk, hv, hOk, hT1, hT2, nT1, nT2, q⟩ := h
    rfl
  · obtain ⟨a, v, k, m, p, pairs, mark, rfl, hW, hk, hv, hOk, hT1, hT2, nT1, nT2, q⟩ := h
    refine ⟨_, (pss_cons (ps_set (i := 3) sc__law_right.nd rfl (Or.inl rfl) (pe_op op_cat (pe_lc (own := [("x", 2)]) (g := gName 2) rfl sc__law_right.nd (pi_list (pe_f c__law_numbers hr (by omega) (by rfl) (pa_cons (pv 0) (pa_cons pe_int pa_nil)))) (blkOk_by (own := [("x", 2)]) (N := N__law_right) (sc := defScope s__law_right) (by decide +kernel)) (fun _ _ _ _ _ => pg_name (i := 2) sc__law_right.nd rfl (Or.inl rfl)) (fun _ _ _ _ _ => (pts_one (pt_cmpR op_gt (pv 2) pe_int (nomark _)))) (fun _ _ _ _ _ => (pv 2))) (pe_lst (pa_cons pe_int (pa_cons (pe_op op_add (pe_op op_pow pe_int pe_int) (pe_f c__law_pick hr (by omega) (by rfl) (pa_cons (pv 0) (pa_cons pe_int pa_nil)))) pa_nil)))))
  (pss_cons (ps_for PassesOwn.never rfl (pi_list (pv 3)) (pg_name (i := 2) sc__law_right.nd rfl (Or.inl rfl)) (pss_cons (ps_set (i := 4) sc__law_right.nd rfl (Or.inl rfl) (pe_op op_add pe_int (pe_f c__law_pick hr (by omega) (by rfl) (pa_cons (pv 0) (pa_cons (pe_ix ix_list (pe_lst (pa_cons pe_int (pa_cons pe_int (pa_cons pe_int pa_nil)))) (pe_f c__law_pick hr (by omega) (by rfl) (pa_cons (pv 0) (pa_cons pe_int pa_nil))) (fun _ _ => rfl)) pa_nil)))))
  (pss_cons (ps_set (i := 5) sc__law_right.nd rfl (Or.inl rfl) (pe_lst (pa_cons (pe_f c__law_row hr (by omega) (by rfl) (pa_cons (pv 1) (pa_cons (pv 2) pa_nil))) (pa_cons (pe_f c__law_mark hr (by omega) (by rfl) (pa_cons (pv 1) (pa_cons (pv 4) (pa_cons (pv 2) pa_nil)))) pa_nil))))
  (pss_cons (ps_if (pt_not (pt_val (pe_f c__law_alike hr (by omega) (by rfl) (pa_cons (pe_lst (pa_cons (pe_f c_row_of hr (by omega) (by rfl) (pa_cons (pv 1) (pa_cons (pv 2) pa_nil))) (pa_cons (pe_f c_mark_of hr (by omega) (by rfl) (pa_cons (pv 1) (pa_cons (pv 4) (pa_cons (pv 2) pa_nil)))) pa_nil))) (pa_cons (pv 5) pa_nil))))) (pss_one (ps_ret pe_bl)) pss_nil)
  (pss_one (ps_if (pt_not (pt_val (pe_f c__law_alike hr (by omega) (by rfl) (pa_cons (pe_lst (pa_cons (pe_k0 ["x", "mixing"] [1, 0] (fun _ _ _ _ _ _ ws hl => match ws, hl with | [_, _], _ => rfl) c_row_of hr (by omega) (by rfl) (pk_cons (pv 2) (pk_cons (pv 1) pk_nil))) (pa_cons (pe_k0 ["x", "w", "mixing"] [2, 1, 0] (fun _ _ _ _ _ _ ws hl => match ws, hl with | [_, _, _], _ => rfl) c_mark_of hr (by omega) (by rfl) (pk_cons (pv 2) (pk_cons (pv 4) (pk_cons (pv 1) pk_nil)))) pa_nil))) (pa_cons (pv 5) pa_nil))))) (pss_one (ps_ret pe_bl)) pss_nil))))))
  (C8.pss_cut (ps_if (pt_cmpR op_eq (pe_f c__law_pick hr (by omega) (by rfl) (pa_cons (pv 0) (pa_cons pe_int pa_nil))) pe_int (nomark _)) (pss_one (ps_setLc (i := 3) (own := [("x", 2)]) (g := gName 2) rfl sc__law_right.nd rfl rfl (sw_true rfl rfl rfl (by decide +kernel)) (pi_range1 (by rfl) T.z_range (pa_cons (pe_op op_add pe_int (pe_f c__law_pick hr (by omega) (by rfl) (pa_cons (pv 0) (pa_cons pe_int pa_nil)))) pa_nil)) (blkOk_by (own := [("x", 2)]) (N := N__law_right) (sc := defScope s__law_right) (by decide +kernel)) (fun _ _ _ _ _ => pg_name (i := 2) sc__law_right.nd rfl (Or.inl rfl)) (fun _ _ _ _ _ => pts_nil) (fun _ _ _ _ _ => (pe_op op_add (pv 2) (pe_op op_mulX pe_int (pe_f c__law_pick hr (by omega) (by rfl) (pa_cons (pv 0) (pa_cons (pe_op op_pow pe_int pe_int) pa_nil)))))))) pss_nil)
  (pss_cons (ps_par (i := 5) (j := 6) rfl sc__law_right.nd rfl rfl (by decide) rfl rfl (pa_cons (pe_tup (pa_cons (pe_ix ix_tup (pv 1) pe_int (fun _ _ => rfl)) (pa_cons (pe_callTy call_tuple_of (by rfl) T.z_tuple (by decide +kernel) (pa_cons (pe_lc (own := [("x", 2)]) (g := gName 2) rfl sc__law_right.nd (pi_list (pv 3)) (blkOk_by (own := [("x", 2)]) (N := N__law_right) (sc := defScope s__law_right) (by decide +kernel)) (fun _ _ _ _ _ => pg_name (i := 2) sc__law_right.nd rfl (Or.inl rfl)) (fun _ _ _ _ _ => pts_nil) (fun _ _ _ _ _ => (pe_f c__law_row hr (by omega) (by rfl) (pa_cons (pv 1) (pa_cons (pv 2) pa_nil))))) pa_nil)) pa_nil))) (pa_cons (pe_callTy call_list_of (by rfl) T.z_list (by decide +kernel) (pa_cons (pv 3) pa_nil)) pa_nil)) (by rfl))
  (pss_cons (ps_if (PW.pt (pw_or (pt_not (pt_val (pe_f c__law_alike hr (by omega) (by rfl) (pa_cons (pe_f c_book_of hr (by omega) (by rfl) (pa_cons (pv 1) (pa_cons (pv 3) pa_nil))) (pa_cons (pv 5) pa_nil))))) (pw_or1 (pt_cmpR (op_neD hr.units) (pv 3) (pv 6) (nomark _))))) (pss_one (ps_ret pe_bl)) pss_nil)
  (pss_one (ps_ret (pe_f c__law_alike hr (by omega) (by rfl) (pa_cons (pe_lst (pa_cons (pe_f c_book_of hr (by omega) (by rfl) (pa_cons (pv 1) (pa_cons (pv 3) pa_nil))) (pa_cons (pe_k0 ["numbers", "mixing"] [1, 0] (fun _ _ _ _ _ _ ws hl => match ws, hl with | [_, _], _ => rfl) c_book_of hr (by omega) (by rfl) (pk_cons (pe_callTy call_tuple_of (by rfl) T.z_tuple (by decide +kernel) (pa_cons (pv 3) pa_nil)) (pk_cons (pv 1) pk_nil))) pa_nil))) (pa_cons (pe_lst (pa_cons (pv 5) (pa_cons (pv 5) pa_nil))) pa_nil)))))))))), ?_⟩
    refine ⟨_, rfl, a, 6, k, rfl, hW, by omega, by decide, fun H1 b ns o1 w1 nb nba eb hnd hlt hlen => ⟨b, rfl, ⟨_, SqL.of eb⟩, fun D hD => ?_⟩⟩
    have nDa := w1.ne hD
    have sD := same_upd (o := HO.lst []) hD
    refine lc_it (walk_list (xs := intsV ns)) (fun i H' => Gro H1 H' ∧ H' D = some (.lst (intsV ((ns.take i).filter posN)))) ⟨.of sD, upd_same⟩ (fun i H' _ hP => hP.1.seq (SqL.of eb)) (fun i v2 H' H2 hi hP yl => ?_) (fun H' hP => ?_)
    · obtain ⟨gP, eP⟩ := hP
      obtain ⟨rfl, ev⟩ := yl
      obtain ⟨x, ex, rfl⟩ := intsV_at ev
      have es : (ns.take (i + 1)).filter posN = (ns.take i).filter posN ++ (if posN x = true then [x] else []) := by
        rw [List.take_add_one, ex, List.filter_append]
        congr 1
        show List.filter _ [x] = _
        rw [List.filter_cons, List.filter_nil]
      have fl : (intsV ((ns.take i).filter posN)).length < 100 := by
        rw [intsV_len]
        have h1 := List.length_filter_le posN (ns.take i)
        have h2 : (ns.take i).length ≤ ns.length := by rw [List.length_take]; omega
        omega
      refine ⟨rfl, _, rfl, _, _, rfl, rfl, _, rfl, ite2 (fun hb => ⟨_, rfl, _, eP, Nat.lt_of_lt_of_le fl (by decide), ?_, ?_⟩) (fun hb => ⟨gP, ?_⟩)⟩
      · exact fun u o e => (gP u o e).imp fun o' z => ⟨by rw [upd_ne (fun q => by rw [q, hD] at e; cases e)]; exact z.1, z.2⟩
      · rw [upd_same, es, if_pos (show posN x = true from hb), ← intsV_app]
        rfl
      · rw [es, if_neg (show ¬ posN x = true from hb), List.append_nil]
        exact eP
    obtain ⟨gP, eP⟩ := hP
    rw [intsV_len, List.take_length] at eP
    have o2 : OffG a H H' := o1.trans (.of gP)
    have w2 := w1.gro gP
    have e20 : ((10 : Int) ^ (20 : Int).toNat) = ((100000000000000000000 : Nat) : Int) := by decide
    refine ⟨10, 20, rfl, rfl, ⟨by decide, by decide, by decide⟩, _, rfl, a, 99, _, rfl, w2, by omega, by decide, by decide, fun t H3 ht o3 w3 => ⟨_, _, rfl, rfl, (by show 2 ≤ sizeLine; decide), fun q2 hq2 => ?_⟩⟩
    have o4 : OffG a H _ := (o2.trans (.off o3)).trans (.of (.of (same_upd (o := HO.lst [V.int 0, V.int ((10 : Int) ^ (20 : Int).toNat + (t : Int))]) hq2)))
    have w4 := w3.same (same_upd (o := HO.lst [V.int 0, V.int ((10 : Int) ^ (20 : Int).toNat + (t : Int))]) hq2)
    have eD4 := (same_upd (o := HO.lst [V.int 0, V.int ((10 : Int) ^ (20 : Int).toNat + (t : Int))]) hq2) D _ (o3 D _ nDa eP)
    obtain ⟨hnd2, hl2, hb2⟩ := nums_ok hnd hlen hlt ht
    have ez : [V.int 0, V.int ((10 : Int) ^ (20 : Int).toNat + (t : Int))] = intsV [0, 100000000000000000000 + t] := by
      rw [e20, ← Int.natCast_add]
      rfl
    refine ⟨D, q2, _, _, rfl, rfl, eD4, upd_same, ?_, fun N hN => ?_⟩
    · rw [intsV_len]
      have := List.length_filter_le posN ns
      exact Nat.le_trans (show (ns.filter posN).length + 2 ≤ 100 by omega) (by decide)
    have nNa := w4.ne hN
    have sN := same_upd (o := HO.lst (intsV (ns.filter posN) ++ [V.int 0, V.int ((10 : Int) ^ (20 : Int).toNat + (t : Int))])) hN
    have eN : upd (upd H3 q2 (HO.lst [V.int 0, V.int ((10 : Int) ^ (20 : Int).toNat + (t : Int))])) N (HO.lst (intsV (ns.filter posN) ++ [V.int 0, V.int ((10 : Int) ^ (20 : Int).toNat + (t : Int))])) N = some (HO.lst (intsV (ns.filter posN ++ [0, 100000000000000000000 + t]))) := by
      rw [← intsV_app, ← ez]
      exact upd_same (H := upd H3 q2 (HO.lst [V.int 0, V.int ((10 : Int) ^ (20 : Int).toNat + (t : Int))]))
    have o5 : OffG a H _ := o4.trans (.of (.of sN))
    have w5 := w4.same sN
    show tSeq _ _ _ [some (V.ref a), some v, none, some (V.ref N), none, none, none] (upd (upd H3 q2 (HO.lst [V.int 0, V.int ((10 : Int) ^ (20 : Int).toNat + (t : Int))])) N (HO.lst (intsV (ns.filter posN) ++ [V.int 0, V.int ((10 : Int) ^ (20 : Int).toNat + (t : Int))])))
    generalize upd (upd H3 q2 (HO.lst [V.int 0, V.int ((10 : Int) ^ (20 : Int).toNat + (t : Int))])) N (HO.lst (intsV (ns.filter posN) ++ [V.int 0, V.int ((10 : Int) ^ (20 : Int).toNat + (t : Int))])) = H5 at eN o5 w5 ⊢
    generalize ns.filter posN ++ [0, 100000000000000000000 + t] = nums at hnd2 hl2 hb2 eN
    clear sN ez eD4 w4 o4 hq2 w3 o3 ht w2 o2 eP gP sD nDa hD eb hnd hlt hlen nb nba w1 o1 e20
    have hm2 := hOk.m2
    have rl : ∀ x, (rowM m p pairs x).length ≤ 1000 := fun x => by
      unfold rowM
      have := List.length_filter_le (fun c => pairs.any fun q => led p x q % m == c) (List.range m)
      rw [List.length_range] at this
      omega
    refine ⟨_, rfl, N, rfl, ⟨_, SqL.of eN⟩, ?_⟩
    refine for_list (xs := intsV nums) (fun i σ H' => ∃ z2 z4 z5 : Option V, σ = [some (.ref a), some v, z2, some (.ref N), z4, z5, none] ∧ OffG a H H' ∧ WellAt H' a (k + 301 + 2 * i) ∧ H' N = some (.lst (intsV nums))) ⟨none, none, none, rfl, o5, w5, eN⟩ (fun i σ H' _ hP => ?_) (fun i u σ H' eu hP => ?_) (fun σ H' hP => ?_)
    · obtain ⟨_, _, _, _, _, _, eP⟩ := hP
      exact SqL.of eP
    · obtain ⟨z2, z4, z5, rfl, oP, wP, eP⟩ := hP
      obtain ⟨x, ex, rfl⟩ := intsV_at eu
      have hx := hb2 x (List.mem_of_getElem? ex)
      have hi8 := (List.getElem?_eq_some_iff.mp ex).1
      refine ⟨_, rfl, (by show 3 ≤ sizeLine; decide), fun l1 hl1 => ?_⟩
      have s1 := same_upd (o := HO.lst (intsV [4, 12, 60])) hl1
      have n1 := wP.ne hl1
      have w1 := wP.same s1
      have f1 : upd H' l1 (.lst (intsV [4, 12, 60])) l1 = some (.lst (intsV [4, 12, 60])) := upd_same
      refine ⟨_, rfl, a, 3, _, rfl, w1, by omega, by decide, by decide, fun j1 H6 hj1 o6 w6 => ?_⟩
      have b1 : ∀ x ∈ [4, 12, 60], 1 ≤ x ∧ x ≤ 60 := by decide
      have c1 := b1 _ (List.getElem_mem (l := [4, 12, 60]) hj1)
      refine ⟨l1, _, (j1 : Int), _, rfl, rfl, SqL.of (o6 l1 _ n1 f1), atI_nat (intsV_get (l := [4, 12, 60]) hj1), a, _, _, rfl, w6, by omega, by omega, Nat.lt_of_le_of_lt c1.2 (by decide), fun m0 H7 hm0 o7 w7 => ⟨1, _, rfl, rfl, ?_⟩⟩
      have hw60 : 1 + m0 ≤ 60 := by omega
      have hw1 : 1 ≤ 1 + m0 := by omega
      have oP7 : OffG a H' H7 := (OffG.of (.of s1)).trans ((OffG.off o6).trans (.off o7))
      have e7 := oP7.at nNa eP
      have o07 := oP.trans oP7
      show tSeq _ _ _ [some (V.ref a), some v, some (V.int (x : Int)), some (V.ref N), some (V.int ((1 + m0 : Nat) : Int)), z5, none] H7
      generalize 1 + m0 = w1' at hw60 hw1
      clear s1 n1 w1 f1 w6 o6 o7 b1 c1 hj1 hm0 hl1 oP7
      have v7 := (Tup.well o07 hW).mix hv
      have t7 := o07.tg nT1 hT1
      refine ⟨_, rfl, _, rfl, v, m, p, pairs, mark, x, rfl, v7, hOk, hx, fun H8 ar g8 s8 => ⟨_, rfl, _, rfl, _, rfl, v, m, p, pairs, mark, w1', x, rfl, Dp.gro g8 _ _ v7, hOk, by omega, hx, (by show 2 ≤ sizeLine; decide), fun pd hpd => ?_⟩⟩
      have sd := same_upd (o := HO.lst [V.ref ar, V.int ((led p x mark % 2 ^ w1' : Nat) : Int)]) hpd
      have g9 := g8.trans (.of sd)
      have dd : Dp K _ (.ref pd) (.list [rowD (rowM m p pairs x), .int ((led p x mark % 2 ^ w1' : Nat) : Int)]) := .lst (SqL.of upd_same) (.cons (row_mk (Same.tupS sd s8)) (.cons (.int _) .nil))
      have fit : FitK 6 (.list [rowD (rowM m p pairs x), .int ((led p x mark % 2 ^ w1' : Nat) : Int)]) := fitK_list 5 (by show 2 ≤ 100000; decide) fun d hd => by
        rcases List.mem_cons.mp hd with rfl | hd
        · exact fitK_row 3 (rl x)
        · rw [List.mem_singleton.mp hd]
          exact trivial
      refine ⟨_, rfl, _, rfl, v, m, p, pairs, mark, x, rfl, Dp.gro g9 _ _ v7, hOk, hx, g9.tg t7, fun H10 br g10 s10 => ⟨_, rfl, _, rfl, _, rfl, v, m, p, pairs, mark, w1', x, rfl, Dp.gro (g9.trans g10) _ _ v7, hOk, hw1, by omega, hx, (g9.trans g10).tg t7, fun H11 g11 => ⟨(by show 2 ≤ sizeLine; decide), fun pe hpe => ?_⟩⟩⟩
      have se := same_upd (o := HO.lst [V.ref br, V.int ((led p x mark % 2 ^ w1' : Nat) : Int)]) hpe
      have g11e := (g10.trans g11).trans (.of se)
      have de : Dp K _ (.ref pe) (.list [rowD (rowM m p pairs x), .int ((led p x mark % 2 ^ w1' : Nat) : Int)]) := .lst (SqL.of upd_same) (.cons (row_mk (Same.tupS se (g11.tupS s10))) (.cons (.int _) .nil))
      refine ⟨_, rfl, _, _, _, rfl, de, Dp.gro g11e _ _ dd, fit, fun H12 s12 => ⟨_, rfl, iteF ?_⟩⟩
      have g12 := (g9.trans g11e).trans (.of s12)
      have gd12 := g11e.trans (.of s12)
      refine ⟨_, rfl, _, rfl, rfl, v, m, p, pairs, mark, x, rfl, Dp.gro g12 _ _ v7, hOk, hx, g12.tg t7, fun H13 cr g13 s13 => ⟨_, rfl, _, rfl, _, rfl, rfl, v, m, p, pairs, mark, w1', x, rfl, Dp.gro (g12.trans g13) _ _ v7, hOk, hw1, by omega, hx, (g12.trans g13).tg t7, fun H14 g14 => ⟨(by show 2 ≤ sizeLine; decide), fun pf hpf => ?_⟩⟩⟩
      have sf := same_upd (o := HO.lst [V.ref cr, V.int ((led p x mark % 2 ^ w1' : Nat) : Int)]) hpf
      have g14f := (g13.trans g14).trans (.of sf)
      have df : Dp K _ (.ref pf) (.list [rowD (rowM m p pairs x), .int ((led p x mark % 2 ^ w1' : Nat) : Int)]) := .lst (SqL.of upd_same) (.cons (row_mk (Same.tupS sf (g14.tupS s13))) (.cons (.int _) .nil))
      refine ⟨_, rfl, _, _, _, rfl, df, Dp.gro (gd12.trans g14f) _ _ dd, fit, fun H15 s15 => ⟨_, rfl, iteF ?_⟩⟩
      have gAll := (g12.trans g14f).trans (.of s15)
      exact ⟨_, _, _, rfl, o07.trans (.of gAll), (w7.gro gAll).mono (by omega), gAll.at e7⟩
    obtain ⟨z2, z4, z5, rfl, oP, wP, eP⟩ := hP
    rw [intsV_len] at wP
    refine ⟨fun σ' H2 => ∃ (N' : Addr) (nums' : List Nat) (z2 z4 z5 : Option V), σ' = [some (V.ref a), some v, z2, some (V.ref N'), z4, z5, none] ∧ OffG a H H2 ∧ WellAt H2 a (k + 390) ∧ N' ≠ a ∧ H2 N' = some (.lst (intsV nums')) ∧ nums'.Nodup ∧ (∀ x ∈ nums', x < 2 ^ 300) ∧ nums'.length ≤ 60, ?_, fun σ' H2 hM => ?_⟩
    · refine ⟨_, rfl, a, 3, _, rfl, wP, by omega, by decide, by decide, fun z HC hz oC wC => ⟨rfl, _, rfl, ?_⟩⟩
      have oPC := oP.trans (.off oC)
      refine ite2 (fun _ => ?_) (fun _ => ⟨N, nums, _, _, _, rfl, oPC, wC.mono (by omega), nNa, oC N _ nNa eP, hnd2, hb2, by omega⟩)
      have e6 : ((10 : Int) ^ (6 : Int).toNat) = ((1000000 : Nat) : Int) := by decide
      have e300 : 1000000000000 < 2 ^ 300 := by decide
      refine ⟨_, rfl, a, 40, _, rfl, wC, by omega, by decide, by decide, fun r HD hr oD wD => ⟨1, _, rfl, rfl, 1 + (r : Int), rfl, by omega, by omega, fun F hF => ?_⟩⟩
      have oCD := oPC.trans (.off oD)
      obtain ⟨nFa, nFH⟩ := new_atW oCD wD hF
      have sF := same_upd (o := HO.lst []) hF
      have en : (1 + (r : Int)).toNat = 1 + r := by omega
      refine lc_range (lo := 0) (n := (1 + (r : Int)).toNat) (fun i H' => ∃ qs : List Nat, OffG a H H' ∧ WellAt H' a (k + 340 + i) ∧ H' F = some (.lst (intsV qs)) ∧ qs.map (· % 41) = List.range i ∧ ∀ x ∈ qs, x < 1000000000000) ⟨[], oCD.trans (.of (.of sF)), (wD.same sF).mono (by omega), upd_same, rfl, fun _ h => absurd h List.not_mem_nil⟩ (fun i H' hi hP => ?_) (fun H' hP => ?_)
      · obtain ⟨qs, oQ, wQ, eQ, mQ, bQ⟩ := hP
        have lq : qs.length = i := by
          have := congrArg List.length mQ
          rw [List.length_map, List.length_range] at this
          exact this
        rw [Int.zero_add]
        refine ⟨rfl, _, rfl, _, rfl, 10, 6, rfl, rfl, ⟨by decide, by decide, by decide⟩, a, 1000000, _, (by show [V.ref a, V.int ((10 : Int) ^ (6 : Int).toNat)] = _; rw [e6]), wQ, by omega, by decide, by decide, fun s HE hs oE wE => ⟨41, _, rfl, rfl, mulx_ok (a := 6) (b := 20) (by decide) (by omega) (by decide), _, _, rfl, rfl, ?_⟩⟩
        have eE := oE F _ nFa eQ
        have ey : V.int ((i : Int) + 41 * (s : Int)) = V.int ((i + 41 * s : Nat) : Int) := rfl
        refine ⟨_, eE, Nat.lt_of_lt_of_le (by rw [intsV_len]; omega : (intsV qs).length < 100) (by decide), qs ++ [i + 41 * s], (oQ.trans (.off oE)).put nFH, (wE.put nFa).mono (by omega), ?_, ?_, fun x hx => ?_⟩
        · rw [upd_same, ← intsV_app]
          show some (HO.lst (intsV qs ++ [V.int ((i : Int) + 41 * (s : Int))])) = _
          rw [ey]
          rfl
        · rw [List.map_append, mQ, List.range_succ]
          congr 1
          show [(i + 41 * s) % 41] = [i]
          congr 1
          omega
        · rcases List.mem_append.mp hx with h | h
          · exact bQ x h
          · rw [List.mem_singleton.mp h]; omega
      · obtain ⟨qs, oQ, wQ, eQ, mQ, bQ⟩ := hP
        rw [en] at wQ mQ
        have lq : qs.length = 1 + r := by
          have := congrArg List.length mQ
          rw [List.length_map, List.length_range] at this
          exact this
        exact ⟨F, qs, _, _, _, rfl, oQ, wQ.mono (by omega), nFa, eQ, mod_nodup mQ, fun x hx => Nat.lt_trans (bQ x hx) e300, by omega⟩
    · obtain ⟨N', ms, z2, z4, z5, rfl, oM, wM, nMa, eM, ndM, bM, lM⟩ := hM
      have vM := (Tup.well oM hW).mix hv
      have tM1 := oM.tg nT1 hT1
      have tM2 := oM.tg nT2 hT2
      clear hl2 hb2 hnd2 eN o5 w5 eP wP oP nNa
      obtain ⟨ma, mb, mc, mxs, rfl, h1, h2, h3, h4⟩ := mix_inv vM
      refine ⟨_, rfl, ma, _, 0, .int (m : Int), rfl, rfl, h1, rfl, _, rfl, N', rfl, ⟨_, SqL.of eM⟩, fun D hD => ?_⟩
      refine lc_it (walk_list (xs := intsV ms)) (fun i H' => ∃ vs : List V, Gro H2 H' ∧ H' D = some (.lst vs) ∧ vs.length = i ∧ DpAll K H' vs (((ms.take i).map (rowM m p pairs)).map rowD)) ⟨[], .of (same_upd hD), upd_same, rfl, .nil⟩ (fun i H' _ hP => ?_) (fun i u H' H5 hi hP yl => ?_) (fun H' hP => ?_)
      · obtain ⟨vs, gP, _⟩ := hP
        exact gP.seq (SqL.of eM)
      · obtain ⟨vs, gP, eP, lP, dP⟩ := hP
        obtain ⟨rfl, ev⟩ := yl
        obtain ⟨x, ex, rfl⟩ := intsV_at ev
        rw [intsV_len] at hi
        refine ⟨rfl, _, rfl, _, rfl, .ref ma, m, p, pairs, mark, x, rfl, Dp.gro gP _ _ vM, hOk, bM x (List.mem_of_getElem? ex), fun H3 b3 g3 s3 => ?_⟩
        have e3 := g3.at eP
        have t3 := Tup.put (vs ++ [V.ref b3]) e3
        refine ⟨_, e3, Nat.lt_of_lt_of_le (by omega : vs.length < 100) (by decide), vs ++ [V.ref b3], ?_, upd_same, by rw [List.length_append, lP]; rfl, ?_⟩
        · exact fun u o e => ((gP.trans g3) u o e).imp fun o' z => ⟨by rw [upd_ne (fun q => by rw [q, hD] at e; cases e)]; exact z.1, z.2⟩
        · have d3 := DpAll.gro g3 _ _ dP
          rw [List.take_add_one, ex, List.map_append, List.map_append]
          exact DpAll.app (.cons (t3.row (row_mk s3)) .nil) (t3.rows d3)
      obtain ⟨vs, gP, eP, lP, dP⟩ := hP
      rw [intsV_len, List.take_length] at dP
      refine ⟨D, _, rfl, .inl ⟨SqL.of eP, fun pt hpt => ⟨(by show 2 ≤ sizeLine; decide), fun pr hpr => ⟨_, rfl, N', intsV ms, rfl, .inl (Gro.seq ((gP.trans (.of (same_upd hpt))).trans (.of (same_upd hpr))) (SqL.of eM)), fun pk hpk => ⟨_, _, rfl, ?_⟩⟩⟩⟩⟩
      have sT := same_upd (o := HO.tup vs) hpt
      have sR := same_upd (o := HO.tup [V.int (m : Int), V.ref pt]) hpr
      have sK := same_upd (o := HO.lst (intsV ms)) hpk
      have dR : Dp K _ (.ref pr) (pageD m (ms.map (rowM m p pairs))) := page_mk (SqT.of upd_same) (Same.tupS sR (SqT.of upd_same)) (DpAll.same sR _ _ (DpAll.same sT _ _ dP))
      have dK := Dp.same sK _ _ dR
      have gK := ((gP.trans (.of sT)).trans (.of sR)).trans (.of sK)
      have eK : upd (upd (upd H' pt (HO.tup vs)) pr (HO.tup [V.int (m : Int), V.ref pt])) pk (HO.lst (intsV ms)) pk = some (HO.lst (intsV ms)) := upd_same
      show tSeq _ _ _ [some (V.ref a), some (V.ref ma), z2, some (V.ref N'), z4, some (V.ref pr), some (V.ref pk)] (upd (upd (upd H' pt (HO.tup vs)) pr (HO.tup [V.int (m : Int), V.ref pt])) pk (HO.lst (intsV ms)))
      generalize upd (upd (upd H' pt (HO.tup vs)) pr (HO.tup [V.int (m : Int), V.ref pt])) pk (HO.lst (intsV ms)) = HK at dK gK eK ⊢
      clear dR sT sR sK dP eP gP hD hpt hpr hpk lP
      have fitP : FitK 5 (pageD m (ms.map (rowM m p pairs))) := fitK_page 1 (by rw [List.length_map]; omega) fun q hq => by
        obtain ⟨x, _, rfl⟩ := List.mem_map.mp hq
        exact rl x
      have fitP6 : FitK 6 (pageD m (ms.map (rowM m p pairs))) := fitK_page 2 (by rw [List.length_map]; omega) fun q hq => by
        obtain ⟨x, _, rfl⟩ := List.mem_map.mp hq
        exact rl x
      refine ⟨_, rfl, _, rfl, .ref ma, N', m, p, pairs, mark, ms, rfl, Dp.gro gK _ _ vM, hOk, .inl (gK.seq (SqL.of eM)), ndM, lM, bM, gK.tg tM1, gK.tg tM2, fun H3 b3 g3 d3 => ⟨_, rfl, _, _, _, rfl, d3, Dp.gro g3 _ _ dK, fitP6, fun H4 s4 => ⟨_, rfl, iteF ?_⟩⟩⟩
      have g34 := g3.trans (.of s4)
      have gK4 := gK.trans g34
      have dm : ∀ {H : Hp} {b : Addr}, SqL K H b (intsV ms) → Dp K H (.ref b) (.list (natsD ms)) := fun {H b} h => by
        have hd := dpI (K := K) (H := H) (ms.map fun k : Nat => (k : Int))
        rw [← intsV_map] at hd
        exact .lst h hd
      refine ⟨_, rfl, _, rfl, .list (natsD ms), .list (natsD ms), dm (gK4.seq (SqL.of eM)), dm (g34.seq (SqL.of eK)), nats_list_shaped ms, nats_list_shaped ms, _, rfl, ?_⟩
      rw [eqv_nats]
      refine iteF ?_
      have vK := Dp.gro gK4 _ _ vM
      have nK := gK4.seq (SqL.of (K := K) eM)
      have dK4 := Dp.gro g34 _ _ dK
      refine ⟨_, rfl, _, rfl, .ref ma, N', m, p, pairs, mark, ms, rfl, vK, hOk, .inl nK, ndM, lM, bM, gK4.tg tM1, gK4.tg tM2, fun H5 b5 g5 d5 => ⟨_, rfl, N', _, rfl, .inl ⟨g5.seq nK, fun pt hpt => ?_⟩⟩⟩
      have g6 := g5.trans (.of (same_upd (o := HO.tup (intsV ms)) hpt))
      refine ⟨_, rfl, rfl, .ref ma, pt, m, p, pairs, mark, ms, rfl, Dp.gro g6 _ _ vK, hOk, .inr (SqT.of upd_same), ndM, lM, bM, (gK4.trans g6).tg tM1, (gK4.trans g6).tg tM2, fun H6 b6 g7 d6 => ⟨(by show 2 ≤ sizeLine; decide), fun pe hpe => ⟨_, rfl, _, rfl, (by show 2 ≤ sizeLine; decide), fun pf hpf => ?_⟩⟩⟩
      have se := same_upd (o := HO.lst [V.ref b5, V.ref b6]) hpe
      have sf := same_upd (o := HO.lst [V.ref pr, V.ref pr]) hpf
      have d5' := Dp.gro ((Gro.of (same_upd (o := HO.tup (intsV ms)) hpt)).trans g7) _ _ d5
      have de : Dp K _ (.ref pe) (.list [pageD m (ms.map (rowM m p pairs)), pageD m (ms.map (rowM m p pairs))]) := .lst (SqL.of upd_same) (.cons (Dp.same se _ _ d5') (.cons (Dp.same se _ _ d6) .nil))
      have dr := Dp.gro (((g6.trans g7).trans (.of se)).trans (.of sf)) _ _ dK4
      have df : Dp K _ (.ref pf) (.list [pageD m (ms.map (rowM m p pairs)), pageD m (ms.map (rowM m p pairs))]) := .lst (SqL.of upd_same) (.cons dr (.cons dr .nil))
      refine ⟨_, _, .list [pageD m (ms.map (rowM m p pairs)), pageD m (ms.map (rowM m p pairs))], rfl, Dp.same sf _ _ de, df, fitK_list 5 (by show 2 ≤ 100000; decide) (fun d hd => ?_), fun H7 s7 => ?_⟩
      · simp only [List.mem_cons, List.not_mem_nil, or_false, or_self] at hd
        rw [hd]
        exact fitP
      · have gE := (((g6.trans g7).trans (.of se)).trans (.of sf)).trans (.of s7)
        exact q H7 (oM.trans (.of (gK4.trans gE))) ((wM.gro (gK4.trans gE)).mono (by omega))
theorem ok_law (T : Top K mg) (c__law_stock : CalD P w K mg base 1 "_law_stock" s__law_stock ["script", "spot"] (spWell K)) (c__law_mixing : CalD P w K mg base 2 "_law_mixing" s__law_mixing ["stock"] (spMixing K)) (c__law_pick : CalD P w K mg base 1 "_law_pick" s__law_pick ["stock", "many"] (spDip)) (c_is_mixing : CalD P w K mg base 6 "is_mixing" s_is_mixing ["told"] (spIsMix K)) (c__law_right : CalD P w K mg base 10 "_law_right" s__law_right ["stock", "mixing"] (spRightM K)) (c__law_seeded : CalD P w K mg base 1 "_law_seeded" s__law_seeded ["mixing", "s"] (spSeededL K)) (c__law_alike : CalD P w K mg base 7 "_law_alike" s__law_alike ["item", "due"] (spAlike K 6)) (c_seeded : CalD P w K mg base 8 "seeded" s_seeded ["mixing", "s"] (spSeeded K)) (c__law_put : CalD P w K mg base 8 "_law_put" s__law_put ["stock", "item", "p", "deep"] (spPut K 6)) (c__law_is_mixing : CalD P w K mg base 2 "_law_is_mixing" s__law_is_mixing ["item"] (spLMix K)) (c_row_of : CalD P w K mg base 8 "row_of" s_row_of ["mixing", "x"] (spRowM K)) (c__law_row : CalD P w K mg base 2 "_law_row" s__law_row ["mixing", "x"] (spRowL K)) : CalD P w K mg base 11 "law" s_law ["script"] (spLawT K tf) := by
  refine cal_mk T.d_law sc_law (fun _ _ _ _ _ _ us hl => match us, hl with | [_], _ => rfl) (fun vs H Q E h => ?_) (fun f cdv A outer s H vs Q E hr h => ?_)
  · obtain ⟨l, ns, rfl, hS, hlen, hT, q⟩ := h
    rfl
  · obtain ⟨l, ns, rfl, hS, hlen, hT, q⟩ := h
    refine ⟨_, (pss_cons (ps_set (i := 1) sc_law.nd rfl (Or.inl rfl) pe_non)
  (pss_cons (ps_for PassesOwn.never rfl (pi_range1 (by rfl) T.z_range (pa_cons (pe_callB (call_max2 rfl) (by rfl) T.z_max (by decide +kernel) (pa_cons pe_int (pa_cons (pe_callB (call_min2 rfl) (by rfl) T.z_min (by decide +kernel) (pa_cons pe_int (pa_cons (pe_callB call_len_seq (by rfl) T.z_len PySem.boot_len (pa_cons (pv 0) pa_nil)) pa_nil))) pa_nil))) pa_nil)) (pg_name (i := 2) sc_law.nd rfl (Or.inl rfl)) (pss_cons (ps_set (i := 3) sc_law.nd rfl (Or.inl rfl) (pe_f c__law_stock hr (by omega) (by rfl) (pa_cons (pv 0) (pa_cons (pv 2) pa_nil))))
  (pss_cons (ps_set (i := 4) sc_law.nd rfl (Or.inl rfl) (pe_f c__law_mixing hr (by omega) (by rfl) (pa_cons (pv 3) pa_nil)))
  (C8.pss_cut (ps_if (pt_cmpR op_eq (pe_f c__law_pick hr (by omega) (by rfl) (pa_cons (pv 3) (pa_cons pe_int pa_nil))) pe_int (nomark _)) (pss_one (ps_set (i := 4) sc_law.nd rfl (Or.inl rfl) (pe_op op_catA (pe_slice sl_tupA (pv 4) po_none (po_some pe_int)) (pe_tup (pa_cons (pe_op op_catA (pe_ix ix_tup (pv 4) pe_int (fun _ _ => rfl)) (pe_callTy call_tuple_of (by rfl) T.z_tuple (by decide +kernel) (pa_cons (pe_lc (own := [("pair", 9)]) (g := gName 9) rfl sc_law.nd (pi_tup (pe_ix ix_tup (pv 4) pe_int (fun _ _ => rfl))) (blkOk_by (own := [("pair", 9)]) (N := N_law) (sc := defScope s_law) (by decide +kernel)) (fun _ _ _ _ _ => pg_name (i := 9) sc_law.nd rfl (Or.inl rfl)) (fun _ _ _ _ _ => pts_nil) (fun _ _ _ _ _ => (pe_revT_at K rfl (pv 9)))) pa_nil))) (pa_cons (pe_ix ix_tup (pv 4) pe_int (fun _ _ => rfl)) pa_nil)))))) pss_nil)
  (C8.pss_cut (ps_set (i := 1) sc_law.nd rfl (Or.inl rfl) (pe_ifExp (pt_cmpR op_isN (pv 1) pe_non (nomark _)) (pv 4) (pv 1)))
  (pss_cons (ps_if (PW.pt (pw_or (pt_cmpR op_isnot_bl (pe_f c_is_mixing hr (by omega) (by rfl) (pa_cons (pv 4) pa_nil)) pe_bl (nomark _)) (pw_or1 (pt_not (pt_val (pe_f c__law_right hr (by omega) (by rfl) (pa_cons (pv 3) (pa_cons (pv 4) pa_nil)))))))) (pss_one (ps_ret pe_bl)) pss_nil)
  (pss_cons (ps_set (i := 5) sc_law.nd rfl (Or.inl rfl) (pe_f c__law_pick hr (by omega) (by rfl) (pa_cons (pv 3) (pa_cons (pe_ix ix_list (pe_lst (pa_cons pe_int (pa_cons pe_int (pa_cons (pe_op op_pow pe_int pe_int) pa_nil)))) (pe_f c__law_pick hr (by omega) (by rfl) (pa_cons (pv 3) (pa_cons pe_int pa_nil))) (fun _ _ => rfl)) pa_nil))))
  (pss_cons (ps_set (i := 6) sc_law.nd rfl (Or.inl rfl) (pe_f c__law_seeded hr (by omega) (by rfl) (pa_cons (pv 4) (pa_cons (pv 5) pa_nil))))
  (pss_cons (ps_if (PW.pt (pw_or (pt_not (pt_val (pe_f c__law_alike hr (by omega) (by rfl) (pa_cons (pe_lst (pa_cons (pe_f c_seeded hr (by omega) (by rfl) (pa_cons (pv 4) (pa_cons (pv 5) pa_nil))) (pa_cons (pe_k0 ["s", "mixing"] [1, 0] (fun _ _ _ _ _ _ ws hl => match ws, hl with | [_, _], _ => rfl) c_seeded hr (by omega) (by rfl) (pk_cons (pv 5) (pk_cons (pv 4) pk_nil))) pa_nil))) (pa_cons (pe_lst (pa_cons (pv 6) (pa_cons (pv 6) pa_nil))) pa_nil))))) (pw_or1 (pt_not (pt_val (pe_f c__law_right hr (by omega) (by rfl) (pa_cons (pv 3) (pa_cons (pv 6) pa_nil)))))))) (pss_one (ps_ret pe_bl)) pss_nil)
  (pss_cons (ps_if (PW.pt (pw_or (pt_cmpR op_isnot_bl (pe_k0 ["told"] [0] (fun _ _ _ _ _ _ ws hl => match ws, hl with | [_], _ => rfl) c_is_mixing hr (by omega) (by rfl) (pk_cons (pv 6) pk_nil)) pe_bl (nomark _)) (pw_or1 (pt_not (pt_val (pe_f c__law_alike hr (by omega) (by rfl) (pa_cons (pe_f c_seeded hr (by omega) (by rfl) (pa_cons (pv 6) (pa_cons (pv 5) pa_nil))) (pa_cons (pe_f c__law_seeded hr (by omega) (by rfl) (pa_cons (pv 6) (pa_cons (pv 5) pa_nil))) pa_nil)))))))) (pss_one (ps_ret pe_bl)) pss_nil)
  (pss_one (ps_for PassesOwn.never rfl (pi_range1 (by rfl) T.z_range (pa_cons pe_int pa_nil)) (pg_name (i := 7) sc_law.nd rfl (Or.inl rfl)) (pss_cons (ps_set (i := 8) sc_law.nd rfl (Or.inl rfl) (pe_f c__law_put hr (by omega) (by rfl) (pa_cons (pv 3) (pa_cons (pv 4) (pa_cons (pe_ix ix_tup (pv 4) pe_int (fun _ _ => rfl)) (pa_cons (pe_op op_add pe_int (pe_f c__law_pick hr (by omega) (by rfl) (pa_cons (pv 3) (pa_cons pe_int pa_nil)))) pa_nil))))))
  (C8.pss_cut (ps_set (i := 8) sc_law.nd rfl (Or.inl rfl) (pe_ifExp (pt_cmpR op_lt (pv 7) pe_int (nomark _)) (pv 8) (pe_f c__law_put hr (by omega) (by rfl) (pa_cons (pv 3) (pa_cons (pv 8) (pa_cons (pe_ix ix_tup (pv 4) pe_int (fun _ _ => rfl)) (pa_cons pe_int pa_nil)))))))
  (pss_one (ps_if (pt_not (pt_val (pe_f c__law_alike hr (by omega) (by rfl) (pa_cons (pe_f c_is_mixing hr (by omega) (by rfl) (pa_cons (pv 8) pa_nil)) (pa_cons (pe_f c__law_is_mixing hr (by omega) (by rfl) (pa_cons (pv 8) pa_nil)) pa_nil))))) (pss_one (ps_ret pe_bl)) pss_nil))))))))))))))))
  (pss_one (ps_ret (pe_f c__law_alike hr (by omega) (by rfl) (pa_cons (pe_f c_row_of hr (by omega) (by rfl) (pa_cons (pv 1) (pa_cons pe_int pa_nil))) (pa_cons (pe_f c__law_row hr (by omega) (by rfl) (pa_cons (pv 1) (pa_cons pe_int pa_nil))) pa_nil))))))), ?_⟩
    have hl2 : (ns.map V.int).length ≤ 63 := by
      rw [List.length_map]
      exact hlen
    refine ⟨_, rfl, l, _, rfl, .inl hS, _, _, rfl, ?_⟩
    generalize hg : (if ((ns.map V.int).length : Int) < 6 then ((ns.map V.int).length : Int) else 6) = g
    have hg2 : 0 ≤ g ∧ g ≤ 63 := by
      rw [← hg]
      split <;> omega
    refine ⟨1, g, rfl, ?_⟩
    generalize hg3 : (if g > 1 then g else 1) = g3
    have hg4 : 1 ≤ g3 ∧ g3 ≤ 63 := by
      rw [← hg3]
      split <;> omega
    refine ⟨g3, rfl, by omega, by omega, ?_⟩
    refine for_range (lo := 0) (n := g3.toNat) (fun i σ H' => ∃ (zf : V) (z2 z3 z4 z5 z6 z7 z8 z9 : Option V), σ = [some (.ref l), some zf, z2, z3, z4, z5, z6, z7, z8, z9] ∧ Gro H H' ∧ ((i = 0 ∧ zf = .non) ∨ ∃ (m p : Nat) (pairs : List (Nat × Nat)) (mark : Nat × Nat), MixOk m p pairs mark ∧ Dp K H' zf (mixD m p pairs mark))) ⟨.non, none, none, none, none, none, none, none, none, rfl, Gro.refl H, .inl ⟨rfl, rfl⟩⟩ (fun i σ H' hi hP => ?_) (fun σ H' hP => ?_)
    · obtain ⟨zf, z2, z3, z4, z5, z6, z7, z8, z9, rfl, sP, hF⟩ := hP
      rw [Int.zero_add]
      refine ⟨_, rfl, _, rfl, l, ns, i, rfl, Gro.seq sP hS, by omega, fun H1 a s1 np hW => ?_⟩
      have gH1 : Gro H' H1 := .of s1
      have tP1 := sP.tg (hT "are_pairs" (by decide +kernel))
      have tP2 := sP.tg (hT "are_integers" (by decide +kernel))
      have nT1 := tab_ne tP1 np
      have nT2 := tab_ne tP2 np
      have t1 := gH1.tg tP1
      have t2 := gH1.tg tP2
      have fin : ∀ HZ, OffG a H1 HZ → Gro H HZ := fun HZ oz => sP.trans (oz.gro gH1 np)
      have hF1 : zf = .non ∨ ∃ (m p : Nat) (pairs : List (Nat × Nat)) (mark : Nat × Nat), MixOk m p pairs mark ∧ Dp K H1 zf (mixD m p pairs mark) := by
        rcases hF with ⟨_, h⟩ | ⟨m, p, pairs, mark, h, d⟩
        · exact .inl h
        · exact .inr ⟨m, p, pairs, mark, h, Dp.gro gH1 _ _ d⟩
      clear hF tP1 tP2 sP s1 np gH1 hS
      refine ⟨_, rfl, a, 0, rfl, hW, by omega, fun H2 b m p pairs mark o2 w2 hOk hm hp hl d2 => ?_⟩
      refine ⟨fun σ' HM => ∃ (vb : Addr) (prs : List (Nat × Nat)) (z9 : Option V), σ' = [some (.ref l), some zf, some (.int (i : Int)), some (.ref a), some (.ref vb), z5, z6, z7, z8, z9] ∧ OffG a H1 HM ∧ WellAt HM a 101 ∧ MixOk m p prs mark ∧ Dp K HM (.ref vb) (mixD m p prs mark), ?_, fun σ' HM hM => ?_⟩
      · refine ⟨_, rfl, a, 6, _, rfl, w2, by omega, by decide, by decide, fun z HC hz oC wC => ⟨rfl, _, rfl, ?_⟩⟩
        have oc := OffG.off oC
        have dC := (Tup.well oc w2).mix d2
        refine ite2 (fun _ => ?_) (fun _ => ⟨b, pairs, _, rfl, o2.trans oc, wC.mono (by omega), hOk, dC⟩)
        obtain ⟨ma, mb, mc, xs, emb, h1, h2, h3, h4⟩ := mix_inv dC
        obtain rfl : b = ma := V.ref.inj emb
        have lx : xs.length = pairs.length := (DpAll.length _ h3).trans (List.length_map _)
        refine ⟨_, rfl, 2, rfl, sl_of h1 fun p1 H3 g3 s3 => ?_⟩
        refine ⟨_, rfl, b, _, 2, .ref mb, rfl, rfl, g3.tupS h1, rfl, _, rfl, b, _, 2, .ref mb, rfl, rfl, g3.tupS h1, rfl, mb, rfl, ⟨_, g3.tupS h2⟩, fun F hF => ?_⟩
        refine lc_it (walk_tup (xs := xs)) (fun i H' => ∃ vs : List V, Gro H3 H' ∧ H' F = some (.lst vs) ∧ vs.length = i ∧ DpAll K H' vs (((pairs.take i).map swapP).map pqD)) ⟨[], .of (same_upd hF), upd_same, rfl, .nil⟩ (fun i H' _ hP => ?_) (fun i u H' H5 hi hP yl => ?_) (fun H' hP => ?_)
        · obtain ⟨vs, gP, _⟩ := hP
          exact gP.tupS (g3.tupS h2)
        · obtain ⟨vs, gP, eP, lP, dP⟩ := hP
          obtain ⟨rfl, ev⟩ := yl
          have hip : i < pairs.length := by omega
          obtain ⟨u2, eu, du⟩ := DpAll.get _ h3 (i := i) (d := pqD pairs[i]) (by rw [List.getElem?_map, List.getElem?_eq_getElem hip]; rfl)
          obtain rfl : u = u2 := Option.some.inj (ev.symm.trans eu)
          obtain ⟨ua, rfl, su⟩ := pair_inv du
          refine ⟨rfl, _, rfl, ua, _, rfl, (g3.trans gP).tupS su, fun pt hpt => ?_⟩
          have sT := same_upd (o := HO.tup [V.int (pairs[i].1 : Int), V.int (pairs[i].2 : Int)].reverse) hpt
          have eT := sT _ _ eP
          have tT := Tup.put (vs ++ [V.ref pt]) eT
          refine ⟨_, eT, Nat.lt_of_lt_of_le (by omega : vs.length < 100) (by decide), vs ++ [V.ref pt], ?_, upd_same, by rw [List.length_append, lP]; rfl, ?_⟩
          · exact fun u o e => ((gP.trans (.of sT)) u o e).imp fun o' z => ⟨by rw [upd_ne (fun q => by rw [q, hF] at e; cases e)]; exact z.1, z.2⟩
          · rw [List.take_add_one, List.getElem?_eq_getElem hip, List.map_append, List.map_append]
            exact DpAll.app (.cons (tT.pair (pair_mk (q := swapP pairs[i]) (SqT.of upd_same))) .nil) (tT.pairs (DpAll.same sT _ _ dP))
        obtain ⟨vs, gP, eP, lP, dP⟩ := hP
        rw [lx, List.take_length] at dP
        refine ⟨F, vs, rfl, .inl ⟨SqL.of eP, fun pt hpt => ?_⟩⟩
        have sT := same_upd (o := HO.tup vs) hpt
        have g3T := (g3.trans gP).trans (.of sT)
        refine cat_of (g3T.tupS h2) (SqT.of upd_same) (Nat.le_trans (show xs.length + vs.length ≤ 100 by omega) (by decide)) fun p4 H4 g4 s4 => ?_
        have g34 := g3T.trans g4
        refine ⟨_, rfl, b, _, 3, .ref mc, rfl, rfl, g34.tupS h1, rfl, (by show 2 ≤ sizeLine; decide), fun p5 hp5 => ?_⟩
        have s5 := same_upd (o := HO.tup [V.ref p4, V.ref mc]) hp5
        refine cat_of ((((gP.trans (.of sT)).trans g4).trans (.of s5)).tupS s3) (SqT.of upd_same) ?_ fun p6 H6 g6 s6 => ?_
        · exact Nat.le_trans (show (2 : Nat) + 2 ≤ 100 by decide) (by decide)
        have g46 := (Gro.of s5).trans g6
        have gA := g34.trans g46
        refine ⟨p6, pairs ++ pairs.map swapP, _, rfl, (o2.trans oc).trans (.of gA), (wC.gro gA).mono (by omega), hOk.twice hl, mix_mk s6 (g46.tupS s4) ?_ (pair_mk (gA.tupS h4))⟩
        rw [List.map_append]
        exact DpAll.app (DpAll.gro (g4.trans g46) _ _ (DpAll.same sT _ _ dP)) (DpAll.gro gA _ _ h3)
      obtain ⟨vb, prs, z9', rfl, oM, wM, hOk', dM⟩ := hM
      clear o2 w2 hOk hl d2
      refine ⟨fun σ' HN => ∃ zf' : V, σ' = [some (.ref l), some zf', some (.int (i : Int)), some (.ref a), some (.ref vb), z5, z6, z7, z8, z9'] ∧ HN = HM ∧ ∃ (m p : Nat) (pairs : List (Nat × Nat)) (mark : Nat × Nat), MixOk m p pairs mark ∧ Dp K HM zf' (mixD m p pairs mark), ?_, fun σ' HN hN => ?_⟩
      · rcases hF1 with rfl | ⟨m', p', pairs', mark', h', d'⟩
        · exact ⟨_, rfl, rfl, _, rfl, iteT ⟨_, rfl, .ref vb, rfl, rfl, m, p, prs, mark, hOk', dM⟩⟩
        · have d'' := (Tup.well oM hW).mix d'
          obtain ⟨fa, _, _, _, rfl, _⟩ := mix_inv d'
          exact ⟨_, rfl, rfl, _, rfl, iteF ⟨_, rfl, .ref fa, rfl, rfl, m', p', pairs', mark', h', d''⟩⟩
      obtain ⟨zf', rfl, rfl, mf, qf, pairsf, markf, hOkf, dF⟩ := hN
      clear hF1
      have tM1 := oM.tg nT1 t1
      have tM2 := oM.tg nT2 t2
      have e9 : ((10 : Int) ^ (9 : Int).toNat) = ((1000000000 : Nat) : Int) := by decide
      have e300 : 1000000000 < 2 ^ 300 := by decide
      refine ⟨_, rfl, .ref vb, _, rfl, dM, tM1, fun H3 g3 => ⟨_, _, rfl, rfl, _, rfl, ?_⟩⟩
      rw [hOk'.is]
      refine iteF ⟨_, rfl, _, rfl, a, .ref vb, _, m, p, prs, mark, rfl, wM.gro g3, by omega, Dp.gro g3 _ _ dM, hOk', g3.tg tM1, g3.tg tM2, nT1, nT2, fun H4 o4 w4 => ⟨_, rfl, iteF ?_⟩⟩
      have oM4 : OffG a HN H4 := (OffG.of g3).trans o4
      have d4 := (Tup.well oM4 wM).mix dM
      have dF4 := (Tup.well oM4 wM).mix dF
      have t41 := oM4.tg nT1 tM1
      have t42 := oM4.tg nT2 tM2
      have o14 := oM.trans oM4
      clear oM4 o4 g3 tM1 tM2 dF dM wM oM
      refine ⟨_, rfl, 10, 9, rfl, rfl, ⟨by decide, by decide, by decide⟩, (by show 3 ≤ sizeLine; decide), fun l1 hl1 => ?_⟩
      have f1 : upd H4 l1 (.lst [V.int 3, V.int 41, V.int ((10 : Int) ^ (9 : Int).toNat)]) l1 = some (.lst (intsV [3, 41, 1000000000])) := by
        rw [upd_same, e9]
        rfl
      have s1 := same_upd (o := HO.lst [V.int 3, V.int 41, V.int ((10 : Int) ^ (9 : Int).toNat)]) hl1
      have n1 := w4.ne hl1
      have w5 := w4.same s1
      refine ⟨_, rfl, a, 3, _, rfl, w5, by omega, by decide, by decide, fun j1 H6 hj1 o6 w6 => ?_⟩
      have b1 : ∀ x ∈ [3, 41, 1000000000], 1 ≤ x ∧ x ≤ 1000000000 := by decide
      have c1 := b1 _ (List.getElem_mem (l := [3, 41, 1000000000]) hj1)
      refine ⟨l1, _, (j1 : Int), _, rfl, rfl, SqL.of (o6 l1 _ n1 f1), atI_nat (intsV_get (l := [3, 41, 1000000000]) hj1), a, _, _, rfl, w6, by omega, by omega, Nat.lt_of_le_of_lt c1.2 (by decide), fun s H7 hs0 o7 w7 => ?_⟩
      have hs : s < 2 ^ 300 := Nat.lt_of_lt_of_le hs0 (Nat.le_trans c1.2 (Nat.le_of_lt e300))
      have o47 : OffG a H4 H7 := (OffG.of (.of s1)).trans ((OffG.off o6).trans (.off o7))
      have d7 := (Tup.well o47 w4).mix d4
      have dF7 := (Tup.well o47 w4).mix dF4
      have t71 := o47.tg nT1 t41
      have t72 := o47.tg nT2 t42
      have o17 := o14.trans o47
      clear hs0 c1 b1 o6 o7 w6 w5 s1 n1 f1 hl1 hj1 o47 w4 d4 dF4 t41 t42 o14
      refine ⟨_, rfl, _, rfl, .ref vb, m, p, prs, mark, s, rfl, d7, hOk', hs, fun H8 b8 g8 d8 => ?_⟩
      have hOk2 := hOk'.seeded s
      have fitD : FitK 5 (mixD m p (prs.map (seedP p s)) (seedP p s mark)) := fitK_mix 1 hOk2.few
      have fitS : FitK 6 (mixD m p ((prs.map (seedP p s)).map (seedP p s)) (seedP p s (seedP p s mark))) := fitK_mix 2 (hOk2.seeded s).few
      have d78 := Dp.gro g8 _ _ d7
      have t81 := g8.tg t71
      refine ⟨_, rfl, _, rfl, .ref vb, m, p, prs, mark, s, rfl, d78, hOk', hs, t81, fun H9 b9 g9 d9 => ⟨_, rfl, _, rfl, rfl, .ref vb, m, p, prs, mark, s, rfl, Dp.gro g9 _ _ d78, hOk', hs, g9.tg t81, fun H10 b10 g10 d10 => ⟨(by show 2 ≤ sizeLine; decide), fun pe hpe => ⟨_, rfl, _, rfl, (by show 2 ≤ sizeLine; decide), fun pf hpf => ?_⟩⟩⟩⟩
      have se := same_upd (o := HO.lst [V.ref b9, V.ref b10]) hpe
      have sf := same_upd (o := HO.lst [V.ref b8, V.ref b8]) hpf
      have de : Dp K _ (.ref pe) (.list [mixD m p (prs.map (seedP p s)) (seedP p s mark), mixD m p (prs.map (seedP p s)) (seedP p s mark)]) := .lst (SqL.of upd_same) (.cons (Dp.same se _ _ (Dp.gro g10 _ _ d9)) (.cons (Dp.same se _ _ d10) .nil))
      have g8f := ((g9.trans g10).trans (.of se)).trans (.of sf)
      have d8f := Dp.gro g8f _ _ d8
      have df : Dp K _ (.ref pf) (.list [mixD m p (prs.map (seedP p s)) (seedP p s mark), mixD m p (prs.map (seedP p s)) (seedP p s mark)]) := .lst (SqL.of upd_same) (.cons d8f (.cons d8f .nil))
      refine ⟨_, _, .list [mixD m p (prs.map (seedP p s)) (seedP p s mark), mixD m p (prs.map (seedP p s)) (seedP p s mark)], rfl, Dp.same sf _ _ de, df, fitK_list 5 (by show 2 ≤ 100000; decide) (fun d hd => ?_), fun H11 s11 => ⟨_, rfl, iteF ?_⟩⟩
      · simp only [List.mem_cons, List.not_mem_nil, or_false, or_self] at hd
        rw [hd]
        exact fitD
      have g811 := g8f.trans (.of s11)
      have g711 := g8.trans g811
      have d11 := Dp.gro g811 _ _ d8
      have w11 := w7.gro g711
      refine ⟨_, rfl, _, rfl, a, .ref b8, _, m, p, _, _, rfl, w11, by omega, d11, hOk2, g711.tg t71, g711.tg t72, nT1, nT2, fun H12 o12 w12 => ⟨_, rfl, iteF ?_⟩⟩
      have u12 := Tup.well o12 w11
      have d12 := u12.mix d11
      have dm12 := u12.mix (Dp.gro g711 _ _ d7)
      have dF12 := u12.mix (Dp.gro g711 _ _ dF7)
      have t121 := o12.tg nT1 (g711.tg t71)
      have o112 := o17.trans ((OffG.of g711).trans o12)
      clear u12 o12 w11 d11 g711 g811 df d8f g8f de se sf t81 d78 t71 t72 dF7 d7 w7 o17 d8 d9 d10 g9 g10 g8 s11
      refine ⟨_, rfl, rfl, .ref b8, _, rfl, d12, t121, fun H13 g13 => ⟨_, _, rfl, rfl, _, rfl, ?_⟩⟩
      rw [hOk2.is]
      refine iteF ⟨_, rfl, _, rfl, .ref b8, m, p, _, _, s, rfl, Dp.gro g13 _ _ d12, hOk2, hs, g13.tg t121, fun H14 b14 g14 d14 => ⟨_, rfl, _, rfl, .ref b8, m, p, _, _, s, rfl, Dp.gro (g13.trans g14) _ _ d12, hOk2, hs, fun H15 b15 g15 d15 => ⟨_, _, _, rfl, Dp.gro g15 _ _ d14, d15, fitS, fun H16 s16 => ⟨_, rfl, iteF ?_⟩⟩⟩⟩
      have g1216 := ((g13.trans g14).trans g15).trans (.of s16)
      have w16 := w12.gro g1216
      have d16 := Dp.gro g1216 _ _ dm12
      have dF16 := Dp.gro g1216 _ _ dF12
      have t16 := g1216.tg t121
      have o116 := o112.trans (.of g1216)
      clear g1216 d12 dm12 dF12 t121 o112 w12 g13 g14 g15 s16 d14 d15
      refine ⟨10, rfl, by decide, by decide, ?_⟩
      refine for_range (lo := 0) (n := (10 : Int).toNat) (fun j σ H' => ∃ z7 z8 : Option V, σ = [some (.ref l), some zf', some (.int (i : Int)), some (.ref a), some (.ref vb), some (.int (s : Int)), some (.ref b8), z7, z8, z9'] ∧ OffG a H16 H' ∧ WellAt H' a (2000 + 40 * j)) ⟨_, _, rfl, OffG.refl a H16, w16.mono (by omega)⟩ (fun j σ H' hj hP => ?_) (fun σ H' hP => ?_)
      · obtain ⟨z7', z8', rfl, oP, wP⟩ := hP
        have hj10 : j < 10 := hj
        rw [Int.zero_add]
        have dP := (Tup.well oP w16).mix d16
        obtain ⟨ma, mb, mc, xs, emb, h1, h2, h3, h4⟩ := mix_inv dP
        obtain rfl : vb = ma := V.ref.inj emb
        have tP := oP.tg nT1 t16
        have dN := mix_N (a := a) dP
        refine ⟨_, rfl, _, rfl, _, rfl, vb, _, 1, .int (p : Int), rfl, rfl, h1, rfl, _, rfl, a, 4, _, rfl, wP, by omega, by decide, by decide, fun t HA ht oA wA => ⟨1, _, rfl, rfl, ?_⟩⟩
        have oPA := OffG.off oA
        have dA := DpN.off oPA (Tup.well oPA wP) _ _ dN
        refine ⟨a, _, p, 1 + t, 60, 3, .ref vb, _, rfl, wA, by omega, dA, sz_mix hOk'.few, by decide, by decide, by decide, by omega, fun HB y1 d1 oB wB dy1 zy1 => ?_⟩
        have oPB := oPA.trans oB
        refine ⟨fun σ' HN => ∃ (y : V) (d : PyData), σ' = [some (.ref l), some zf', some (.int (i : Int)), some (.ref a), some (.ref vb), some (.int (s : Int)), some (.ref b8), some (.int (j : Int)), some y, z9'] ∧ OffG a H' HN ∧ WellAt HN a (2000 + 40 * (j + 1)) ∧ DpN K HN a y d ∧ Sz 2000 20 d, ?_, fun σ' HN hN => ?_⟩
        · refine ⟨_, rfl, _, _, rfl, rfl, _, rfl, ite2 (fun _ => ⟨_, rfl, y1, d1, rfl, oPB, wB.mono (by omega), dy1, zy1.mono (by decide) (by decide)⟩) (fun _ => ?_)⟩
          have dPB := (Tup.well oPB wP).sqt h1
          exact ⟨_, rfl, _, rfl, _, rfl, vb, _, 1, .int (p : Int), rfl, rfl, dPB, rfl, a, _, p, 3, 121, 4, y1, d1, rfl, wB, by omega, dy1, zy1, by decide, by decide, by decide, by decide, fun HC y2 d2 oC wC dy2 zy2 => ⟨y2, d2, rfl, oPB.trans oC, wC.mono (by omega), dy2, zy2.mono (by decide) (by decide)⟩⟩
        obtain ⟨y, d, rfl, oN, wN, dy, zy⟩ := hN
        have tN := oN.tg nT1 tP
        have dyp := DpN.dp _ _ dy
        exact ⟨_, rfl, y, d, rfl, dyp, tN, fun HC gC => ⟨_, rfl, y, d, rfl, Dp.gro gC _ _ dyp, zy, fun HD gD => ⟨_, _, .bool (isMixD d), rfl, .bl _, .bl _, trivial, fun HE sE => ⟨_, rfl, iteF ⟨_, _, rfl, (oP.trans oN).trans (.of ((gC.trans gD).trans (.of sE))), wN.gro ((gC.trans gD).trans (.of sE))⟩⟩⟩⟩⟩
      · obtain ⟨z7', z8', rfl, oP, wP⟩ := hP
        exact ⟨zf', _, _, _, _, _, _, _, _, rfl, fin _ (o116.trans oP), .inr ⟨mf, qf, pairsf, markf, hOkf, (Tup.well oP w16).mix dF16⟩⟩
    · obtain ⟨zf, z2, z3, z4, z5, z6, z7, z8, z9, rfl, sP, hF⟩ := hP
      rcases hF with ⟨h, _⟩ | ⟨m, p, pairs, mark, hOk, dF⟩
      · exact absurd h (by omega)
      have hm2 := hOk.m2
      have rl : ∀ x, (rowM m p pairs x).length ≤ 1000 := fun x => by
        unfold rowM
        have := List.length_filter_le (fun c => pairs.any fun q => led p x q % m == c) (List.range m)
        rw [List.length_range] at this
        omega
      have h12 : 12345 < 2 ^ 300 := by decide
      exact ⟨_, rfl, zf, m, p, pairs, mark, 12345, rfl, dF, hOk, h12, sP.tg (hT "are_pairs" (by decide +kernel)), fun H3 b3 g3 s3 => ⟨_, rfl, zf, m, p, pairs, mark, 12345, rfl, Dp.gro g3 _ _ dF, hOk, h12, fun H4 b4 g4 s4 => ⟨_, _, rowD (rowM m p pairs 12345), rfl, row_mk (g4.tupS s3), row_mk s4, fitK_row 4 (rl _), fun H5 s5 => q _⟩⟩⟩
end
/-! ### the head -/
def fn : List He.DefD := [⟨("is_integer", none), "is_integer", "is_integer", defArgs s_is_integer, defBody s_is_integer, defScope s_is_integer, [], []⟩,
  ⟨("is_below", none), "is_below", "is_below", defArgs s_is_below, defBody s_is_below, defScope s_is_below, [], []⟩,
  ⟨("are_integers", none), "are_integers", "are_integers", defArgs s_are_integers, defBody s_are_integers, defScope s_are_integers, [], []⟩,
  ⟨("is_pair", none), "is_pair", "is_pair", defArgs s_is_pair, defBody s_is_pair, defScope s_is_pair, [], []⟩,
  ⟨("are_pairs", none), "are_pairs", "are_pairs", defArgs s_are_pairs, defBody s_are_pairs, defScope s_are_pairs, [], []⟩,
  ⟨("are_unlike", none), "are_unlike", "are_unlike", defArgs s_are_unlike, defBody s_are_unlike, defScope s_are_unlike, [], []⟩,
  ⟨("check_number", none), "check_number", "check_number", defArgs s_check_number, defBody s_check_number, defScope s_check_number, [], []⟩,
  ⟨("is_mixing", none), "is_mixing", "is_mixing", defArgs s_is_mixing, defBody s_is_mixing, defScope s_is_mixing, [], []⟩,
  ⟨("row_of", none), "row_of", "row_of", defArgs s_row_of, defBody s_row_of, defScope s_row_of, [], []⟩,
  ⟨("mark_of", none), "mark_of", "mark_of", defArgs s_mark_of, defBody s_mark_of, defScope s_mark_of, [], []⟩,
  ⟨("book_of", none), "book_of", "book_of", defArgs s_book_of, defBody s_book_of, defScope s_book_of, [], []⟩,
  ⟨("seeded", none), "seeded", "seeded", defArgs s_seeded, defBody s_seeded, defScope s_seeded, [], []⟩,
  ⟨("mixed", none), "mixed", "mixed", defArgs s_mixed, defBody s_mixed, defScope s_mixed, [], []⟩,
  ⟨("seeded_pair", none), "seeded_pair", "seeded_pair", defArgs s_seeded_pair, defBody s_seeded_pair, defScope s_seeded_pair, [], []⟩,
  ⟨("check_mixing", none), "check_mixing", "check_mixing", defArgs s_check_mixing, defBody s_check_mixing, defScope s_check_mixing, [], []⟩,
  ⟨("check_numbers", none), "check_numbers", "check_numbers", defArgs s_check_numbers, defBody s_check_numbers, defScope s_check_numbers, [], []⟩,
  ⟨("_law_stock", none), "_law_stock", "_law_stock", defArgs s__law_stock, defBody s__law_stock, defScope s__law_stock, [], []⟩,
  ⟨("_law_pick", none), "_law_pick", "_law_pick", defArgs s__law_pick, defBody s__law_pick, defScope s__law_pick, [], []⟩,
  ⟨("_law_alike", none), "_law_alike", "_law_alike", defArgs s__law_alike, defBody s__law_alike, defScope s__law_alike, [], []⟩,
  ⟨("_law_mixing", none), "_law_mixing", "_law_mixing", defArgs s__law_mixing, defBody s__law_mixing, defScope s__law_mixing, [], []⟩,
  ⟨("_law_led", none), "_law_led", "_law_led", defArgs s__law_led, defBody s__law_led, defScope s__law_led, [], []⟩,
  ⟨("_law_row", none), "_law_row", "_law_row", defArgs s__law_row, defBody s__law_row, defScope s__law_row, [], []⟩,
  ⟨("_law_mark", none), "_law_mark", "_law_mark", defArgs s__law_mark, defBody s__law_mark, defScope s__law_mark, [], []⟩,
  ⟨("_law_seeded", none), "_law_seeded", "_law_seeded", defArgs s__law_seeded, defBody s__law_seeded, defScope s__law_seeded, [], []⟩,
  ⟨("_law_numbers", none), "_law_numbers", "_law_numbers", defArgs s__law_numbers, defBody s__law_numbers, defScope s__law_numbers, [], []⟩,
  ⟨("_law_is_whole", none), "_law_is_whole", "_law_is_whole", defArgs s__law_is_whole, defBody s__law_is_whole, defScope s__law_is_whole, [], []⟩,
  ⟨("_law_is_mixing", none), "_law_is_mixing", "_law_is_mixing", defArgs s__law_is_mixing, defBody s__law_is_mixing, defScope s__law_is_mixing, [], []⟩,
  ⟨("_law_put", none), "_law_put", "_law_put", defArgs s__law_put, defBody s__law_put, defScope s__law_put, [], []⟩,
  ⟨("_law_right", none), "_law_right", "_law_right", defArgs s__law_right, defBody s__law_right, defScope s__law_right, [], []⟩,
  ⟨("law", none), "law", "law", defArgs s_law, defBody s_law, defScope s_law, [], []⟩]
def fa : List He.Fa := [.glo "is_integer", .glo "is_below", .glo "are_integers", .glo "is_pair", .glo "are_pairs", .glo "are_unlike", .glo "check_number", .glo "is_mixing", .glo "row_of", .glo "mark_of", .glo "book_of", .glo "seeded", .glo "mixed", .glo "seeded_pair", .glo "check_mixing", .glo "check_numbers", .glo "_law_stock", .glo "_law_pick", .glo "_law_alike", .glo "_law_mixing", .glo "_law_led", .glo "_law_row", .glo "_law_mark", .glo "_law_seeded", .glo "_law_numbers", .glo "_law_is_whole", .glo "_law_is_mixing", .glo "_law_put", .glo "_law_right", .glo "law", .free "all", .free "bool", .free "int", .free "isinstance", .free "len", .free "list", .free "max", .free "min", .free "range", .free "set", .free "sorted", .free "str", .free "tuple", .free "zip"]
abbrev R : PySem.W.OpenRow := PySem.W.OpenLaw.row PySem.Challenge.rw_keytellers_k28_whole_rows_marks_and_seed
abbrev tq : List He.Defn := tf.map fun x => (x, none)
abbrev exF : PySem.W.Frag → Bool := (fun _ => true)
abbrev hk : PySem.W.Hook := He.hookX 4 fa fn [] tq exF
def ob (s : PySem.W.SharedT) : He.AlX := He.obsX 4 fa fn [] tq exF (HandSHeadRun.getT s)
theorem ob_eq (s : PySem.W.SharedT) : ob s = hk.obs s.abs := He.obsX_eq (HandSHeadRun.getT_eq s)
def loose : List PySem.Str := (["TellError", "InvalidNumber", "InvalidValues", "InvalidMixing", "is_integer", "is_below", "are_integers", "is_pair", "are_pairs", "are_unlike", "check_number", "is_mixing", "row_of", "mark_of", "book_of", "seeded", "mixed", "seeded_pair", "check_mixing", "check_numbers", "_law_stock", "_law_pick", "_law_alike", "_law_mixing", "_law_led", "_law_row", "_law_mark", "_law_seeded", "_law_numbers", "_law_is_whole"] : List PySem.Str) ++ (["_law_is_mixing", "_law_put", "_law_right"] : List PySem.Str)
theorem run (w : World) : HandSHeadRun.RunEq R (PySem.W.view R.prog [37]) hk ob 6000 loose w := by
  intro os
  kernel_rfl
theorem top_of {K : PySem.W.Frag} {h : Heap} {mg : Str → Option Value} (X : K.In h) (G : h.Ns mainGlobals mg) (c : He.SaysD fa fn K) : Top K mg where
  d_is_integer := here_mk X G c 0 0 rfl rfl
  d_is_below := here_mk X G c 1 1 rfl rfl
  d_are_integers := hereT_mk X G c 2 2 rfl rfl
  d_is_pair := here_mk X G c 3 3 rfl rfl
  d_are_pairs := hereT_mk X G c 4 4 rfl rfl
  d_are_unlike := here_mk X G c 5 5 rfl rfl
  d_check_number := here_mk X G c 6 6 rfl rfl
  d_is_mixing := here_mk X G c 7 7 rfl rfl
  d_row_of := here_mk X G c 8 8 rfl rfl
  d_mark_of := here_mk X G c 9 9 rfl rfl
  d_book_of := here_mk X G c 10 10 rfl rfl
  d_seeded := here_mk X G c 11 11 rfl rfl
  d_mixed := here_mk X G c 12 12 rfl rfl
  d_seeded_pair := here_mk X G c 13 13 rfl rfl
  d_check_mixing := here_mk X G c 14 14 rfl rfl
  d_check_numbers := here_mk X G c 15 15 rfl rfl
  d__law_stock := here_mk X G c 16 16 rfl rfl
  d__law_pick := here_mk X G c 17 17 rfl rfl
  d__law_alike := here_mk X G c 18 18 rfl rfl
  d__law_mixing := here_mk X G c 19 19 rfl rfl
  d__law_led := here_mk X G c 20 20 rfl rfl
  d__law_row := here_mk X G c 21 21 rfl rfl
  d__law_mark := here_mk X G c 22 22 rfl rfl
  d__law_seeded := here_mk X G c 23 23 rfl rfl
  d__law_numbers := here_mk X G c 24 24 rfl rfl
  d__law_is_whole := here_mk X G c 25 25 rfl rfl
  d__law_is_mixing := here_mk X G c 26 26 rfl rfl
  d__law_put := here_mk X G c 27 27 rfl rfl
  d__law_right := here_mk X G c 28 28 rfl rfl
  d_law := here_mk X G c 29 29 rfl rfl
  z_all := He.free_ok X G (c.fact 30 (f := .free "all") rfl)
  z_bool := He.free_ok X G (c.fact 31 (f := .free "bool") rfl)
  z_int := He.free_ok X G (c.fact 32 (f := .free "int") rfl)
  z_isinstance := He.free_ok X G (c.fact 33 (f := .free "isinstance") rfl)
  z_len := He.free_ok X G (c.fact 34 (f := .free "len") rfl)
  z_list := He.free_ok X G (c.fact 35 (f := .free "list") rfl)
  z_max := He.free_ok X G (c.fact 36 (f := .free "max") rfl)
  z_min := He.free_ok X G (c.fact 37 (f := .free "min") rfl)
  z_range := He.free_ok X G (c.fact 38 (f := .free "range") rfl)
  z_set := He.free_ok X G (c.fact 39 (f := .free "set") rfl)
  z_sorted := He.free_ok X G (c.fact 40 (f := .free "sorted") rfl)
  z_str := He.free_ok X G (c.fact 41 (f := .free "str") rfl)
  z_tuple := He.free_ok X G (c.fact 42 (f := .free "tuple") rfl)
  z_zip := He.free_ok X G (c.fact 43 (f := .free "zip") rfl)
theorem law_ok {P : Program} {w : World} {K : PySem.W.Frag} {mg : Str → Option Value} {base : Heap} (T : Top K mg) (B : ∀ x ∈ tf, GxR.TabB base mg (cA K x) (tA K x)) : CalG P w K mg base 11 "law" s_law ["script"] (spLawT K tf) := by
  have c_is_integer := ok_is_integer (P := P) (w := w) (base := base) T 
  have c_is_below := ok_is_below (P := P) (w := w) (base := base) T c_is_integer
  have B_are_integers := B "are_integers" (by decide +kernel)
  have c_are_integers := ok_are_integers (P := P) (w := w) (base := base) T B_are_integers c_is_integer
  have c_is_pair := ok_is_pair (P := P) (w := w) (base := base) T c_is_below
  have B_are_pairs := B "are_pairs" (by decide +kernel)
  have c_are_pairs := ok_are_pairs (P := P) (w := w) (base := base) T B_are_pairs c_is_pair
  have c_are_unlike := ok_are_unlike (P := P) (w := w) (base := base) T 
  have c_check_number := ok_check_number (P := P) (w := w) (base := base) T c_is_integer
  have c_is_mixing := ok_is_mixing (P := P) (w := w) (base := base) T c_is_integer c_are_pairs c_is_pair
  have c_check_mixing := ok_check_mixing (P := P) (w := w) (base := base) T c_is_mixing
  have c_mixed := ok_mixed (P := P) (w := w) (base := base) T 
  have c_row_of := ok_row_of (P := P) (w := w) (base := base) T c_check_mixing c_check_number c_mixed
  have c_mark_of := ok_mark_of (P := P) (w := w) (base := base) T c_check_mixing c_check_number c_mixed
  have c_check_numbers := ok_check_numbers (P := P) (w := w) (base := base) T c_are_integers c_are_unlike
  have c_book_of := ok_book_of (P := P) (w := w) (base := base) T c_check_mixing c_check_numbers c_row_of
  have c_seeded_pair := ok_seeded_pair (P := P) (w := w) (base := base) T 
  have c_seeded := ok_seeded (P := P) (w := w) (base := base) T c_check_mixing c_check_number c_seeded_pair
  have c__law_stock := ok__law_stock (P := P) (w := w) (base := base) T 
  have c__law_pick := ok__law_pick (P := P) (w := w) (base := base) T 
  have c__law_alike := ok__law_alike (P := P) (w := w) (base := base) T  6
  have c__law_mixing := ok__law_mixing (P := P) (w := w) (base := base) T c__law_pick
  have c__law_led := ok__law_led (P := P) (w := w) (base := base) T 
  have c__law_row := ok__law_row (P := P) (w := w) (base := base) T c__law_led
  have c__law_mark := ok__law_mark (P := P) (w := w) (base := base) T c__law_led
  have c__law_seeded := ok__law_seeded (P := P) (w := w) (base := base) T 
  have c__law_numbers := ok__law_numbers (P := P) (w := w) (base := base) T c__law_pick
  have c__law_is_whole := ok__law_is_whole (P := P) (w := w) (base := base) T 
  have c__law_is_mixing := ok__law_is_mixing (P := P) (w := w) (base := base) T c__law_is_whole
  have c__law_put := ok__law_put (P := P) (w := w) (base := base) T c__law_pick 6
  have c__law_right := ok__law_right (P := P) (w := w) (base := base) T c__law_numbers c__law_pick c__law_row c__law_mark c__law_alike c_row_of c_mark_of c_book_of
  exact CalG.of (ok_law T c__law_stock c__law_mixing c__law_pick c_is_mixing c__law_right c__law_seeded c__law_alike c_seeded c__law_put c__law_is_mixing c_row_of c__law_row)
end K28
open PySem PySem.W PySem.Calls PyProof.Rows
theorem PySem.Challenge.cw_keytellers_k28_whole_rows_marks_and_seed_holds : PySem.Challenge.rw_keytellers_k28_whole_rows_marks_and_seed.Holds := by
  w_on; o_law
  refine HandSHeadRun.head_any (r := OpenLaw.row PySem.Challenge.rw_keytellers_k28_whole_rows_marks_and_seed) (q := view (OpenLaw.row PySem.Challenge.rw_keytellers_k28_whole_rows_marks_and_seed).prog [37]) (H := K28.hk) (ob := K28.ob) (M := 6000) (loose := K28.loose) (d := HandSHeadRun.topDef (OpenLaw.row PySem.Challenge.rw_keytellers_k28_whole_rows_marks_and_seed).prog 37) (kwd := []) K28.ob_eq
    (by kernel_rfl) (fun s => by kernel_rfl) K28.run (by kernel_rfl) (by kernel_rfl) (by kernel_rfl) (by rfl) (by first | assumption | decide +kernel) (by decide +kernel) ⟨rfl, rfl, rfl, rfl, rfl, by decide +kernel⟩ ?hw ?hc
  case hw => w_witness2
  case hc =>
    refine Ky.walk_ofG (l := PySem.Challenge.rw_keytellers_k28_whole_rows_marks_and_seed) (n := 63) (k := 11) (x := "script") rfl (by decide) (by kernel_rfl) ⟨rfl, by decide, by decide⟩ ?F
    intro w mg fa h Y G hmg0
    obtain ⟨K, KX, c⟩ := Y
    have hmg : mg ("law" : PySem.Str) = some (.ref fa) := by
      have e : (HandSHeadRun.topDef (OpenLaw.row PySem.Challenge.rw_keytellers_k28_whole_rows_marks_and_seed).prog 37).name = ("law" : PySem.Str) := by kernel_rfl
      rw [← e]
      exact hmg0
    exact Ky.law_finG (sx := "script") (P := (PySem.Challenge.rw_keytellers_k28_whole_rows_marks_and_seed).prog) (w := w) KX G c hmg (K28.top_of KX G c.t.d).d_law (fun _ _ _ _ _ _ us hl => match us, hl with | [_], _ => rfl) (fun base hB => K28.law_ok (base := base) (K28.top_of KX G c.t.d) hB)
