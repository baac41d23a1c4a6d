import PyProof.Rows.All
import Wide.All
import OpenK.AllK
import Wide.FinOn
import KE.KStateDown
import Lean
import HandS.ForMost
import HandS.Codes
import HandS.Defaults
import HandS.IsInst
import HandS.Wide
import HandS.WideBits
import HandS.Flow
import HandS.Deep
import HandS.Style
import HandS.Ends
import HandS.Small
import HandS.TupAny
import HandS.SortInts
import HandS.Head0
import HandS.Head1
import HandS.Head2
import HandS.HeadEnd
import HandS.HeadHook1
import HandS.HeadHook2
import HandS.AnyAll
import HandS.GenOver
import HandS.GenBody
import HandS.GenList
import HandS.GenYield
import HandS.Comp
import HandS.EndTab
import HandS.HeadHook3
import HandS.HeadHook4
import HandS.HeadWalk
import HandS.NestedK
import PyProof.Rows.ReprR
import PyProof.ReprBulk
import PyProof.Rows.RegStrFacts
import KE.KMathGC
import HandS.Gcd
import HandS.Flt
import HandS.Head3
import PySem.Challenge.RW_keytellers_k39_whole_least_bits
set_option Elab.async false
set_option linter.all false
set_option maxRecDepth 100000
set_option maxHeartbeats 4000000
/-! ### what my proofs share: bundles of a def, calls by names alone, decks, data -/
namespace Ky
open PySem PySem.Spec PyProof.Rows L2
/-- a def of the text as it stands behind the top -/
structure Here (K : PySem.W.Frag) (mg : Str → Option Value) (x : Str) (st : Stmt) : Prop where
  ex : ∃ (f : Addr) (fd : FuncData), FunD K x x (defArgs st) (defBody st) (defScope st) [] [] f fd ∧ mg x = some (.ref f)
/-- .. and it keeps a promise -/
structure CalD (P : Program) (w : World) (K : PySem.W.Frag) (mg : Str → Option Value) (base : Heap) (k : Nat) (x : Str) (st : Stmt) (ps : List Str) (sp : Sp) : Prop where
  ex : ∃ (f : Addr) (fd : FuncData), FnOk P w K mg base CX0 k f fd ps sp ∧ FunD K x x (defArgs st) (defBody st) (defScope st) [] [] f fd ∧ mg x = some (.ref f) ∧ Binds K fd ps []
section
variable {P : Program} {w : World} {K : PySem.W.Frag} {mg : Str → Option Value} {base : Heap} {k : Nat} {x : Str} {st : Stmt} {ps : List Str} {sp : Sp}
theorem cal_mk {N : List Str} (D : Here K mg x st) (S : FnScope N ps (defScope st))
    (hb : ∀ (kV doc pm : Value) (an : Option Addr) (cdv ct : Value) (us : List Value), us.length = ps.length → bindArgs (PySem.W.fnOf x x (defArgs st) (defBody st) (defScope st) .none kV doc pm an cdv ct) ⟨us, []⟩ = pure (ps.zip us))
    (len : ∀ vs H Q E, sp vs H Q E → vs.length = ps.length)
    (hbody : ∀ (f : Addr) (cdv : Value) (A : Around) (outer : List Env) (s : Shared) (H : Hp) (vs : List V) (Q : VK) (E : XK), Room k (A.deeper (envOfC x (defScope st) s.heap.objs.size f cdv)) → sp vs H Q E →
      ∃ t, PSs (cxOf CX0 P w K mg base N x (defScope st) f cdv A outer s H E).nox (defBody st) t ∧ t { nx := fun _ H' => Q .non H', rt := Q } (start N vs) H) : CalD P w K mg base (k + 1) x st ps sp := by
  obtain ⟨f, fd, F, g⟩ := D.ex
  refine ⟨f, fd, F.ok S len fun cdv A outer s H vs Q E hr h => ?_, F, g, F.bindsN hb⟩
  obtain ⟨t, h1, h2⟩ := hbody f cdv A outer s H vs Q E hr h
  exact ⟨t, h1.nox, h2⟩
end
theorem pe_f {X : Cx} {k j : Nat} {x : Str} {st : Stmt} {ps : List Str} {sp : Sp} {p pos : Pos} {e : Expr} {es : List Expr} {t : TA} (c : CalD X.prog X.w X.K X.mg X.base k x st ps sp) (hr : Room j X.A) (hk : k ≤ j) (hg : Gl X x) (ha : PA X (e :: es) t)
    (hdb : (x == ("__debug__" : Str)) = false := by decide) (he : starEach (e :: es) X.env = (false, eval e X.env) :: starEach es X.env := by rfl) (hpl : (backTo pos (starEach es X.env)).any (·.1) = false := by rfl) :
    PE X (.Call (.Name x p) (e :: es) [] pos) (tCall sp [] E0 t) := by
  obtain ⟨f, fd, F, D, hm, b⟩ := c.ex
  exact pe_call F (hr.mono hk) hg hm D.kp b .nil pass0 ha hdb he hpl
/-! ### f(k = v, ..), names alone -/
def permL {α : Type} (perm : List Nat) (zs : List α) : List α := perm.filterMap fun i => zs[i]?
theorem permL_rel {vs : List V} {us : List Value} (r : Vals vs us) : ∀ perm : List Nat, Vals (permL perm vs) (permL perm us)
  | [] => .nil
  | i :: is => by
    unfold permL
    rw [List.filterMap_cons, List.filterMap_cons]
    have ih := permL_rel r is
    cases e : vs[i]? with
    | none =>
      rw [r.none_of e]
      exact ih
    | some v =>
      obtain ⟨u, e2, r2⟩ := r.get e
      rw [e2]
      exact .cons r2 ih
def tCallP (n : Nat) (perm : List Nat) (sp : Sp) (tk : TA) : TE := fun σ H Q => tk σ H fun zs H2 => zs.length = n ∧ sp (permL perm zs) H2 Q E0
theorem pe_k0 {X : Cx} {k j : Nat} {x : Str} {st : Stmt} {ps : List Str} {sp : Sp} {p pos : Pos} {kws : List Keyword} {tk : TA} (ks : List Str) (perm : List Nat)
    (h : ∀ (kV doc pm : Value) (an : Option Addr) (cdv ct : Value) (ws : List Value), ws.length = ks.length → bindArgs (PySem.W.fnOf x x (defArgs st) (defBody st) (defScope st) .none kV doc pm an cdv ct) ⟨[], ks.zip ws⟩ = pure (ps.zip (permL perm ws)))
    (c : CalD X.prog X.w X.K X.mg X.base k x st ps sp) (hr : Room j X.A) (hk : k ≤ j) (hg : Gl X x) (hkw : PK X kws tk)
    (hall : (backToKw pos (keywordEach kws X.env)).all (·.1.isSome) = true := by rfl) (hks : (backToKw pos (keywordEach kws X.env)).filterMap (·.1) = ks := by rfl) (hdb : (x == ("__debug__" : Str)) = false := by decide)
    (hpl : ((backTo pos (starEach [] X.env)).any (·.1) || (backToKw pos (keywordEach kws X.env)).any (·.1.isNone)) = false := by rfl) :
    PE X (.Call (.Name x p) [] kws pos) (tCallP ks.length perm sp tk) := by
  obtain ⟨f, fd, F, D, hm, b⟩ := c.ex
  have kb : KBn X.K fd ps 0 ks (fun _ ws => permL perm ws) (fun _ zs => permL perm zs) := by
    obtain ⟨oc, od, dV, kV, doc, pm, an, cdv, ct, osl, rfl, lk, hcd, hD, hK⟩ := D.ex
    rcases hD with ⟨_, rfl⟩ | ⟨e, _⟩
    · refine ⟨fun s us ws _ l1 l2 => ?_, fun _ r => permL_rel r perm⟩
      have e := List.eq_nil_of_length_eq_zero l1
      subst e
      exact .of_eq (h kV doc pm an cdv ct ws l2)
    · exact absurd rfl e
  refine ⟨fun pins s σ H Q I hh => ?_⟩
  refine wpAny_Call_Name_kw (ld_glob I hg hm ?_ hdb)
  refine PySem.W.callWith_KW0 (h₀ := X.base) I.ok.mod.kin D.kp hall ?_ hpl
  refine thn (hkw.run pos pins s σ H _ I hh) fun ws s2 ⟨zs, H2, I2, rz, l2, q2⟩ => ⟨I2.kIn, ?_⟩
  rw [hks]
  exact run_fnN (us := []) (vs := []) (F.mono hk) hr kb pass0 I2 .nil rz rfl l2 q2
/-! ### the heap but for one object -/
def Off (a : Addr) (H H' : Hp) : Prop := ∀ b o, b ≠ a → H b = some o → H' b = some o
theorem Off.refl (a : Addr) (H : Hp) : Off a H H := fun _ _ _ h => h
theorem Off.trans {a : Addr} {H H1 H2 : Hp} (h : Off a H H1) (h2 : Off a H1 H2) : Off a H H2 := fun b o n e => h2 b o n (h b o n e)
theorem Off.of {a : Addr} {H H' : Hp} (h : Same H H') : Off a H H' := fun b o _ e => h b o e
theorem Off.upd (a : Addr) (H : Hp) (o : HO) : Off a H (upd H a o) := fun b u n e => by rw [upd_ne n]; exact e
theorem same_upd {H : Hp} {p : Addr} {o : HO} (h : H p = none) : Same H (upd H p o) := fun b x e => by
  rw [upd_ne (ne_of_none e h)]
  exact e
theorem Same.tupS {K : PySem.W.Frag} {H H' : Hp} {a : Addr} {xs : List V} (e : Same H H') (h : SqT K H a xs) : SqT K H' a xs := by
  rcases h with (h | ⟨o, h⟩) | h
  · exact .inl (.inl (e _ _ h))
  · exact .inl (.inr ⟨o, e _ _ h⟩)
  · exact .inr h
theorem log2_small {z : Int} (h : z.natAbs < 2 ^ 200) : z.natAbs.log2 < 9000 := Nat.lt_of_lt_of_le (PySem.Flt.log2_lt_of (by decide) h) (by decide)
/-! ### decks of drawn numbers -/
def DeckAt (H : Hp) (a : Addr) : Prop := ∃ x y : Int, H a = some (.lst [.int x, .int y]) ∧ 0 ≤ y ∧ y < 18446744073709551616
theorem DeckAt.upd (H : Hp) (a : Addr) (x : Int) {y : Int} (h0 : 0 ≤ y) (h1 : y < 18446744073709551616) : DeckAt (upd H a (.lst [.int x, .int y])) a := ⟨x, y, upd_same, h0, h1⟩
theorem DeckAt.same {H H' : Hp} {a : Addr} (h : DeckAt H a) (s : Same H H') : DeckAt H' a := by
  obtain ⟨x, y, e, h0, h1⟩ := h
  exact ⟨x, y, s _ _ e, h0, h1⟩
def spTake : Sp := fun vs H Q _ => ∃ (a : Addr) (m : Int), vs = [.ref a, .int m] ∧ DeckAt H a ∧ 0 < m ∧ m.natAbs.log2 < 9000 ∧
  ∀ (t x y : Int), 0 ≤ t → t < m → 0 ≤ y → y < 18446744073709551616 → Q (.int t) (upd H a (.lst [.int x, .int y]))
def spDeck (K : PySem.W.Frag) : Sp := fun vs H Q _ => ∃ (s : Addr) (ns : List Int) (j : Nat), vs = [.ref s, .int (j : Int)] ∧ SqL K H s (ns.map V.int) ∧ j < 1000000 ∧
  ∀ (H' : Hp) (p : Addr), Same H H' → H p = none → DeckAt H' p → Q (.ref p) H'
theorem em61 (z : Int) : (z % 2305843009213693951).natAbs < 2 ^ 61 := by
  have h1 := Int.emod_nonneg z (show (2305843009213693951 : Int) ≠ 0 by decide)
  have h2 := Int.emod_lt_of_pos z (show (0 : Int) < 2305843009213693951 by decide)
  omega
/-! ### data -/
mutual
theorem Dp.same {K : PySem.W.Frag} {H H' : Hp} (s : Same H H') : ∀ (d : PyData) (v : V), Dp K H v d → Dp K H' v d
  | .none, _, h => by cases h; exact .non
  | .bool b, _, h => by cases h; exact .bl b
  | .int i, _, h => by cases h; exact .int i
  | .str x, _, h => by cases h; exact .str x
  | .list ds, _, h => by
    cases h with
    | lst h1 h2 => exact .lst (s.seq h1) (DpAll.same s ds _ h2)
  | .tuple ds, _, h => by
    cases h with
    | tup h1 h2 => exact .tup (Same.tupS s h1) (DpAll.same s ds _ h2)
  | .dict _, _, h => nomatch h
theorem DpAll.same {K : PySem.W.Frag} {H H' : Hp} (s : Same H H') : ∀ (ds : List PyData) (vs : List V), DpAll K H vs ds → DpAll K H' vs ds
  | [], _, h => by cases h; exact .nil
  | d :: ds, _, h => by
    cases h with
    | cons h1 h2 => exact .cons (Dp.same s d _ h1) (DpAll.same s ds _ h2)
end
/-- of nesting below n, no dicts, lists and tuples of fewer than 2 ^ 62 items -/
def Fit : Nat → PyData → Prop
  | 0, _ => False
  | _ + 1, .none => True
  | _ + 1, .bool _ => True
  | _ + 1, .int _ => True
  | _ + 1, .str _ => True
  | n + 1, .list ds => ds.length < 4611686018427387904 ∧ ∀ e ∈ ds, Fit n e
  | n + 1, .tuple ds => ds.length < 4611686018427387904 ∧ ∀ e ∈ ds, Fit n e
  | _ + 1, .dict _ => False
theorem DpAll.get {K : PySem.W.Frag} {H : Hp} : ∀ (ds : List PyData) {vs : List V} {i : Nat} {d : PyData}, DpAll K H vs ds → ds[i]? = some d → ∃ v, vs[i]? = some v ∧ Dp K H v d
  | [], _, _, _, _, e => by simp at e
  | d0 :: ds, _, i, d, h, e => by
    cases h with
    | cons h1 h2 =>
      cases i with
      | zero =>
        have e2 := Option.some.inj (show some d0 = some d from e)
        subst e2
        exact ⟨_, rfl, h1⟩
      | succ i =>
        obtain ⟨v, e1, e2⟩ := DpAll.get ds (i := i) h2 (by simpa using e)
        exact ⟨v, by simpa using e1, e2⟩
theorem DpAll.length {K : PySem.W.Frag} {H : Hp} : ∀ (ds : List PyData) {vs : List V}, DpAll K H vs ds → vs.length = ds.length
  | [], _, h => by cases h; rfl
  | d :: ds, _, h => by
    cases h with
    | cons h1 h2 => exact congrArg (· + 1) (DpAll.length ds h2)
theorem ty_list {K : PySem.W.Frag} {H : Hp} {a : Addr} {xs : List V} (h : SqL K H a xs) : TyX K H (.ref a) (.type "list") := by
  rcases h with (h | ⟨o, h⟩) | ⟨o, its, n, hk, hc, _⟩
  · exact .base (.lst h)
  · exact .base (.frz h)
  · exact .kList hk hc
theorem ty_tuple {K : PySem.W.Frag} {H : Hp} {a : Addr} {xs : List V} (h : SqT K H a xs) : TyX K H (.ref a) (.type "tuple") := by
  rcases h with (h | ⟨o, h⟩) | ⟨o, its, n, hk, hc, _⟩
  · exact .base (.tup h)
  · exact .fTuple h
  · exact .kTuple hk hc
/-- the built-in type of such data -/
def tyD : PyData → String
  | .none => "NoneType"
  | .bool _ => "bool"
  | .int _ => "int"
  | .str _ => "str"
  | .list _ => "list"
  | .tuple _ => "tuple"
  | .dict _ => "dict"
theorem ty_data {K : PySem.W.Frag} {H : Hp} {v : V} {d : PyData} (h : Dp K H v d) : TyX K H v (.type (tyD d)) := by
  cases h with
  | non => exact .base .non
  | bl b => exact .base (.bl b)
  | int i => exact .base (.int i)
  | str x => exact .base (.str x)
  | lst h _ => exact ty_list h
  | tup h _ => exact ty_tuple h
theorem kit2 {K : PySem.W.Frag} {a b c : String} {r s : Bool} (h1 : kitB a b = some r) (h2 : kitB a c = some s) : PySem.W.kitAny K (.type a) [.type b, .type c] = some (r || s) := by
  unfold PySem.W.kitAny
  rw [kit_ty h1]
  cases r with
  | true => rfl
  | false =>
    show PySem.W.kitAny K (.type a) [.type c] = some s
    unfold PySem.W.kitAny
    rw [kit_ty h2]
    cases s <;> rfl
/-- the same data at both: True -/
def spSame (K : PySem.W.Frag) (n : Nat) : Sp := fun vs H Q _ => ∃ (x y : V) (d : PyData), vs = [x, y] ∧ Dp K H x d ∧ Dp K H y d ∧ Fit n d ∧ ∀ H', Same H H' → Q (.bl true) H'
theorem dpI {K : PySem.W.Frag} {H : Hp} : ∀ l : List Int, DpAll K H (l.map V.int) (l.map PyData.int)
  | [] => .nil
  | i :: l => .cons (.int i) (dpI l)
theorem dpB {K : PySem.W.Frag} {H : Hp} : ∀ l : List Bool, DpAll K H (l.map V.bl) (l.map PyData.bool)
  | [] => .nil
  | i :: l => .cons (.bl i) (dpB l)
theorem fitI (n : Nat) (l : List Int) (h : l.length < 1000000) : Fit (n + 2) (.list (l.map PyData.int)) ∧ Fit (n + 2) (.tuple (l.map PyData.int)) := by
  have h1 : (l.map PyData.int).length < 4611686018427387904 := by
    rw [List.length_map]
    omega
  have h2 : ∀ e ∈ l.map PyData.int, Fit (n + 1) e := fun e he => by
    obtain ⟨i, _, rfl⟩ := List.mem_map.mp he
    exact trivial
  exact ⟨⟨h1, h2⟩, ⟨h1, h2⟩⟩
theorem fitB (n : Nat) (l : List Bool) (h : l.length < 1000000) : Fit (n + 2) (.list (l.map PyData.bool)) := by
  have h1 : (l.map PyData.bool).length < 4611686018427387904 := by
    rw [List.length_map]
    omega
  exact ⟨h1, fun e he => by
    obtain ⟨i, _, rfl⟩ := List.mem_map.mp he
    exact trivial⟩
/-- two lists of ints, one behind the other, that hold the same -/
theorem two_i {K : PySem.W.Frag} {H : Hp} {p1 p2 : Addr} (l l' : List Int) (e : l = l') (h1 : H p1 = some (.lst (l.map V.int))) (h2 : H p2 = none) :
    Dp K (upd H p2 (.lst (l'.map V.int))) (.ref p1) (.list (l.map PyData.int)) ∧ Dp K (upd H p2 (.lst (l'.map V.int))) (.ref p2) (.list (l.map PyData.int)) := by
  subst e
  exact ⟨.lst (SqL.of (same_upd h2 _ _ h1)) (dpI l), .lst (SqL.of upd_same) (dpI l)⟩
theorem two_b {K : PySem.W.Frag} {H : Hp} {p1 p2 : Addr} (l l' : List Bool) (e : l = l') (h1 : H p1 = some (.lst (l.map V.bl))) (h2 : H p2 = none) :
    Dp K (upd H p2 (.lst (l'.map V.bl))) (.ref p1) (.list (l.map PyData.bool)) ∧ Dp K (upd H p2 (.lst (l'.map V.bl))) (.ref p2) (.list (l.map PyData.bool)) := by
  subst e
  exact ⟨.lst (SqL.of (same_upd h2 _ _ h1)) (dpB l), .lst (SqL.of upd_same) (dpB l)⟩
/-! ### rules with the written part named (within a comprehension) -/
section
variable {X : Cx}
def tTru (K : PySem.W.Frag) (ta : TE) : TT := fun σ H Q => ta σ H fun x H' => ∃ k, TruV K x H' k ∧ Q k H'
theorem pt_truth_at (K : PySem.W.Frag) (e : X.K = K) {a : Expr} {ta : TE} (ha : PE X a ta) (he : ∀ whole, isTrue a X.env whole = (do let v ← whole; standAt a.pos; holding [v] (truthy v))) :
    PT X a (tTru K ta) := by subst e; exact pt_truth ha he
theorem ix_seq_at (K : PySem.W.Frag) (e : X.K = K) : IxR X (rIx K) := by subst e; exact ix_seq
theorem ix_list_at (K : PySem.W.Frag) (e : X.K = K) : IxR X (rIxL K) := by subst e; exact ix_list
theorem ix_tup_at (K : PySem.W.Frag) (e : X.K = K) : IxR X (rIxT K) := by subst e; exact ix_tup
theorem call_isi_at (K : PySem.W.Frag) (e : X.K = K) : CallR X (.builtin "isinstance") (rIsi K) := by subst e; exact call_isi
theorem call_isiT_at (K : PySem.W.Frag) (e : X.K = K) : CallR X (.builtin "isinstance") (rIsiT K) := by subst e; exact call_isiT
theorem call_len_seq_at (K : PySem.W.Frag) (e : X.K = K) : CallR X (.builtin "len") (fun xs H Q => ∃ p ys, xs = [.ref p] ∧ (SqL K H p ys ∨ SqT K H p ys) ∧ Q (.int ys.length) H) := by subst e; exact call_len_seq
end
/-! ### the end -/
theorem here_mk {fa : List He.Fa} {fn : List He.DefD} {K : PySem.W.Frag} {h : Heap} {mg : Str → Option Value} (X : K.In h) (G : h.Ns mainGlobals mg) (c : He.SaysD fa fn K) (i j : Nat) {x : Str} {st : Stmt}
    (hi : fn[i]? = some ⟨(x, none), x, x, defArgs st, defBody st, defScope st, [], []⟩) (hj : fa[j]? = some (.glo x)) : Here K mg x st := by
  obtain ⟨fd, F⟩ := c.def_ i hi
  exact ⟨_, fd, F, He.glo_ok X G (c.fact j hj)⟩
/-- a law over the script's list: True -/
def spLaw (K : PySem.W.Frag) : Sp := fun vs H Q _ => ∃ (s : Addr) (ns : List Int), vs = [.ref s] ∧ SqL K H s (ns.map V.int) ∧ ns.length ≤ 63 ∧ ∀ H', Q (.bl true) H'
theorem law_fin {P : Program} {w : World} {K : PySem.W.Frag} {h : Heap} {mg : Str → Option Value} {fa : Addr} {k : Nat} {st : Stmt} (X : K.In h) (G : h.Ns mainGlobals mg) (hmg : mg ("law" : Str) = some (.ref fa)) (D : Here K mg "law" st)
    (hb : ∀ (kV doc pm : Value) (an : Option Addr) (cdv ct : Value) (us : List Value), us.length = (["script"] : List Str).length → bindArgs (PySem.W.fnOf "law" "law" (defArgs st) (defBody st) (defScope st) .none kV doc pm an cdv ct) ⟨us, []⟩ = pure ((["script"] : List Str).zip us))
    (C : ∀ base : Heap, CalD P w K mg base k "law" st ["script"] (spLaw K)) :
    ∃ (K : PySem.W.Frag) (fd : FuncData) (sp : Sp), K.In h ∧ (∀ (s : Shared) (u : Value), BindsTo s fd ⟨[u], []⟩ [(("script" : Str), u)]) ∧
      (∀ (H : Hp) (a : Addr) (ns : List Int), ns.length ≤ 63 → Only H → SqL K H a (ns.map V.int) → sp [.ref a] H (fun v _ => v = .bl true) fun _ _ _ => False) ∧
      ∀ base : Heap, K.In base → base.Ns mainGlobals mg → FnOk P w K mg base CX0 k fa fd ["script"] sp := by
  obtain ⟨f, fd, F, g⟩ := D.ex
  have e := hmg.symm.trans g
  cases e
  have b := FunD.bindsA (ps := ["script"]) F hb
  refine ⟨K, fd, spLaw K, X, fun s v => b s [v] rfl, fun H a ns hl _ hS => ⟨a, ns, rfl, hS, hl, fun _ => rfl⟩, fun base _ _ => ?_⟩
  obtain ⟨f2, fd2, F2, D2, g2, _⟩ := (C base).ex
  have e2 := g.symm.trans g2
  cases e2
  have e3 : fd = fd2 := by
    obtain ⟨_, _, _, _, _, _, _, _, _, _, _, l1, _⟩ := F.ex
    obtain ⟨_, _, _, _, _, _, _, _, _, _, _, l2, _⟩ := D2.ex
    have l3 := l1.symm.trans l2
    injection l3 with l4
    injection l4 with _ _ l5
    injection l5
  rw [e3]
  exact F2
end Ky
/-! ### all(e for x in xs), any(..): the element of any kind, by the frame of its own -/
namespace Gx
open PySem PySem.Spec PyProof.Rows L2
/-- the frame's context -/
abbrev gxC (X : Cx) (A : Around) (s : Shared) (H : Hp) (cenv : Env) (fp : List Addr) : Cx :=
  { X with A := A, s_0 := s, H_0 := H, env := cenv, outer := X.stack, stack := cenv :: X.stack, ex := fp, fn := fun _ => false, calm := true, pn := [], xe := fun _ _ => False }
theorem inv_swap {X : Cx} {pins : List (Addr × Obj)} {σ : L2.St} {H : Hp} {s s' : Shared} (I : Inv X pins σ H s) (e : s'.heap = s.heap) (os : s'.os = s.os) (b : AllBare s'.gens) : Inv X pins σ H s' where
  ok := I.ok
  os := os.trans I.os
  bare := b
  base := by rw [e]; exact I.base
  loc := by rw [e]; exact I.loc
  cell := by rw [e]; exact I.cell
  free := I.free
  freeC := I.freeC
  pin := by rw [e]; exact I.pin
  hok := by rw [e]; exact I.hok
  len := I.len
/-- between two turns -/
structure At (Z : Cx) (pins : List (Addr × Obj)) (fp : List Addr) (tn : Nat → Heap → Prop) (σ : L2.St) (i : Nat) (H : Hp) (s : Shared) : Prop where
  inv : Inv Z pins σ H s
  tn : tn i s.heap
  fp : ∀ b ∈ fp, H b = none
abbrev genE (elt tg iter : Expr) (scope : Scope) (pos : Pos) : Expr := .GeneratorExp elt [⟨tg, iter, [], 0⟩] scope pos
section
variable {Z : Cx} {pins : List (Addr × Obj)} {fp : List Addr} {tn : Nat → Heap → Prop} {σ : L2.St} {n : Nat} {b : Nat → Bool} {Nx : Nat → Hp → Prop} {Pv : Nat → Hp → Prop}
/-- an item is handed out: the i-th, b i; what follows if it is gone on -/
def Yg (Z : Cx) (pins : List (Addr × Obj)) (fp : List Addr) (tn : Nat → Heap → Prop) (σ : L2.St) (n : Nat) (b : Nat → Bool) (Nx : Nat → Hp → Prop) : Protocol := fun m _ v s kap =>
  ∃ i H, m + 1 + i = n ∧ v = .bool (b i) ∧ At Z pins fp tn σ (i + 1) H s ∧ Nx i H ∧ ((Nx i H → ∀ s', s'.heap = s.heap → s'.os = s.os → AllBare s'.gens → b i = true → kap (.send .none) s'))
/-- the end: none is left -/
def Rg (Z : Cx) (pins : List (Addr × Obj)) (fp : List Addr) (tn : Nat → Heap → Prop) (σ : L2.St) (n : Nat) (Pv : Nat → Hp → Prop) : GenEnd := fun m _ r s =>
  ((r = .ok (.ret .none) ∨ r = .ok .next) ∧ (∃ H, Inv Z pins σ H s ∧ Pv n H)) ∨ ∃ e, r = .error e ∧ False
theorem gx_loop {B : Around} {elt tg iter : Expr} {scope : Scope} {pos : Pos} {it : Addr} {J : It} {g : TG} {te : TE} {vs : List Nat}
    (hA : B.over (.compLoop (genE elt tg iter scope pos) 0 (.ref it) .none Z.env) [] = Z.A) (hx : Z.ex = fp) (hpn : Z.pn = []) (hxe : Z.xe = fun _ _ => False) (hc : Z.calm = true) (hco : Z.env.scope.isCoroutine = false) (hpf : ∀ p ∈ pins, p.1 ∉ fp)
    (T : Turn Z.prog Z.w Z.K tg J fp it tn) (pg : PG Z tg g) (pe : PE Z elt te)
    (turn : ∀ i H, i < n → Pv i H → J.go i H ∧ ∀ x H', J.yld i H x H' → g x σ H' fun σ2 H2 => wipe σ2 vs = σ ∧ te σ2 H2 fun y H3 => y = .bl (b i) ∧ Nx i H3)
    (goon : ∀ i H, Nx i H → b i = true → Pv (i + 1) H) (done : ∀ H, Pv n H → J.stop n H) :
    ∀ (k i : Nat) (s₀ s : Shared) (H : Hp), n - i = k → i ≤ n → Pv i H → At Z pins fp tn σ i H s →
      Seg (model Z.prog Z.w) B (Rg Z pins fp tn σ n Pv) (Yg Z pins fp tn σ n b Nx) k s₀ (.compLoop (genE elt tg iter scope pos) 0 (.ref it) .none Z.env)
        ((model Z.prog Z.w).den (.compLoop (genE elt tg iter scope pos) 0 (.ref it) .none Z.env)) [] s := by
  have stat : ∀ {σ' : L2.St} {H' : Hp} {s' : Shared} {ps : List (Addr × Obj)}, (∀ p ∈ ps, p.1 ∉ fp) → Inv Z ps σ' H' s' → (∀ b ∈ fp, H' b = none) → ∀ b ∈ fp, FpOk Z ps H' b := fun {σ' H' s' ps} hp I' hn b hb => by
    have hb2 : b ∈ Z.ex := by rw [hx]; exact hb
    refine ⟨hn b hb, (I'.ok.exf b hb2).1, I'.ok.exfs b hb2, .inl hb2, fun x c e => (I'.ok.exf b hb2).2 x c e, fun p hq z => ?_⟩
    rw [hpn, List.nil_append] at hq
    exact hp p hq (by rw [z]; exact hb)
  intro k
  induction k with
  | zero =>
    intro i s₀ s H hk hi hP hI
    have hin : i = n := by omega
    subst hin
    show Seg _ B _ _ _ s₀ _ ((compTurn (genE elt tg iter scope pos) 0 (.ref it) .none Z.env).onRaise (leaving Z.env)) [] s
    rw [compTurn_gen, Sem.onRaise_eq_wrap]
    refine seg_bind_wrap (wpAny_standAt ?_)
    have td := T.done Z rfl rfl rfl hc i pins s σ H (fun _ _ => False) hI.inv (stat hpf hI.inv hI.fp) hI.tn (done H hP)
    rw [← hA] at td
    refine seg_bind_wrap (thnF td fun r s1 ⟨hr, I1⟩ => ?_)
    subst hr
    exact seg_end (.ok .next) (.inl ⟨.inr rfl, H, I1, hP⟩)
  | succ k ih =>
    intro i s₀ s H hk hi hP hI
    have hlt : i < n := by omega
    obtain ⟨go, step⟩ := turn i H hlt hP
    show Seg _ B _ _ _ s₀ _ ((compTurn (genE elt tg iter scope pos) 0 (.ref it) .none Z.env).onRaise (leaving Z.env)) [] s
    rw [compTurn_gen, Sem.onRaise_eq_wrap]
    refine seg_bind_wrap (wpAny_standAt ?_)
    have ti := T.item Z rfl rfl rfl hc i pins s σ H (fun _ _ => False) hI.inv (stat hpf hI.inv hI.fp) hI.tn go
    rw [← hA] at ti
    refine seg_bind_wrap (thnF ti fun r s1 ⟨u, hr, h1⟩ => ?_)
    subst hr
    refine seg_bind_wrap (thnF h1 fun _ s2 ⟨x, H2, I2, r2, y2, st2, n2⟩ => ?_)
    have I2' := I2.pinned (stat hpf I2 n2) (T.obj _ _ st2)
    have h3 := pg.run _ s2 _ H2 x u _ I2' r2 (step x H2 y2)
    rw [← hA, hxe] at h3
    refine seg_bind_wrap (thnF h3 fun _ s3 ⟨σ3, H3, I3, hw3, q3⟩ => ?_)
    simp only [List.forIn_nil]
    refine seg_bind_wrap (wpAny_pure ?_)
    simp only [if_true]
    have hy : ∀ v, yieldOut Z.env v = yieldValue v := fun v => by simp only [yieldOut, hco, Bool.false_eq_true, if_false]
    simp only [hy]
    rw [Sem.bind_eq_wrap', Sem.bind_eq_wrap', Sem.wrap_wrap, Sem.wrap_wrap]
    have h4 := pe.run _ s3 σ3 H3 _ I3 q3
    rw [← hA, hxe] at h4
    refine seg_wrap (thnF h4 fun v s4 ⟨yv, H4, I4, r4, e4, nx⟩ => ?_)
    subst e4
    cases r4
    have pin' : ∀ c ∈ fp, ∀ o, s2.heap.get? c = some o → s4.heap.get? c = some o ∧ H4 c = none := fun c hc o e =>
      let z := I4.pin (c, o) (List.mem_append_right _ (List.mem_append_right _ (mem_pinsAt hc e)))
      ⟨z.1, z.2.1⟩
    have hl : σ.length = σ3.length := by rw [← hw3, wipe_length]
    have at4 : At Z pins fp tn σ (i + 1) H4 s4 := ⟨(I4.unpinned (pins := pins)).weak hl (fun j v e => by
        rw [← hw3] at e
        exact (wipe_some e).1), T.keep _ _ _ st2 fun c hc o e => (pin' c hc o e).1, fun c hc => by
        obtain ⟨o, e, _⟩ := T.obj _ _ st2 c hc
        exact (pin' c hc o e).2⟩
    refine seg_at (seg_yield rfl rfl rfl ⟨i, H4, by omega, rfl, at4, nx, fun nx' s'' e1 e2 e3 hb => ?_⟩)
    refine seg_again rfl (ih (i + 1) s'' s'' H4 (by omega) hlt (goon i H4 nx' hb) ⟨inv_swap at4.inv e1 e2 e3, ?_, at4.fp⟩)
    rw [e1]
    exact at4.tn
/-- the loop of all: each item asked, until one is false -/
theorem all_loop {A : Around} {ga : Addr} {gn : Nat} {gobj : Obj} {Rr : Result → Shared → Prop} (hh : A.handled = none) (hd : A.depth < recursionLimit) (hgo : ∀ h : Heap, h.get? ga = some gobj → h.IsGen ga gn) (hpi : (ga, gobj) ∈ pins)
    (goon : ∀ i H, Nx i H → b i = true → Pv (i + 1) H)
    (hend : ∀ s' H', Inv Z pins σ H' s' → Pv n H' → ∀ s'' : Shared, s''.os = s'.os → AllBare s''.gens → (∀ c o, s'.heap.get? c = some o → s''.heap.get? c = some o) → Rr (.ok (.ret (.bool true))) s'')
    (hno : ∀ s' H' i, Inv Z pins σ H' s' → Nx i H' → b i = false → ∀ s'' : Shared, s''.os = s'.os → AllBare s''.gens → s''.heap = s'.heap → Rr (.ok (.ret (.bool false))) s'') :
    ∀ (m : Nat) (s : Shared), s.heap.IsGen ga gn → s.heap.NoLimit →
      (∃ gs, s.gens[gn]? = some gs ∧ gs.Goes (model Z.prog Z.w) A.in1.in1 (Rg Z pins fp tn σ n Pv) (Yg Z pins fp tn σ n b Nx) m (.send .none) (s.setGen gn .running)) →
      codeAny (model Z.prog Z.w) A (.builtin "all.loop" ⟨[.ref ga], []⟩) Rr s := by
  intro m
  induction m with
  | zero =>
    intro s hg hl ⟨gs, hgs, hgo2⟩
    have hgl : gn < s.gens.size := (Array.getElem?_eq_some_iff.mp hgs).1
    refine codeAny_builtin F.entry_all_loop ?_
    rw [Around.under_plainId F.plain_all_loop _]
    show wpAny _ A.in1 (pyNext (.ref ga) >>= _) _ _ s
    refine wpAny_bind (next_genG (A := A.in1) (F := fun _ _ s₁ => ∃ H, Inv Z pins σ H s₁ ∧ Pv n H) (Er := fun _ _ => False) hh hl hd hg hgs hgo2 (fun v s₁ gs' hbare hv => ?_) (fun s₁ hp h' hk => ?_) fun e s₁ he => he.elim)
    · obtain ⟨i, H, hi, rfl, hat, hnx, hk⟩ := hv
      cases hb : b i with
      | true => exact (hk hnx s₁ rfl rfl hat.inv.bare hb).elim
      | false =>
        refine wpAny_bind (wpAny_holding (wpAny_truthy_bool ?_))
        refine wpAny_bind (wpAny_letGo ?_)
        simp only [Bool.false_eq_true, if_false]
        refine wpAny_bind (wpAny_rule (wpAny_pure ?_))
        exact hno s₁ H i hat.inv hnx hb _ rfl (allBare_setGen hat.inv.bare hbare) rfl
    · obtain ⟨H, I1, hP⟩ := hp
      refine wpAny_bind (wpAny_rule (wpAny_pure ?_))
      exact hend s₁ H I1 hP _ rfl (allBare_setGen I1.bare rfl) hk
  | succ m ih =>
    intro s hg hl ⟨gs, hgs, hgo2⟩
    have hgl : gn < s.gens.size := (Array.getElem?_eq_some_iff.mp hgs).1
    refine codeAny_builtin F.entry_all_loop ?_
    rw [Around.under_plainId F.plain_all_loop _]
    show wpAny _ A.in1 (pyNext (.ref ga) >>= _) _ _ s
    refine wpAny_bind (GenW.wpAny_gsz (n := gn + 1) hgl (next_genG (A := A.in1) (F := fun _ _ s₁ => ∃ H, Inv Z pins σ H s₁ ∧ Pv n H) (Er := fun _ _ => False) hh hl hd hg hgs hgo2 (fun v s₁ gs' hbare hv => ?_) (fun s₁ hp h' hk => ?_) fun e s₁ he => he.elim))
    · intro hsz
      obtain ⟨i, H, hi, rfl, hat, hnx, hk⟩ := hv
      cases hb : b i with
      | true =>
        refine wpAny_bind (wpAny_holding (wpAny_truthy_bool ?_))
        refine wpAny_bind (wpAny_letGo ?_)
        simp only [if_true]
        have hsz1 : gn < s₁.gens.size := by
          have q : (s₁.setGen gn gs').gens.size = s₁.gens.size := GenW.setGen_size _ _ _
          have hsz' : gn + 1 ≤ (s₁.setGen gn gs').gens.size := hsz
          omega
        have hpin := (hat.inv.pin (ga, gobj) (List.mem_append_right _ hpi)).1
        refine wpAny_pure ⟨plainId_quiet F.plain_all_loop _, ih (s₁.setGen gn gs') (hgo _ hpin) hat.inv.nolimit ⟨gs', setGen_at hsz1, ?_⟩⟩
        exact hk hnx _ rfl rfl (allBare_setGen (allBare_setGen hat.inv.bare hbare) rfl) hb
      | false =>
        refine wpAny_bind (wpAny_holding (wpAny_truthy_bool ?_))
        refine wpAny_bind (wpAny_letGo ?_)
        simp only [Bool.false_eq_true, if_false]
        refine wpAny_bind (wpAny_rule (wpAny_pure ?_))
        exact hno s₁ H i hat.inv hnx hb _ rfl (allBare_setGen hat.inv.bare hbare) rfl
    · intro hsz
      obtain ⟨H, I1, hP⟩ := hp
      refine wpAny_bind (wpAny_rule (wpAny_pure ?_))
      exact hend s₁ H I1 hP _ rfl (allBare_setGen I1.bare rfl) hk
end
section
variable {X : Cx} {pins : List (Addr × Obj)} {σ : L2.St} {H : Hp} {s : Shared}
/-- the frame begins -/
theorem gx_start {scope : Scope} {own : List (Str × Nat)} {x : Str} {fp : List Addr} {A' : Around} {code : Value} {hh : Heap} {mm : Str → Option Value} {gobj : Obj} {gs : GenState} {tk : Nat}
    (I : Inv X pins σ H s) (S : GxR.GenS X.env scope x) (ok : BlkOk X.N X.env.scope scope own) (hN : X.N.Nodup) (hfp : ∀ c ∈ fp, FpOk X pins H c ∧ c < s.heap.objs.size)
    (hA : A'.frames = some (genEnv scope (cloFrom X.env.cells scope.names []) s.heap.objs.size code builtinsNs X.env :: X.stack)) (hd : A'.handled = none)
    (hn : hh.Ns s.heap.objs.size mm) (hk : ∀ c o, s.heap.get? c = some o → hh.get? c = some o) (hz : hh.objs.size = s.heap.objs.size + 1) (hgb : gs.bare = true) (hgl : gobj.isFreed = false) (hgd : ∀ v, gobj.data ≠ .cell v) :
    Inv (gxC X A' s H (genEnv scope (cloFrom X.env.cells scope.names []) s.heap.objs.size code builtinsNs X.env) fp) [(hh.objs.size, gobj)] (wipe σ (own.map (·.2))) H { s with gens := s.gens.push gs, toks := tk, heap := hh.push gobj } := by
  have kp : ∀ c o, s.heap.get? c = some o → (hh.push gobj).get? c = some o := fun c o e => Heap.get?_push_of_some _ (hk c o e)
  have cm : ∀ {y : Str} {c : Addr}, (y, c) ∈ cloFrom X.env.cells scope.names [] → (y, NameKind.free) ∈ scope.names ∧ X.env.cells.lookup y = some c := fun {y c} hm => by
    rcases cloFrom_mem hm with h1 | ⟨h1, rfl⟩
    · cases h1
    · obtain ⟨c, hc⟩ := S.free _ h1 rfl
      refine ⟨h1, ?_⟩
      have hc2 : X.env.cells.lookup y = some c := hc
      rw [hc2] <;> rfl
  have cl : ∀ {y : Str}, (y, NameKind.free) ∈ scope.names → ∃ c, (cloFrom X.env.cells scope.names []).lookup y = some c ∧ X.env.cells.lookup y = some c := fun {y} hy => by
    obtain ⟨c', e'⟩ := mem_lookup (cloFrom_has (cells := X.env.cells) (acc := []) hy)
    exact ⟨c', e', (cm (PySem.mem_of_lookup e')).2⟩
  have lt : ∀ {y : Str} {c : Addr}, X.env.cells.lookup y = some c → c < s.heap.objs.size := fun {y c} e => by
    obtain ⟨v, q⟩ := I.cell y c e
    exact q.lt
  have okG : (gxC X A' s H (genEnv scope (cloFrom X.env.cells scope.names []) s.heap.objs.size code builtinsNs X.env) fp).Ok := by
    refine ⟨I.ok.mod, S.kind, I.ok.glob, rfl, Nat.le_refl _, fun y z c e1 e2 => ?_, fun y hy => ?_, fun y c z _ => (by cases z), fun _ => hd, hA, .inr ⟨rfl, rfl⟩, fun c hc => ⟨Nat.ne_of_lt (hfp c hc).2, fun y c' e z => ?_⟩, I.bs, Nat.le_trans I.ok.bsz I.sz, fun c o e hc => ?_, fun c hc z => ?_, I.stack, I.stkFree⟩
    · exact I.ok.inj y z c (cm (PySem.mem_of_lookup (show (cloFrom X.env.cells scope.names []).lookup y = some c from e1))).2 (cm (PySem.mem_of_lookup (show (cloFrom X.env.cells scope.names []).lookup z = some c from e2))).2
    · have hy2 : scope.names.lookup y = some .cell ∨ scope.names.lookup y = some .free := hy
      rcases hy2 with h1 | h1
      · exact absurd rfl (S.cell _ (PySem.mem_of_lookup h1))
      · obtain ⟨c, e, _⟩ := cl (PySem.mem_of_lookup h1)
        exact ⟨c, e⟩
    · have e2 := (cm (PySem.mem_of_lookup (show (cloFrom X.env.cells scope.names []).lookup y = some c' from e))).2
      exact (hfp c hc).1.2.2.2.2.1 y c' e2 z
    · rcases (hfp c hc).1.2.2.2.1 with z | z
      · exact I.ok.noex c o e z
      · exact absurd (Nat.lt_of_lt_of_le (Heap.lt_size e) (Nat.le_trans I.ok.bsz z)) (Nat.lt_irrefl _)
    · rcases List.mem_cons.mp (I.stkSub c z) with z2 | z2
      · exact (hfp c hc).1.2.1 z2
      · exact (hfp c hc).1.2.2.1 z2
  refine ⟨okG, rfl, I.bare.push hgb, Un.kept kp, ⟨mm, hn.push _, fun i y v e1 e2 e3 => ?_⟩, fun y c e => ?_, I.hok.fresh (Nat.le_refl _), fun y c e => ?_, fun p hp => ?_, I.hok.kept kp, by rw [wipe_length]; exact I.len⟩
  · obtain ⟨e4, hne⟩ := wipe_some e2
    have notLoc : scope.names.lookup y = some .free := by
      have e3' : scope.names.lookup y = some .local ∨ scope.names.lookup y = some .cell ∨ scope.names.lookup y = some .free := e3
      have no : ¬ ((y, NameKind.local) ∈ scope.names) := fun hm => by
        rcases ok.own _ hm (.inl rfl) with h1 | h1
        · obtain ⟨p, hp, ep⟩ := List.mem_map.mp h1
          have e5 := ok.ix p hp
          rw [ep] at e5
          have e6 := nodup_ix hN e1 e5
          exact hne (List.mem_map.mpr ⟨p, hp, e6.symm⟩)
        · exact h1 (List.mem_of_getElem? e1)
      rcases e3' with h1 | h1 | h1
      · exact absurd (PySem.mem_of_lookup h1) no
      · exact absurd rfl (S.cell _ (PySem.mem_of_lookup h1))
      · exact h1
    have hf := PySem.mem_of_lookup notLoc
    obtain ⟨c, e5, e6⟩ := cl hf
    obtain ⟨m0, hn0, hl0⟩ := I.loc
    have hk0 := ok.free _ hf rfl
    obtain ⟨u, ru, lk⟩ := hl0 i y v e1 e4 (by rcases hk0 with z | z; exact .inr (.inl z); exact .inr (.inr z))
    refine ⟨u, ru, .inr ⟨.inr notLoc, c, e5, ?_⟩⟩
    rcases lk with ⟨z1, _⟩ | ⟨_, c2, z2, z3⟩
    · have z4 : X.env.scope.names.lookup y = some .local := z1
      rcases hk0 with z | z
      · rw [z4] at z; cases z
      · rw [z4] at z; cases z
    · rw [e6] at z2
      cases z2
      exact z3.keeps kp
  · have e2 := (cm (PySem.mem_of_lookup (show (cloFrom X.env.cells scope.names []).lookup y = some c from e))).2
    obtain ⟨v, q⟩ := I.cell y c e2
    exact ⟨v, q.keeps kp⟩
  · exact I.freeC y c (cm (PySem.mem_of_lookup (show (cloFrom X.env.cells scope.names []).lookup y = some c from e))).2
  · have hp2 : p = (hh.objs.size, gobj) := List.mem_singleton.mp hp
    subst hp2
    have hge : s.heap.objs.size ≤ hh.objs.size := by omega
    refine ⟨Heap.get?_push_size _ ?_, I.hok.fresh hge, ?_, fun hm => ?_, hgd⟩
    · exact hgl
    · show hh.objs.size ≠ s.heap.objs.size
      omega
    · obtain ⟨_, o, ho, _⟩ := I.stack.mem hm
      exact absurd (Nat.lt_of_lt_of_le (Heap.lt_size ho) hge) (Nat.lt_irrefl _)
end
/-- all(e for x in xs): wi what is walked, i the place of x, te the element; behind it the def's table may have grown -/
def tAllG (P : Addr) (wi : TI) (i : Nat) (te : TE) (vs : List Nat) : TE := fun σ H Q => wi σ H fun J H1 => GxR.TabG H1 P ∧ ∀ H2, GxR.Tabbed P H1 H2 →
  ∃ (n : Nat) (b : Nat → Bool) (Pv Nx : Nat → Hp → Prop), Pv 0 H2 ∧
    (∀ k H, k < n → Pv k H → J.go k H ∧ ∀ x H', J.yld k H x H' → gName i x (wipe σ vs) H' fun σ2 H3 => wipe σ2 vs = wipe σ vs ∧ te σ2 H3 fun y H4 => y = .bl (b k) ∧ Nx k H4) ∧
    (∀ k H, Nx k H → b k = true → Pv (k + 1) H) ∧ (∀ k H, Nx k H → b k = false → Q (.bl false) H) ∧ (∀ H, Pv n H → J.stop n H ∧ Q (.bl true) H)
section
variable {X : Cx}
/-- what the walk over the made generator asks -/
def Asks (σ : L2.St) (Q : VK) (i : Nat) (te : TE) (vs : List Nat) (J : It) (H2 : Hp) : Prop :=
  ∃ (n : Nat) (b : Nat → Bool) (Pv Nx : Nat → Hp → Prop), Pv 0 H2 ∧
    (∀ k H, k < n → Pv k H → J.go k H ∧ ∀ x H', J.yld k H x H' → gName i x (wipe σ vs) H' fun σ2 H3 => wipe σ2 vs = wipe σ vs ∧ te σ2 H3 fun y H4 => y = .bl (b k) ∧ Nx k H4) ∧
    (∀ k H, Nx k H → b k = true → Pv (k + 1) H) ∧ (∀ k H, Nx k H → b k = false → Q (.bl false) H) ∧ (∀ H, Pv n H → J.stop n H ∧ Q (.bl true) H)
theorem gx_go {k i : Nat} {elt iter : Expr} {x : Str} {px gpos : Pos} {scope : Scope} {own : List (Str × Nat)} {te : TE} {pins : List (Addr × Obj)} {σ : L2.St} {Q : VK} {H3 : Hp} {s3 : Shared} {it : Addr} {fp : List Addr} {tn : Nat → Heap → Prop} {J : It} {code : Value} {h' : Heap} {gobj : Obj} {tk : Nat}
    (hr : Room (k + 1) X.A) (S : GxR.GenS X.env scope x) (hN : X.N.Nodup) (ok : BlkOk X.N X.env.scope scope own)
    (hgn : ∀ (A : Around) (s : Shared) (H : Hp) (cl : List (Str × Addr)) (C : Addr) (code : Value) (fp : List Addr), PG (gxC X A s H (genEnv scope cl C code builtinsNs X.env) fp) (.Name x px) (gName i))
    (hel : ∀ (A : Around) (s : Shared) (H : Hp) (cl : List (Str × Addr)) (C : Addr) (code : Value) (fp : List Addr), Room k A → PE (gxC X A s H (genEnv scope cl C code builtinsNs X.env) fp) elt te)
    (I : Inv X pins σ H3 s3) (T : Turn X.prog X.w X.K (.Name x px) J fp it tn) (st : tn 0 s3.heap) (hfp : ∀ b ∈ fp, FpOk X pins H3 b) (q : Asks σ Q i te (own.map (·.2)) J H3)
    (hn : h'.Ns s3.heap.objs.size (fun y => if y = ".0" then some (.ref it) else none)) (hs : Heap.SameBut s3.heap.objs.size (s3.heap.push { cls := .type "frame", data := .dict #[] }) h')
    (hgo : ∀ h : Heap, h.get? h'.objs.size = some gobj → h.IsGen h'.objs.size s3.gens.size) (hgl : gobj.isFreed = false) (hgd : ∀ v, gobj.data ≠ .cell v) (E : Value → Shared → Prop) :
    wpAny (model X.prog X.w) X.A (call (.builtin "all") [.ref h'.objs.size]) (EP X pins σ Q) E
      { s3 with gens := s3.gens.push (.fresh (.compStart (genE elt (.Name x px) iter scope gpos) 0 (.ref it) .none (genEnv scope (cloFrom X.env.cells scope.names []) s3.heap.objs.size code builtinsNs X.env))), toks := tk, heap := h'.push gobj } := by
  generalize hce : genEnv scope (cloFrom X.env.cells scope.names []) s3.heap.objs.size code builtinsNs X.env = cenv
  have hsz : h'.objs.size = s3.heap.objs.size + 1 := by rw [hs.1, Heap.size_push]
  have keep' : ∀ b o, s3.heap.get? b = some o → h'.get? b = some o := fun b o e => hs.extBut b o (Nat.ne_of_lt (Heap.lt_size e)) (Heap.get?_push_of_some _ e)
  have lt3 : ∀ b ∈ fp, b < s3.heap.objs.size := fun b hb => by
    obtain ⟨o, e, _⟩ := T.obj _ _ st b hb
    exact Heap.lt_size e
  have hfr : (X.A.in1.in1.over (.compLoop (genE elt (.Name x px) iter scope gpos) 0 (.ref it) .none cenv) []).frames = some (cenv :: X.stack) := by
    have e := I.ok.frames
    show (X.A.frames).map _ = _
    rw [e] <;> rfl
  have rk : Room k (X.A.in1.in1.over (.compLoop (genE elt (.Name x px) iter scope gpos) 0 (.ref it) .none cenv) []) := by
    refine ⟨hr.hd, ?_, ?_⟩
    · have := hr.dp
      show X.A.depth + 0 + 1 + 3 * k + 5 < _
      omega
    · have := hr.un
      show X.A.units + 1 + 1 + 0 + 3 + 16 * k + 200 < _
      omega
  have I5 := gx_start (own := own) (x := x) (A' := X.A.in1.in1.over (.compLoop (genE elt (.Name x px) iter scope gpos) 0 (.ref it) .none cenv) []) (code := code) (gs := .fresh (.compStart (genE elt (.Name x px) iter scope gpos) 0 (.ref it) .none cenv)) (tk := tk)
    I S ok hN (fun b hb => ⟨hfp b hb, lt3 b hb⟩) (by rw [hce]; exact hfr) hr.hd hn keep' hsz rfl hgl hgd
  rw [hce] at I5
  have pe := hel _ s3 H3 (cloFrom X.env.cells scope.names []) s3.heap.objs.size code fp rk
  have pg := hgn (X.A.in1.in1.over (.compLoop (genE elt (.Name x px) iter scope gpos) 0 (.ref it) .none cenv) []) s3 H3 (cloFrom X.env.cells scope.names []) s3.heap.objs.size code fp
  rw [hce] at pe pg
  have ltp : ∀ c o, s3.heap.get? c = some o → (h'.push gobj).get? c = some o := fun c o e => Heap.get?_push_of_some _ (keep' c o e)
  have hgp : (h'.push gobj).IsGen h'.objs.size s3.gens.size := hgo _ (Heap.get?_push_size _ hgl)
  generalize hst : ({ s3 with gens := s3.gens.push (.fresh (.compStart (genE elt (.Name x px) iter scope gpos) 0 (.ref it) .none cenv)), toks := tk, heap := h'.push gobj } : Shared) = st0 at I5 ⊢
  have hst1 : st0.heap = h'.push gobj := by rw [← hst]
  have hst2 : st0.gens = s3.gens.push (.fresh (.compStart (genE elt (.Name x px) iter scope gpos) 0 (.ref it) .none cenv)) := by rw [← hst]
  have hst3 : st0.os = s3.os := by rw [← hst]
  obtain ⟨n, b, Pv, Nx, p0, turn, goon, qno, qyes⟩ := q
  have fin : ∀ (v : Bool) (s' : Shared) (H' : Hp), Inv (gxC X (X.A.in1.in1.over (.compLoop (genE elt (.Name x px) iter scope gpos) 0 (.ref it) .none cenv) []) s3 H3 cenv fp) [(h'.objs.size, gobj)] (wipe σ (own.map (·.2))) H' s' → Q (.bl v) H' →
      ∀ s'' : Shared, s''.os = s'.os → AllBare s''.gens → (∀ c o, s'.heap.get? c = some o → s''.heap.get? c = some o) → EP X pins σ Q (.bool v) s'' := fun v s' H' J hq s'' e1 e2 e3 => by
    refine ⟨.bl v, H', I.call' (ch := fp) (e1.trans J.os) (J.base.trans (Un.kept e3)) (J.hok.kept e3) e2 (fun c hc => ?_), rfl, hq⟩
    obtain ⟨f1, f2, f3, f4, f5, f6⟩ := hfp c hc
    exact ⟨f4, f2, f5, f6⟩
  have hh1 : X.A.in1.handled = none := hr.hd
  refine call_function_tree F.kind_all F.plain_all F.entry_all (F.args_all1 _) ?_
  unfold Builtin.«all»
  refine wpAny_bind (m := oneArg "all" _) (wpAny_pure ?_)
  refine wpAny_bind (wpAny_pyIter_gen (s := st0) (by rw [hst1]; exact hgp) ?_)
  refine wpAny_pure ⟨plainId_quiet F.plain_all_loop _, ?_⟩
  refine all_loop (Z := gxC X (X.A.in1.in1.over (.compLoop (genE elt (.Name x px) iter scope gpos) 0 (.ref it) .none cenv) []) s3 H3 cenv fp) (pins := [(h'.objs.size, gobj)]) (fp := fp) (tn := tn) (σ := wipe σ (own.map (·.2))) (n := n) (b := b) (Nx := Nx) (Pv := Pv)
    (gobj := gobj) hr.hd (by have := hr.dp; omega) hgo (List.mem_singleton.mpr rfl) goon (fun s' H' J hp s'' e1 e2 e3 => fin true s' H' J (qyes H' hp).2 s'' e1 e2 e3) (fun s' H' j J hn hb s'' e1 e2 e3 => fin false s' H' J (qno j H' hn hb) s'' e1 e2 (fun c o e => by rw [e3]; exact e))
    n st0 (by rw [hst1]; exact hgp) I5.nolimit ⟨.fresh (.compStart (genE elt (.Name x px) iter scope gpos) 0 (.ref it) .none cenv), by rw [hst2]; exact Array.getElem?_push_size, ?_⟩
  refine ⟨rfl, ?_⟩
  have I6 := inv_swap (s' := st0.setGen s3.gens.size .running) I5 rfl rfl (allBare_setGen I5.bare rfl)
  have loop := gx_loop (Z := gxC X (X.A.in1.in1.over (.compLoop (genE elt (.Name x px) iter scope gpos) 0 (.ref it) .none cenv) []) s3 H3 cenv fp) (pins := [(h'.objs.size, gobj)]) (fp := fp) (tn := tn) (σ := wipe σ (own.map (·.2))) (n := n) (b := b) (Nx := Nx) (Pv := Pv)
    (B := X.A.in1.in1) (elt := elt) (tg := .Name x px) (iter := iter) (scope := scope) (pos := gpos) (it := it) (vs := own.map (·.2)) rfl rfl rfl rfl rfl (by rw [← hce]; exact S.co) (fun p hp hm => by
      rw [List.mem_singleton.mp hp] at hm
      have := lt3 _ hm
      have h2 : h'.objs.size < s3.heap.objs.size := this
      omega) T pg pe turn goon (fun H' hp => (qyes H' hp).1) n 0 (st0.setGen s3.gens.size .running) (st0.setGen s3.gens.size .running) H3 (Nat.sub_zero _) (Nat.zero_le _) p0
    ⟨I6, T.keep _ _ _ st fun c hc o e => (by show st0.heap.get? c = some o; rw [hst1]; exact ltp c o e), fun c hc => (hfp c hc).1⟩
  show Seg _ X.A.in1.in1 _ _ _ _ _ ((compStart (genE elt (.Name x px) iter scope gpos) 0 (.ref it) .none cenv).onRaise (leaving cenv)) [] _
  unfold compStart
  rw [Sem.onRaise_eq_wrap]
  show Seg _ X.A.in1.in1 _ _ _ _ _ ((ask >>= _).wrap _ _ _ _) [] _
  refine seg_bind_wrap (wpAny_askSetting ?_)
  have hself : ∀ A' : Around, ∀ (Q' : Value → Shared → Prop) (E' : Value → Shared → Prop), Q' (.ref it) (st0.setGen s3.gens.size .running) → wpAny (model X.prog X.w) A' (pyIter (.ref it)) Q' E' (st0.setGen s3.gens.size .running) := fun A' Q' E' hq =>
    T.self A' 0 _ Q' E' (T.keep _ _ _ st fun c hc o e => (by show st0.heap.get? c = some o; rw [hst1]; exact ltp c o e)) hq
  split
  · exact seg_again rfl loop
  · first
      | exact seg_bind_wrap (wpAny_rule (seg_bind_wrap (wpAny_standAt (seg_bind_wrap (hself _ _ _ (seg_again rfl loop))))))
      | (refine seg_bind_wrap (wpAny_rule ?_); show Seg _ X.A.in1.in1 _ _ _ _ _ ((standAt iter.pos >>= _).wrap _ _ _ _) [] _; exact seg_bind_wrap (wpAny_standAt (seg_bind_wrap (hself _ _ _ (seg_again rfl loop)))))
/-- all(e for x in it) -/
theorem pe_allG {c P : Addr} {k i : Nat} {elt iter : Expr} {x : Str} {px p pos gpos : Pos} {scope : Scope} {own : List (Str × Nat)} {wi : TI} {te : TE}
    (hr : Room (k + 1) X.A) (hg : Gl X "all") (hm : X.mg "all" = none) (hb : bootBuiltins "all" = some (.builtin "all")) (TB : GxR.TabB X.base X.mg c P) (hcode : X.env.code = .ref c) (S : GxR.GenS X.env scope x) (hN : X.N.Nodup) (hx : X.N[i]? = some x) (ok : BlkOk X.N X.env.scope scope own)
    (hi : PI X (.Name x px) iter wi)
    (hel : ∀ (A : Around) (s : Shared) (H : Hp) (cl : List (Str × Addr)) (C : Addr) (code : Value) (fp : List Addr), Room k A → PE (gxC X A s H (genEnv scope cl C code builtinsNs X.env) fp) elt te)
    (hs : ∀ v, genFold iter X.env v = pure v)
    (he : starEach [genE elt (.Name x px) iter scope gpos] X.env = (false, eval (genE elt (.Name x px) iter scope gpos) X.env) :: starEach [] X.env := by rfl) :
    PE X (.Call (.Name "all" p) [genE elt (.Name x px) iter scope gpos] [] pos) (tAllG P wi i te (own.map (·.2))) := by
  refine ⟨fun pins s σ H Q I h => ?_⟩
  refine wpAny_Call_Name_kw (ld_blt I hg hm hb ?_)
  refine PyProof.Rows.callWith_builtin1 ?_ he (by rfl)
  rw [he]
  show wpAny _ _ (spliced ((false, eval (genE elt (.Name x px) iter scope gpos) X.env) :: backTo pos (starEach [] X.env))) _ _ s
  refine Calls.spliced_cons ?_
  refine wpAny_GeneratorExp_make S.co (closure_ok S.free) S.cell S.dot S.kind (by have := hr.dp; omega) ?_ hs
  refine thn (hi.run pins s σ H _ I h) fun xv s1 h1 => thn h1 fun itv s2 h2 => ?_
  obtain ⟨it, fp, tn, J, H1, rfl, I2, T, st, hfp, ⟨ps, hP, ht⟩, ask⟩ := h2
  have hPs : s2.heap.get? P = some { cls := .none, data := .fields ps } := I2.hok P _ hP
  have hPlt : P < s2.heap.objs.size := Heap.lt_size hPs
  have cd : PySem.W.CodeHd s2.heap c P := TB.code.keeps I2.bk
  have nP : ∀ b ∈ fp, b ≠ P := fun b hb z => by
    have := (hfp b hb).1
    rw [z, hP] at this
    cases this
  have cont : ∀ (code : Value) (h3 : Heap) (tk : Nat) (more : Array Value), Heap.ExtBut P s2.heap h3 → s2.heap.objs.size ≤ h3.objs.size → h3.get? P = some { cls := .none, data := .fields (ps ++ more) } → TriplesOk (ps ++ more).toList →
      wpAny (model X.prog X.w) X.A (builtinsFor X.env.globals X.env.builtins) (fun bi s₄ =>
        ∀ h', h'.Ns s₄.heap.objs.size (fun y => if y = ".0" then some (.ref it) else none) → Heap.SameBut s₄.heap.objs.size (s₄.heap.push { cls := .type "frame", data := .dict #[] }) h' →
          wpAny (model X.prog X.w) X.A (spliced (backTo pos (starEach [] X.env))) (fun us s5 => wpAny (model X.prog X.w) X.A (call (.builtin "all") (.ref h'.objs.size :: us)) (EP X pins σ Q) X.xe s5) X.xe { s₄ with
            gens := s₄.gens.push (.fresh (.compStart (genE elt (.Name x px) iter scope gpos) 0 (.ref it) .none (genEnv scope (cloFrom X.env.cells scope.names []) s₄.heap.objs.size code bi X.env))),
            toks := s₄.toks + 1 + 1 + 1,
            heap := h'.push { cls := .type "generator", data := .fields #[.int s₄.gens.size 0, .str "<genexpr>" (s₄.toks + 1), .str (X.env.qual ++ "<genexpr>") (s₄.toks + 1 + 1)] } }) X.xe { s2 with heap := h3, toks := tk } := by
    intro code h3 tk more hxt hsz hP3 ht3
    obtain ⟨bm, ob, e1, e2, e3, e4, e5, e6, e7, e8⟩ := TB.bm
    refine wpAny_builtinsFor (m := X.mg) (by rw [I2.ok.glob]; exact (I2.mod.glob.keeps I2.bk).extBut hxt TB.gP) e1 e2 (hxt _ _ e4 (I2.bk _ _ e5)) e6 e7 e8 ?_
    have I3 : Inv X pins σ (upd H1 P (.tbl (ps ++ more))) { s2 with heap := h3, toks := tk } := GxR.inv_tab (more := more) (h' := h3) (g' := s2.gens) (d' := s2.drawn) (t' := tk) I2 hP (fun b u hb e => hxt b u hb e) hP3 I2.bare
    have st3 : tn 0 h3 := T.keep _ _ _ st fun b hb o e => hxt b o (nP b hb) e
    have hfp3 : ∀ b ∈ fp, FpOk X pins (upd H1 P (.tbl (ps ++ more))) b := fun b hb => by
      obtain ⟨f0, f⟩ := hfp b hb
      exact ⟨by rw [upd_ne (nP b hb)]; exact f0, f⟩
    intro h' hn' hs'
    refine Calls.spliced_nil ?_
    exact gx_go (tn := tn) (T := T) (k := k) (i := i) (s3 := { s2 with heap := h3, toks := tk }) (H3 := upd H1 P (.tbl (ps ++ more))) hr S hN ok (fun A s H cl C code fp => pg_name hN hx (.inl S.loc) (.inr S.loc)) hel I3 st3 hfp3
      (ask _ ⟨⟨ps ++ more, upd_same, ht3⟩, fun b hb => upd_ne hb⟩) hn' hs' (fun h e => ⟨_, _, _, e, rfl, rfl, rfl⟩) rfl (fun v e => by cases e) X.xe
  refine ⟨I2.nolimit, ?_⟩
  cases hf : codeAmong gpos ps.toList with
  | none =>
    refine wpAny_genexprCodeX hcode (cd.code hPs ht) (cd.tab hPs) hf fun c' h' tk hx hge hlt hco' _ htab' _ => ?_
    obtain ⟨o1, vs, f1, tf, fl, tg, inF, tx, tt, op, _, _, _, _, _, _, _, _, _, htr, _⟩ := hco'
    exact cont _ h' tk _ hx (Nat.le_trans hge (Nat.le_of_lt hlt)) htab'.2 htr
  | some cv =>
    refine wpAny_genexprCode_hit hcode (cd.code hPs ht) hf ?_
    exact cont cv s2.heap s2.toks #[] (Heap.ExtBut.refl _ _) (Nat.le_refl _) (by simpa using hPs) (by simpa using ht)
end
end Gx
/-! ### defs run where no display is being shown; the end of a law by such a def, with tables of code objects -/
namespace Ky
open PySem PySem.Spec PyProof.Rows L2
/-- what a def does where nothing is being shown (repr) -/
structure FnG (P : Program) (w : World) (K : PySem.W.Frag) (mg : Str → Option Value) (base : Heap) (k : Nat) (f : Addr) (fd : FuncData) (ps : List Str) (sp : Sp) : Prop where
  len : ∀ vs H Q E, sp vs H Q E → vs.length = ps.length
  run : ∀ (A : Around) (out : List Env) (s : Shared) (H : Hp) (given : Args) (us : List Value) (vs : List V) (Q : VK) (E : XK), A.guards = some [] → Room k A → Env0 P w K mg base A out s H → BindsTo s fd given (ps.zip us) → Vals vs us →
    sp vs H Q E → codeAny (model P w) A (.call (.ref f) given) (CR CX0 out P w H s Q E) s
structure CalG (P : Program) (w : World) (K : PySem.W.Frag) (mg : Str → Option Value) (base : Heap) (k : Nat) (x : Str) (st : Stmt) (ps : List Str) (sp : Sp) : Prop where
  ex : ∃ (f : Addr) (fd : FuncData), FnG P w K mg base k f fd ps sp ∧ FunD K x x (defArgs st) (defBody st) (defScope st) [] [] f fd ∧ mg x = some (.ref f) ∧ Binds K fd ps []
section
variable {P : Program} {w : World} {K : PySem.W.Frag} {mg : Str → Option Value} {base : Heap} {k : Nat} {x : Str} {st : Stmt} {ps : List Str} {sp : Sp}
theorem FnG.of {f : Addr} {fd : FuncData} (F : FnOk P w K mg base CX0 k f fd ps sp) : FnG P w K mg base k f fd ps sp := ⟨F.len, fun A out s H given us vs Q E _ => F.run A out s H given us vs Q E⟩
theorem CalG.of (c : CalD P w K mg base k x st ps sp) : CalG P w K mg base k x st ps sp := let ⟨f, fd, F, r⟩ := c.ex; ⟨f, fd, .of F, r⟩
/-- a def by its body -/
theorem fnG_of {f : Addr} {fd : FuncData} {N : List Str} (F : FunD K x x (defArgs st) (defBody st) (defScope st) [] [] f fd) (S : FnScope N ps (defScope st)) (len : ∀ vs H Q E, sp vs H Q E → vs.length = ps.length)
    (hbody : ∀ (f : Addr) (cdv : Value) (A : Around) (out : List Env) (s : Shared) (H : Hp) (vs : List V) (Q : VK) (E : XK), A.guards = some [] → Room k (A.deeper (envOfC x (defScope st) s.heap.objs.size f cdv)) → sp vs H Q E →
      ∃ t, PSs (cxOf CX0 P w K mg base N x (defScope st) f cdv A out s H E) (defBody st) t ∧ t { nx := fun _ H' => Q .non H', rt := Q } (start N vs) H) : FnG P w K mg base (k + 1) f fd ps sp := by
  obtain ⟨_, _, _, _, _, _, _, cdv, _, _, rfl, look, code, _, _⟩ := F.ex
  refine ⟨len, fun A out s H given us vs Q E noG room en bound rel want => ?_⟩
  have held := fun b o z => (en.bs b o z).1
  have inS := en.mod.kin.keeps held
  have many := len _ _ _ _ want
  have kinds : ∀ z ∈ ps.zip us, (defScope st).names.lookup z.1 = some .local ∨ ((defScope st).names.lookup z.1 = some .cell ∧ ((cellsFrom (s.heap.objs.size + 1) (defScope st).names []).lookup z.1).isSome = true) := fun ⟨n, u⟩ hz =>
    (S.par n (List.of_mem_zip hz).1).imp id fun q => ⟨q, PySem.W.cellsFrom_some _ _ _ (Or.inl q)⟩
  refine codeAny_call_function room.depth (inS _ _ look) rfl S.co S.gen rfl (PySem.W.codeRec_of inS code) (bound _ _ _ _ (wpAny_newFunctionEnv_cells S.kind kinds fun env he s1 laid => ?_))
  subst he
  refine ⟨(en.mod.nolimit.keeps held).keeps laid.toInCall.keep, codeAny_func ?_⟩
  obtain ⟨t, ht, hq⟩ := hbody f cdv A out s H vs Q E noG (room.deeper _) want
  refine wpAny_mono (ht.run [] s1 (start N vs) H _ (inv_start S room.hd en many rel laid) hq) (fun fl s' z => ?_) fun _ _ z => z
  cases fl with
  | ret u =>
    obtain ⟨v, _, H', J, rv, q⟩ := z
    exact (⟨v, H', J.os, J.bare, J.base, J.hok, rv, q⟩ : CE out P w H s Q u s')
  | next =>
    obtain ⟨_, H', J, q⟩ := z
    exact (⟨V.non, H', J.os, J.bare, J.base, J.hok, rfl, q⟩ : CE out P w H s Q Value.none s')
  | brk => exact (let ⟨_, _, _, q⟩ := z; q).elim
  | cont => exact (let ⟨_, _, _, q⟩ := z; q).elim
theorem calG_mk {N : List Str} (D : Here K mg x st) (S : FnScope N ps (defScope st))
    (hb : ∀ (kV doc pm : Value) (an : Option Addr) (cdv ct : Value) (us : List Value), us.length = ps.length → bindArgs (PySem.W.fnOf x x (defArgs st) (defBody st) (defScope st) .none kV doc pm an cdv ct) ⟨us, []⟩ = pure (ps.zip us))
    (len : ∀ vs H Q E, sp vs H Q E → vs.length = ps.length)
    (hbody : ∀ (f : Addr) (cdv : Value) (A : Around) (outer : List Env) (s : Shared) (H : Hp) (vs : List V) (Q : VK) (E : XK), A.guards = some [] → Room k (A.deeper (envOfC x (defScope st) s.heap.objs.size f cdv)) → sp vs H Q E →
      ∃ t, PSs (cxOf CX0 P w K mg base N x (defScope st) f cdv A outer s H E).nox (defBody st) t ∧ t { nx := fun _ H' => Q .non H', rt := Q } (start N vs) H) : CalG P w K mg base (k + 1) x st ps sp := by
  obtain ⟨f, fd, F, g⟩ := D.ex
  exact ⟨f, fd, fnG_of F S len fun f cdv A outer s H vs Q E hg hr h => (hbody f cdv A outer s H vs Q E hg hr h).imp fun _ z => ⟨z.1.nox, z.2⟩, F, g, F.bindsN hb⟩
end
/-- f(e, ..) there -/
theorem pe_g {X : Cx} {k j : Nat} {x : Str} {st : Stmt} {ps : List Str} {sp : Sp} {p pos : Pos} {e : Expr} {es : List Expr} {t : TA} (c : CalG X.prog X.w X.K X.mg X.base k x st ps sp) (noG : X.A.guards = some []) (hr : Room j X.A) (hk : k ≤ j) (hg : Gl X x) (ha : PA X (e :: es) t)
    (hdb : (x == ("__debug__" : Str)) = false := by decide) (he : starEach (e :: es) X.env = (false, eval e X.env) :: starEach es X.env := by rfl) (hpl : (backTo pos (starEach es X.env)).any (·.1) = false := by rfl) :
    PE X (.Call (.Name x p) (e :: es) [] pos) (tCall sp [] E0 t) := by
  obtain ⟨f, fd, F, D, hm, b⟩ := c.ex
  refine ⟨fun pins s σ H Q I hq => wpAny_Call_Name_kw (ld_glob I hg hm ?_ hdb)⟩
  refine PySem.W.callWith_K (h₀ := X.base) I.ok.mod.kin D.kp (thn (ha.run pos pins s σ H _ I hq) fun us s1 ⟨vs, H1, I1, rel, want⟩ => ⟨I1.kIn, ?_⟩) he hpl
  replace want : sp vs H1 Q E0 := by
    have z : sp (vs ++ []) H1 Q E0 := want
    rwa [List.append_nil] at z
  have many := rel.length.symm.trans (F.len _ _ _ _ want)
  have bound := b s1 us I1.kIn (by rw [List.append_nil]; exact many)
  rw [List.append_nil] at bound
  refine wpAny_call (codeAny_mono (F.run X.A X.stack s1 H1 ⟨us, []⟩ us vs Q _ noG (hr.mono hk) I1.env0 bound rel want) fun r s' z => ?_)
  cases r with
  | error e => exact (show False from z).elim
  | ok fl => cases fl with
    | ret u => exact I1.after z
    | next => exact (show False from z).elim
    | brk => exact (show False from z).elim
    | cont => exact (show False from z).elim
/-! ### the end of a law -/
def emptyT : Obj := { cls := .none, data := .fields #[] }
def listO (vs : List Value) : Obj := { cls := .type "list", data := .seq vs.toArray }
/-- what is tracked as the law is called: the tables; the script's list, if it isn't known otherwise -/
def endH (ts : List Addr) (a : Addr) (loose : Bool) (vs : List Value) (xs : List V) : Hp := fun b => if b ∈ ts then some (.tbl #[]) else if b = a ∧ loose = true then some (.frz (listO vs) (.lst xs)) else none
theorem endH_tab {ts : List Addr} {a : Addr} {l : Bool} {vs : List Value} {xs : List V} {b : Addr} (h : b ∈ ts) : endH ts a l vs xs b = some (.tbl #[]) := if_pos h
theorem endH_inv {ts : List Addr} {a : Addr} {l : Bool} {vs : List Value} {xs : List V} {b : Addr} {u : HO} (h : endH ts a l vs xs b = some u) : (b ∈ ts ∧ u = .tbl #[]) ∨ (b ∉ ts ∧ b = a ∧ l = true ∧ u = .frz (listO vs) (.lst xs)) := by
  unfold endH at h
  split at h
  · rename_i m
    exact .inl ⟨m, (Option.some.inj h).symm⟩
  · rename_i m
    split at h
    · rename_i c
      exact .inr ⟨m, c.1, c.2, (Option.some.inj h).symm⟩
    · cases h
theorem law_callG {P : Program} {w : World} {K : PySem.W.Frag} {mg mb : Str → Option Value} {k : Nat} {fa a : Addr} {cs : List (Addr × Addr)} {fd : FuncData} {x : Str} {sp : Sp} {st : Shared} {vs : List Value} {ns : List Int}
    (inK : K.In st.heap) (glob : st.heap.Ns mainGlobals mg) (blt : st.heap.Ns builtinsNs mb) (boot : ∀ y : Str, y ≠ "__name__" → mb y = bootBuiltins y) (lim : st.heap.NoLimit) (noGens : st.gens = #[])
    (tab : ∀ c ∈ cs, st.heap.get? c.2 = some emptyT) (out : ∀ c ∈ cs, K.lookup c.2 = none) (heads : ∀ c ∈ cs, PySem.W.CodeHd st.heap c.1 c.2)
    (bmain : ∃ (bm : Addr) (ob : Obj), mg "__builtins__" = some (.ref bm) ∧ bm ≠ builtinsNs ∧ st.heap.get? bm = some ob ∧ ob.cls = .type "module" ∧ ob.dict = some builtinsNs ∧ ob.data = .plain)
    (list : st.heap.get? a = some (listO vs)) (nums : IntsAre vs ns) (few : ns.length ≤ sizeLine) (room : Room k callerA)
    (F : ∀ base : Heap, K.In base → base.Ns mainGlobals mg → (∀ c ∈ cs, GxR.TabB base mg c.1 c.2) → FnG P w K mg base k fa fd [x] sp) (bind : ∀ (s : Shared) (u : Value), BindsTo s fd ⟨[u], []⟩ [(x, u)])
    (want : ∀ H : Hp, (∀ c ∈ cs, H c.2 = some (.tbl #[])) → SqL K H a (ns.map V.int) → sp [.ref a] H (fun v _ => v = .bl true) fun _ _ _ => False) :
    codeAny (model P w) callerA (.call (.ref fa) ⟨[.ref a], []⟩) (fun r s' => r = .ok (.ret (.bool true)) ∧ OldK st.heap s'.heap ∧ s'.os = st.os ∧ AllBare s'.gens) st := by
  let ts := cs.map Prod.snd
  have tsObj : ∀ b ∈ ts, st.heap.get? b = some emptyT := fun b hb => by
    obtain ⟨c, hc, rfl⟩ := List.mem_map.mp hb
    exact tab c hc
  have inTs : ∀ {c}, c ∈ cs → c.2 ∈ ts := fun hc => List.mem_map.mpr ⟨_, hc, rfl⟩
  have aOut : a ∉ ts := fun z => by
    have e := (tsObj a z).symm.trans list
    injection e with e
    injection e with e1 e2
    cases e1
  let free := (K.lookup a).isNone
  let H := endH ts a free vs (ns.map V.int)
  -- an object of any other sort is not tracked
  have none_ : ∀ {b : Addr} {o : Obj}, st.heap.get? b = some o → o ≠ emptyT → o ≠ listO vs → H b = none := fun {b o} e n1 n2 => by
    cases q : H b with
    | none => rfl
    | some u =>
      rcases endH_inv q with ⟨m, _⟩ | ⟨_, rfl, _, _⟩
      · exact absurd (Option.some.inj ((tsObj b m).symm.trans e)).symm n1
      · exact absurd (Option.some.inj (list.symm.trans e)).symm n2
  have kIn : K.In (hidT st.heap H) := fun b o e => by
    refine hidT_get (inK b o e) ?_
    cases q : H b with
    | none => rfl
    | some u =>
      rcases endH_inv q with ⟨m, _⟩ | ⟨_, rfl, l, _⟩
      · obtain ⟨c, hc, rfl⟩ := List.mem_map.mp m
        exact absurd ((out c hc).symm.trans e) (by simp)
      · have l2 : (K.lookup b).isNone = true := l
        rw [e] at l2
        cases l2
  have ns_ : ∀ {b : Addr} {m : Str → Option Value}, st.heap.Ns b m → (hidT st.heap H).Ns b m := fun ⟨o, es, ep, e, d, r⟩ => by
    refine ⟨o, es, ep, hidT_get e (none_ e (fun z => ?_) fun z => ?_), d, r⟩
    · rw [z] at d; cases d
    · rw [z] at d; cases d
  have modK : L2.Mod K mg (hidT st.heap H) := by
    obtain ⟨mc, z1, z2⟩ := lim
    exact ⟨kIn, ns_ glob, ⟨mb, ns_ blt, boot⟩, mc, ns_ z1, z2⟩
  have tabs : ∀ c ∈ cs, GxR.TabB (hidT st.heap H) mg c.1 c.2 := fun c hc => by
    refine ⟨?_, ?_, fun z => ?_⟩
    · obtain ⟨o, us, file, tf, fl, tg, inF, tx, tt, e, rest⟩ := heads c hc
      refine ⟨o, us, file, tf, fl, tg, inF, tx, tt, hidT_get e (none_ e (fun z => ?_) fun z => ?_), rest⟩
      · have r1 := rest.1
        rw [z] at r1; cases r1
      · have r1 := rest.1
        rw [z] at r1; injection r1 with r2; exact absurd r2 (by decide)
    · obtain ⟨bm, ob, b1, b2, b3, b4, b5, b6⟩ := bmain
      refine ⟨bm, ob, b1, b2, fun z => ?_, fun z => ?_, hidT_get b3 (none_ b3 (fun z => ?_) fun z => ?_), b4, b5, b6⟩
      · obtain ⟨o, es, ep, e, d, _⟩ := glob
        rw [z, e] at b3
        injection b3 with b3
        rw [← b3, d] at b6; cases b6
      · rw [z, tab c hc] at b3
        injection b3 with b3
        rw [← b3] at b6; cases b6
      · rw [z] at b6; cases b6
      · rw [z] at b6; cases b6
    · obtain ⟨o, es, ep, e, d, _⟩ := glob
      rw [z, tab c hc] at e
      injection e with e
      rw [← e] at d; cases d
  have valsV := vals_ints nums
  have hok : HOk P w H st.heap := fun b u q => by
    rcases endH_inv q with ⟨m, rfl⟩ | ⟨_, rfl, _, rfl⟩
    · exact tsObj b m
    · exact ⟨list, by rw [List.length_map]; exact few, vs, _, valsV, list⟩
  have sq : SqL K H a (ns.map V.int) := by
    cases q : K.lookup a with
    | none =>
      refine .inl (.inr ⟨listO vs, (if_neg aOut).trans (if_pos ⟨rfl, ?_⟩)⟩)
      show (K.lookup a).isNone = true
      rw [q] <;> rfl
    | some o =>
      have e := inK a o q
      rw [list] at e
      injection e with e
      subst e
      refine .inr ⟨_, vs.toArray, _, q, rfl, rfl, rfl, ?_, by simpa using valsV⟩
      rw [List.size_toArray, nums.length]
      exact few
  have en : Env0 P w K mg (hidT st.heap H) callerA [] st H := ⟨rfl, modK, fun b o z => of_hidT z, Nat.le_of_eq (hidT_size _ _), trivial, fun b z => (List.not_mem_nil (show b ∈ ([] : List Addr) from z)).elim, hok, .of_eq noGens⟩
  refine codeAny_mono ((F _ kIn (ns_ glob) tabs).run callerA [] st H ⟨[.ref a], []⟩ [.ref a] [.ref a] _ _ rfl room en (bind st (.ref a)) (.cons rfl .nil) (want H (fun c hc => endH_tab (inTs hc)) sq)) fun r s' z => ?_
  cases r with
  | error e => exact (show False from z).elim
  | ok fl => cases fl with
    | next => exact (show False from z).elim
    | brk => exact (show False from z).elim
    | cont => exact (show False from z).elim
    | ret u =>
      obtain ⟨v, H', os, bare, un, hok', rel, q⟩ := z
      have q2 : v = .bl true := q
      subst q2
      have q3 : u = Value.bool true := rel
      subst q3
      have here : ∀ b o, st.heap.get? b = some o → (b ∈ ts ∧ ∃ more : Array Value, s'.heap.get? b = some { cls := .none, data := .fields more }) ∨ (b ∉ ts ∧ s'.heap.get? b = some o) := fun b o e => by
        by_cases m : b ∈ ts
        · obtain ⟨more, z⟩ := un.tbls b #[] (endH_tab m)
          exact .inl ⟨m, _, hok' b _ z⟩
        · refine .inr ⟨m, ?_⟩
          cases q : H b with
          | none => exact un.keep b o e q (fun z => (List.not_mem_nil (show b ∈ ([] : List Addr) from z)).elim) (fun z => (List.not_mem_nil z).elim)
          | some u =>
            rcases endH_inv q with ⟨m2, _⟩ | ⟨_, rfl, _, rfl⟩
            · exact absurd m2 m
            · have z := (hok' b _ (un.frzs b _ _ q)).1
              rw [list] at e
              rw [← Option.some.inj e]
              exact z
      refine ⟨rfl, ⟨fun b o e => ?_, fun b o e => ?_⟩, os, bare⟩
      · rcases here b o e with ⟨m, more, z⟩ | ⟨_, z⟩
        · obtain ⟨c, hc, rfl⟩ := List.mem_map.mp m
          have eT := Option.some.inj ((tab c hc).symm.trans e)
          subst eT
          exact .inr (.inl ⟨((heads c hc).tab (tab c hc)).isCodeTable, rfl, #[], more, rfl, by rw [Array.empty_append]; exact z⟩)
        · exact .inl z
      · rcases here b o e with ⟨_, _, z⟩ | ⟨_, z⟩
        · exact ⟨_, z⟩
        · exact ⟨_, z⟩
/-! ### repr -/
def rRepr (K : PySem.W.Frag) : List V → Hp → VK → Prop := fun xs H Q => ∃ (a : Addr) (d : PyData), xs = [.ref a] ∧ Dp K H (.ref a) d ∧ d.showable = true ∧ d.hasDict = false ∧ d.depth < 100 ∧ d.shown.length ≤ sizeLine ∧ Q (.str d.shown) H
theorem call_reprG {X : Cx} {k : Nat} (noG : X.A.guards = some []) (hr : Room k X.A) : CallR X (.builtin "repr") (rRepr X.K) := by
  intro pins s σ H xs us Q I r h
  obtain ⟨a, d, rfl, hd, h1, h2, h3, h4, q⟩ := h
  obtain ⟨u, rfl, e⟩ := vals1 r
  have e2 : u = Value.ref a := e
  subst e2
  obtain ⟨as, rd⟩ := Dp.reads I d _ _ hd rfl
  refine repr_of_reads' rd h1 (PyData.noDict_hsm h2) noG ?_ (fun _ _ z => z) (fun h' u tk z => ⟨.str _, H, I.kept z, ⟨_, rfl⟩, q⟩) h4
  have := hr.un
  omega
/-! ### a def with a table of code objects -/
structure HereT (K : PySem.W.Frag) (mg : Str → Option Value) (x : Str) (st : Stmt) (c : Addr) : Prop where
  ex : ∃ (f : Addr) (fd : FuncData), FunD K x x (defArgs st) (defBody st) (defScope st) [] [] f fd ∧ mg x = some (.ref f) ∧ fd.code = .ref c
section
variable {P : Program} {w : World} {K : PySem.W.Frag} {mg : Str → Option Value} {base : Heap} {k : Nat} {x : Str} {st : Stmt} {ps : List Str} {sp : Sp} {c : Addr}
theorem calT_mk {N : List Str} (D : HereT K mg x st c) (S : FnScope N ps (defScope st))
    (hb : ∀ (kV doc pm : Value) (an : Option Addr) (cdv ct : Value) (us : List Value), us.length = ps.length → bindArgs (PySem.W.fnOf x x (defArgs st) (defBody st) (defScope st) .none kV doc pm an cdv ct) ⟨us, []⟩ = pure (ps.zip us))
    (len : ∀ vs H Q E, sp vs H Q E → vs.length = ps.length)
    (hbody : ∀ (f : Addr) (cdv : Value) (A : Around) (outer : List Env) (s : Shared) (H : Hp) (vs : List V) (Q : VK) (E : XK), cdv = .ref c → Room k (A.deeper (envOfC x (defScope st) s.heap.objs.size f cdv)) → sp vs H Q E →
      ∃ t, PSs (cxOf CX0 P w K mg base N x (defScope st) f cdv A outer s H E).nox (defBody st) t ∧ t { nx := fun _ H' => Q .non H', rt := Q } (start N vs) H) : CalD P w K mg base (k + 1) x st ps sp := by
  obtain ⟨f, fd, F, g, hc⟩ := D.ex
  have hbs := F.bindsN hb
  have F2 := F
  obtain ⟨_, _, _, _, _, _, _, cdv, _, _, rfl, look, code, _, _⟩ := F2.ex
  refine ⟨f, _, fn_of look code S len fun A outer s H vs Q E hr h => ?_, F, g, hbs⟩
  obtain ⟨t, h1, h2⟩ := hbody f cdv A outer s H vs Q E hc hr h
  exact ⟨t, h1.nox, h2⟩
end
/-! ### heaps in which tables of code objects may have grown -/
def GrO (o o' : HO) : Prop := o' = o ∨ ∃ ps ps' : Array Value, o = .tbl ps ∧ o' = .tbl ps' ∧ TriplesOk ps'.toList
def Gro (H H' : Hp) : Prop := ∀ b o, H b = some o → ∃ o', H' b = some o' ∧ GrO o o'
theorem GrO.trans {a b c : HO} (h : GrO a b) (h2 : GrO b c) : GrO a c := by
  rcases h with rfl | ⟨ps, ps', rfl, rfl, t⟩
  · exact h2
  · rcases h2 with rfl | ⟨qs, qs', _, rfl, t2⟩
    · exact .inr ⟨ps, ps', rfl, rfl, t⟩
    · exact .inr ⟨ps, qs', rfl, rfl, t2⟩
theorem Gro.refl (H : Hp) : Gro H H := fun b o e => ⟨o, e, .inl rfl⟩
theorem Gro.trans {H H1 H2 : Hp} (h : Gro H H1) (h2 : Gro H1 H2) : Gro H H2 := fun b o e => by
  obtain ⟨o1, e1, g1⟩ := h b o e
  obtain ⟨o2, e2, g2⟩ := h2 b o1 e1
  exact ⟨o2, e2, g1.trans g2⟩
theorem Gro.of {H H' : Hp} (h : Same H H') : Gro H H' := fun b o e => ⟨o, h b o e, .inl rfl⟩
theorem Gro.tab {H H' : Hp} {P : Addr} (h : GxR.TabG H P) (t : GxR.Tabbed P H H') : Gro H H' := fun b o e => by
  obtain ⟨ps, hp, _⟩ := h
  obtain ⟨⟨ps', hp', t'⟩, r⟩ := t
  by_cases hb : b = P
  · rw [hb, hp] at e
    cases e
    exact ⟨_, by rw [hb]; exact hp', .inr ⟨ps, ps', rfl, rfl, t'⟩⟩
  · exact ⟨o, by rw [r b hb]; exact e, .inl rfl⟩
theorem Gro.at {H H' : Hp} (h : Gro H H') {b : Addr} {o : HO} (e : H b = some o) (n : ∀ ps, o ≠ .tbl ps := by intro _ z; cases z) : H' b = some o := by
  obtain ⟨o', e', g⟩ := h b o e
  rcases g with rfl | ⟨ps, _, rfl, _⟩
  · exact e'
  · exact absurd rfl (n ps)
theorem Gro.tg {H H' : Hp} {P : Addr} (h : Gro H H') (t : GxR.TabG H P) : GxR.TabG H' P := by
  obtain ⟨ps, hp, tr⟩ := t
  obtain ⟨o', e', g⟩ := h P _ hp
  rcases g with rfl | ⟨_, ps', _, rfl, t'⟩
  · exact ⟨ps, e', tr⟩
  · exact ⟨ps', e', t'⟩
theorem Gro.seq {K : PySem.W.Frag} {H H' : Hp} {a : Addr} {xs : List V} (e : Gro H H') (h : SqL K H a xs) : SqL K H' a xs := by
  rcases h with (h | ⟨o, h⟩) | h
  · exact .inl (.inl (e.at h))
  · exact .inl (.inr ⟨o, e.at h⟩)
  · exact .inr h
theorem Gro.tupS {K : PySem.W.Frag} {H H' : Hp} {a : Addr} {xs : List V} (e : Gro H H') (h : SqT K H a xs) : SqT K H' a xs := by
  rcases h with (h | ⟨o, h⟩) | h
  · exact .inl (.inl (e.at h))
  · exact .inl (.inr ⟨o, e.at h⟩)
  · exact .inr h
mutual
theorem Dp.gro {K : PySem.W.Frag} {H H' : Hp} (s : Gro H H') : ∀ (d : PyData) (v : V), Dp K H v d → Dp K H' v d
  | .none, _, h => by cases h; exact .non
  | .bool b, _, h => by cases h; exact .bl b
  | .int i, _, h => by cases h; exact .int i
  | .str x, _, h => by cases h; exact .str x
  | .list ds, _, h => by
    cases h with
    | lst h1 h2 => exact .lst (s.seq h1) (DpAll.gro s ds _ h2)
  | .tuple ds, _, h => by
    cases h with
    | tup h1 h2 => exact .tup (s.tupS h1) (DpAll.gro s ds _ h2)
  | .dict _, _, h => nomatch h
theorem DpAll.gro {K : PySem.W.Frag} {H H' : Hp} (s : Gro H H') : ∀ (ds : List PyData) (vs : List V), DpAll K H vs ds → DpAll K H' vs ds
  | [], _, h => by cases h; exact .nil
  | d :: ds, _, h => by
    cases h with
    | cons h1 h2 => exact .cons (Dp.gro s d _ h1) (DpAll.gro s ds _ h2)
end
/-- all but the object at a -/
def OffG (a : Addr) (H H' : Hp) : Prop := ∀ b o, b ≠ a → H b = some o → ∃ o', H' b = some o' ∧ GrO o o'
theorem OffG.refl (a : Addr) (H : Hp) : OffG a H H := fun b o _ e => ⟨o, e, .inl rfl⟩
theorem OffG.trans {a : Addr} {H H1 H2 : Hp} (h : OffG a H H1) (h2 : OffG a H1 H2) : OffG a H H2 := fun b o n e => by
  obtain ⟨o1, e1, g1⟩ := h b o n e
  obtain ⟨o2, e2, g2⟩ := h2 b o1 n e1
  exact ⟨o2, e2, g1.trans g2⟩
theorem OffG.of {a : Addr} {H H' : Hp} (h : Gro H H') : OffG a H H' := fun b o _ e => h b o e
theorem OffG.off {a : Addr} {H H' : Hp} (h : Off a H H') : OffG a H H' := fun b o n e => ⟨o, h b o n e, .inl rfl⟩
theorem OffG.at {a : Addr} {H H' : Hp} (h : OffG a H H') {b : Addr} {o : HO} (m : b ≠ a) (e : H b = some o) (n : ∀ ps, o ≠ .tbl ps := by intro _ z; cases z) : H' b = some o := by
  obtain ⟨o', e', g⟩ := h b o m e
  rcases g with rfl | ⟨ps, _, rfl, _⟩
  · exact e'
  · exact absurd rfl (n ps)
theorem OffG.tg {a : Addr} {H H' : Hp} {P : Addr} (h : OffG a H H') (m : P ≠ a) (t : GxR.TabG H P) : GxR.TabG H' P := by
  obtain ⟨ps, hp, tr⟩ := t
  obtain ⟨o', e', g⟩ := h P _ m hp
  rcases g with rfl | ⟨_, ps', _, rfl, t'⟩
  · exact ⟨ps, e', tr⟩
  · exact ⟨ps', e', t'⟩
theorem DeckAt.gro {H H' : Hp} {a : Addr} (h : DeckAt H a) (s : Gro H H') : DeckAt H' a := by
  obtain ⟨x, y, e, h0, h1⟩ := h
  exact ⟨x, y, s.at e, h0, h1⟩
theorem TabG.ne_deck {H : Hp} {a P : Addr} (t : GxR.TabG H P) (h : DeckAt H a) : P ≠ a := fun z => by
  obtain ⟨ps, e, _⟩ := t
  obtain ⟨x, y, e2, _⟩ := h
  rw [z, e2] at e
  cases e
/-! ### the end, for such laws -/
theorem walk_ofG {l : PySem.W.OpenLaw} {n k : Nat} {q : Program} {loose : List Str} {XP : (Str → Option Value) → Heap → Prop} {YP : World → Heap → Prop} {d : DefRec} {x : Str}
    (hn : l.most = some n) (hn2 : n ≤ sizeLine) (hdf : d.params.defaults = []) (hr : Room k callerA)
    (F : ∀ (w : World) (mg : Str → Option Value) (fa : Addr) (h : Heap), YP w h → h.Ns mainGlobals mg → mg d.name = some (.ref fa) →
      ∃ (K : PySem.W.Frag) (fd : FuncData) (cs : List (Addr × Addr)) (sp : Sp), K.In h ∧ (∀ c ∈ cs, h.get? c.2 = some emptyT) ∧ (∀ c ∈ cs, K.lookup c.2 = none) ∧ (∀ c ∈ cs, PySem.W.CodeHd h c.1 c.2) ∧ (∀ (s : Shared) (u : Value), BindsTo s fd ⟨[u], []⟩ [(x, u)]) ∧
        (∀ (H : Hp) (a : Addr) (ns : List Int), ns.length ≤ n → (∀ c ∈ cs, H c.2 = some (.tbl #[])) → SqL K H a (ns.map V.int) → sp [.ref a] H (fun v _ => v = .bl true) fun _ _ _ => False) ∧
        ∀ base : Heap, K.In base → base.Ns mainGlobals mg → (∀ c ∈ cs, GxR.TabB base mg c.1 c.2) → FnG l.prog w K mg base k fa fd [x] sp) :
    PySem.W.WalkO q loose XP YP l.row.toRowW d [] (fun f vs => PySem.call f vs) := by
  refine Att.attach_callB hn hdf fun w s₀ st mg mb fa o pm cd doc a vs ns G Y ho hd hcd hmg hobj hints hlen hbits hg => ?_
  obtain ⟨K, fd, cs, sp, KX, tab, out, heads, bind, want, hF⟩ := F w mg fa _ Y G.T.g hmg
  exact law_callG KX G.T.g G.T.b G.T.builtins G.T.nolimit hg tab out heads G.T.bmain hobj hints (Nat.le_trans hlen hn2) hr hF bind fun H hH hS => want H a ns hlen hH hS
end Ky
/-! ### words as naturals -/
namespace Ky
open PySem PySem.Spec PyProof.Rows L2
theorem or_eq : ∀ (k n m : Nat), n < 2 ^ k → m < 2 ^ k → n ||| m = (n ^^^ m) + (n &&& m)
  | 0, n, m, hn, hm => by
    have e1 : n = 0 := by simpa using hn
    have e2 : m = 0 := by simpa using hm
    subst e1 e2
    rfl
  | k + 1, n, m, hn, hm => by
    have ih := or_eq k (n / 2) (m / 2) (by rw [Nat.pow_succ] at hn; omega) (by rw [Nat.pow_succ] at hm; omega)
    rw [← Nat.or_div_two, ← Nat.xor_div_two, ← Nat.and_div_two] at ih
    have h1 : (n ||| m) % 2 = (n ^^^ m) % 2 + (n &&& m) % 2 := by
      have a1 := Nat.or_mod_two_pow (a := n) (b := m) (n := 1)
      have a2 := Nat.xor_mod_two_pow (a := n) (b := m) (n := 1)
      have a3 := Nat.and_mod_two_pow (a := n) (b := m) (n := 1)
      rw [Nat.pow_one] at a1 a2 a3
      rw [a1, a2, a3]
      rcases Nat.mod_two_eq_zero_or_one n with e | e <;> rcases Nat.mod_two_eq_zero_or_one m with f | f <;> rw [e, f] <;> rfl
    omega
theorem lt_pow_self2 (n m : Nat) : n < 2 ^ (n + m) ∧ m < 2 ^ (n + m) := by
  have h := Nat.lt_two_pow_self (n := n + m)
  omega
theorem bitXor_nat (n m : Nat) : Builtin.bitXor (n : Int) (m : Int) = ((n ^^^ m : Nat) : Int) := by
  have h := or_eq (n + m) n m (lt_pow_self2 n m).1 (lt_pow_self2 n m).2
  show Builtin.bitOr (n : Int) (m : Int) - Builtin.bitAnd (n : Int) (m : Int) = _
  have e2 : Builtin.bitAnd (n : Int) (m : Int) = ((n &&& m : Nat) : Int) := by
    have h1 : (0 : Int) ≤ (n : Int) := by omega
    have h2 : (0 : Int) ≤ (m : Int) := by omega
    unfold Builtin.bitAnd
    simp [h1, h2]
  rw [bitOr_nn (by omega) (by omega), e2, Int.toNat_natCast, Int.toNat_natCast, h]
  omega
/-- how many bits -/
def bl (n : Nat) : Nat := if n = 0 then 0 else n.log2 + 1
theorem bl_int (n : Nat) : Builtin.Int.intBits (n : Int) = bl n := by
  unfold Builtin.Int.intBits bl
  by_cases h : n = 0
  · subst h
    rfl
  · have h1 : ¬ ((n : Int) == 0) = true := by simpa using h
    rw [if_neg h1, if_neg h]
    rfl
theorem bl_le (n w : Nat) : bl n ≤ w ↔ n < 2 ^ w := by
  unfold bl
  by_cases h : n = 0
  · subst h
    rw [if_pos rfl]
    exact ⟨fun _ => Nat.pow_pos (by decide), fun _ => Nat.zero_le _⟩
  · rw [if_neg h]
    have := Nat.log2_lt (n := n) (k := w) h
    omega
/-- the width -/
def wid (n : Nat) : Nat := max 1 (bl n)
theorem wid_of {n f : Nat} (h1 : 1 ≤ f) (h : n < 2 ^ f) (h2 : f = 1 ∨ 2 ^ (f - 1) ≤ n) : f = wid n := by
  have a := (bl_le n f).mpr h
  unfold wid
  rcases h2 with e | e
  · omega
  · have b : ¬ bl n ≤ f - 1 := fun q => by
      have := (bl_le n (f - 1)).mp q
      omega
    omega
/-- the places of the bits below t -/
def plc (n t : Nat) : List Nat := (List.range t).filter fun k => n.testBit k
theorem plc_succ (n t : Nat) : plc n (t + 1) = plc n t ++ if n.testBit t = true then [t] else [] := by
  unfold plc
  rw [List.range_succ, List.filter_append]
  congr 1
  by_cases h : n.testBit t = true
  · rw [if_pos h]
    simp [h]
  · rw [if_neg h]
    simp [h]
theorem plc_more {n t : Nat} (h : n < 2 ^ t) : ∀ d, plc n (t + d) = plc n t
  | 0 => rfl
  | d + 1 => by
    have e : n.testBit (t + d) = false := Nat.testBit_lt_two_pow (Nat.lt_of_lt_of_le h (Nat.pow_le_pow_right (by decide) (Nat.le_add_right _ _)))
    rw [show t + (d + 1) = (t + d) + 1 from rfl, plc_succ, plc_more h d, if_neg (by rw [e]; decide), List.append_nil]
theorem plc_eq {n t s : Nat} (h : n < 2 ^ t) (h2 : n < 2 ^ s) : plc n t = plc n s := by
  rcases Nat.le_total t s with e | e
  · obtain ⟨d, rfl⟩ := Nat.le.dest e
    exact (plc_more h d).symm
  · obtain ⟨d, rfl⟩ := Nat.le.dest e
    exact plc_more h2 d
theorem plc_len (n t : Nat) : (plc n t).length ≤ t := by
  unfold plc
  exact Nat.le_trans (List.length_filter_le _ _) (by rw [List.length_range]; exact Nat.le_refl _)
theorem testBit_mod (n t : Nat) : n.testBit t = decide (n / 2 ^ t % 2 = 1) := Nat.testBit_eq_decide_div_mod_eq
/-- bits by halves -/
theorem low_succ (x t : Nat) : x % 2 ^ (t + 1) = x % 2 ^ t + 2 ^ t * (x / 2 ^ t % 2) := by
  rw [Nat.pow_succ, Nat.mod_mul]
theorem xor_bit (n m t : Nat) : (n ^^^ m) / 2 ^ t % 2 = if n / 2 ^ t % 2 = m / 2 ^ t % 2 then 0 else 1 := by
  have h : (n ^^^ m).testBit t = (n.testBit t ^^ m.testBit t) := Nat.testBit_xor ..
  rw [testBit_mod, testBit_mod, testBit_mod] at h
  rcases Nat.mod_two_eq_zero_or_one (n / 2 ^ t) with e | e <;> rcases Nat.mod_two_eq_zero_or_one (m / 2 ^ t) with f | f <;> rcases Nat.mod_two_eq_zero_or_one ((n ^^^ m) / 2 ^ t) with g | g <;> simp_all
theorem half_pow (n t : Nat) : n / 2 ^ t / 2 = n / 2 ^ (t + 1) := by
  rw [Nat.div_div_eq_div_mul, Nat.pow_succ]
theorem lt_of_div {n t : Nat} (h : n / 2 ^ t = 0) : n < 2 ^ t := by
  have := Nat.div_eq_zero_iff.mp h
  have p : 0 < 2 ^ t := Nat.pow_pos (by decide)
  omega
theorem nat_zero {a : Nat} (h : ¬ decide ((0 : Int) < (a : Int)) = true) : a = 0 := by
  have h1 : ¬ (0 : Int) < (a : Int) := fun e => h (decide_eq_true e)
  omega
theorem nat_pos {a : Nat} (h : decide ((0 : Int) < (a : Int)) = true) : a ≠ 0 := by
  have h1 : (0 : Int) < (a : Int) := of_decide_eq_true h
  omega
theorem cast_half (a : Nat) : (a : Int) / 2 = ((a / 2 : Nat) : Int) := by omega
theorem cast_mod2 (a : Nat) : (a : Int) % 2 = ((a % 2 : Nat) : Int) := by omega
theorem half_lt {a b : Nat} (h : ¬ (a = 0 ∧ b = 0)) : a / 2 + b / 2 < a + b := by omega
theorem half_lt1 {a : Nat} (h : a ≠ 0) : a / 2 < a := by omega
end Ky
/-! ### sums of words -/
namespace Ky
def xorAll (l : List Nat) : Nat := l.foldl (fun a b => a ^^^ b) 0
theorem xor_fold (l : List Nat) : ∀ a, l.foldl (fun a b => a ^^^ b) a = a ^^^ xorAll l := by
  induction l with
  | nil => intro a; show a = a ^^^ 0; rw [Nat.xor_zero]
  | cons x l ih =>
    intro a
    show l.foldl (fun a b => a ^^^ b) (a ^^^ x) = a ^^^ l.foldl (fun a b => a ^^^ b) (0 ^^^ x)
    rw [ih, ih, Nat.zero_xor, Nat.xor_assoc]
theorem xorAll_cons (x : Nat) (l : List Nat) : xorAll (x :: l) = x ^^^ xorAll l := by
  show l.foldl (fun a b => a ^^^ b) (0 ^^^ x) = _
  rw [xor_fold, Nat.zero_xor]
theorem xorAll_append (l m : List Nat) : xorAll (l ++ m) = xorAll l ^^^ xorAll m := by
  unfold xorAll
  rw [List.foldl_append, xor_fold m]
  rfl
theorem xorAll_perm {l m : List Nat} (h : l.Perm m) : xorAll l = xorAll m := by
  induction h with
  | nil => rfl
  | cons x _ ih => rw [xorAll_cons, xorAll_cons, ih]
  | swap x y l => rw [xorAll_cons, xorAll_cons, xorAll_cons, xorAll_cons, ← Nat.xor_assoc, ← Nat.xor_assoc, Nat.xor_comm y x]
  | trans _ _ h1 h2 => rw [h1, h2]
theorem xorAll_lt {k : Nat} : ∀ {l : List Nat}, (∀ n ∈ l, n < 2 ^ k) → xorAll l < 2 ^ k
  | [], _ => Nat.pow_pos (by decide)
  | x :: l, h => by
    rw [xorAll_cons]
    exact Nat.xor_lt_two_pow (h x List.mem_cons_self) (xorAll_lt fun n hn => h n (List.mem_cons_of_mem _ hn))
theorem xorAll_take {l : List Nat} {i n : Nat} (e : l[i]? = some n) : xorAll (l.take (i + 1)) = xorAll (l.take i) ^^^ n := by
  rw [List.take_add_one, e, xorAll_append]
  show _ ^^^ xorAll [n] = _
  rw [xorAll_cons]
  show _ ^^^ (n ^^^ 0) = _
  rw [Nat.xor_zero]
theorem xor_div (a b i : Nat) : (a ^^^ b) / 2 ^ i = (a / 2 ^ i) ^^^ (b / 2 ^ i) := by
  rw [← Nat.shiftRight_eq_div_pow, ← Nat.shiftRight_eq_div_pow, ← Nat.shiftRight_eq_div_pow, Nat.shiftRight_xor_distrib]
theorem xor_mod2 (a b : Nat) : (a ^^^ b) % 2 = (a % 2 + b % 2) % 2 := by
  have z := Nat.xor_mod_two_pow (a := a) (b := b) (n := 1)
  rw [Nat.pow_one] at z
  rw [z]
  rcases Nat.mod_two_eq_zero_or_one a with e | e <;> rcases Nat.mod_two_eq_zero_or_one b with f | f <;> rw [e, f] <;> rfl
theorem sum_bits (i : Nat) : ∀ l : List Nat, (l.map fun n => n / 2 ^ i % 2).sum % 2 = xorAll l / 2 ^ i % 2
  | [] => by
    show 0 % 2 = 0 / 2 ^ i % 2
    rw [Nat.zero_div]
  | x :: l => by
    have ih := sum_bits i l
    rw [xorAll_cons, xor_div, xor_mod2, ← ih, List.map_cons, List.sum_cons]
    omega
theorem half_step (n i : Nat) : n / 2 ^ i / 2 = n / 2 ^ (i + 1) := by
  rw [Nat.div_div_eq_div_mul, Nat.pow_succ]
theorem plc_bl {n t : Nat} (h : n < 2 ^ t) : plc n (bl n) = plc n t := by
  have h1 := (bl_le n t).mpr h
  have h2 := (bl_le n (bl n)).mp (Nat.le_refl _)
  have e := plc_more h2 (t - bl n)
  rw [show bl n + (t - bl n) = t by omega] at e
  exact e.symm
end Ky
/-! ### the promises of the words' functions -/
namespace Ky
open PySem PySem.Spec PyProof.Rows L2
def isIntD : PyData → Int → Bool
  | .int i, l => decide (l ≤ i)
  | _, _ => false
def spIsInt (K : PySem.W.Frag) : Sp := fun vs H Q _ => ∃ (x : V) (d : PyData) (l : Int), vs = [x, .int l] ∧ Dp K H x d ∧ Q (.bl (isIntD d l)) H
def spCheckWord : Sp := fun vs H Q _ => ∃ n : Nat, vs = [.int (n : Int)] ∧ Q .non H
def spAdded : Sp := fun vs H Q _ => ∃ n m : Nat, vs = [.int (n : Int), .int (m : Int)] ∧ Q (.int ((n ^^^ m : Nat) : Int)) H
def intsV (l : List Nat) : List V := l.map fun (k : Nat) => V.int (k : Int)
def spBits : Sp := fun vs H Q _ => ∃ n : Nat, vs = [.int (n : Int)] ∧ bl n ≤ 100000 ∧ ∀ (H' : Hp) (p : Addr), Same H H' → H' p = some (.tup (intsV (plc n (bl n)))) → Q (.ref p) H'
def spWidth : Sp := fun vs H Q _ => ∃ n : Nat, vs = [.int (n : Int)] ∧ Q (.int (wid n : Int)) H
def isWordD : PyData → Nat → Bool
  | .int i, w => decide (0 ≤ i) && decide (i < 2 ^ w)
  | _, _ => false
def spIsWord (K : PySem.W.Frag) : Sp := fun vs H Q _ => ∃ (x : V) (d : PyData) (w : Nat), vs = [.int (w : Int), x] ∧ 1 ≤ w ∧ Dp K H x d ∧ Q (.bl (isWordD d w)) H
/-- a drawn word -/
def spWord : Sp := fun vs H Q _ => ∃ (a : Addr) (most : Nat), vs = [.ref a, .int (most : Int)] ∧ DeckAt H a ∧ most ≤ 1000 ∧ ∀ (n : Nat) (H' : Hp), n < 2 ^ (most + 2) → Off a H H' → DeckAt H' a → Q (.int (n : Int)) H'
def spSum : Sp := fun vs H Q _ => ∃ n m : Nat, vs = [.int (n : Int), .int (m : Int)] ∧ n < 2 ^ 1100 ∧ m < 2 ^ 1100 ∧ ∀ H', Same H H' → Q (.int ((n ^^^ m : Nat) : Int)) H'
def spPower : Sp := fun vs H Q _ => ∃ n : Nat, vs = [.int (n : Int)] ∧ n ≤ 100000 ∧ Q (.int ((2 ^ n : Nat) : Int)) H
def spPlaces : Sp := fun vs H Q _ => ∃ n : Nat, vs = [.int (n : Int)] ∧ bl n ≤ 100000 ∧ ∀ (H' : Hp) (p : Addr), Same H H' → H' p = some (.tup (intsV (plc n (bl n)))) → Q (.ref p) H'
def spWidthL : Sp := fun vs H Q _ => ∃ n : Nat, vs = [.int (n : Int)] ∧ bl n ≤ 100000 ∧ ∀ H', Same H H' → Q (.int (wid n : Int)) H'
def spRight : Sp := fun vs H Q _ => ∃ a : Addr, vs = [.ref a] ∧ DeckAt H a ∧ ∀ H', Off a H H' → Q (.bl true) H'
theorem cmulx {n m a b : Nat} (h1 : n < 2 ^ a) (h2 : m < 2 ^ b) (h : a + b ≤ 134217728) : CMulX (n : Int) (m : Int) := mulx_ok (a := a) (b := b) (by simpa using h1) (by simpa using h2) h
theorem cast_pow (t : Nat) : ((2 ^ t : Nat) : Int) = (2 : Int) ^ t := by
  rw [Int.natCast_pow]
  rfl
theorem bl_pow_le {n w : Nat} (h : n < 2 ^ w) : bl n ≤ w := (bl_le n w).mpr h
theorem intsV_map (l : List Nat) : intsV l = (l.map fun k : Nat => (k : Int)).map V.int := by
  unfold intsV
  rw [List.map_map]
  rfl
/-- two tuples of naturals -/
theorem dpT {K : PySem.W.Frag} {H : Hp} {p : Addr} (l : List Nat) (h : H p = some (.tup (intsV l))) : Dp K H (.ref p) (.tuple ((l.map fun k : Nat => (k : Int)).map PyData.int)) := by
  rw [intsV_map] at h
  exact .tup (SqT.of h) (dpI _)
theorem wid_pos (n : Nat) : 1 ≤ wid n := by
  unfold wid
  omega
theorem wid_lt (n : Nat) : n < 2 ^ wid n := (bl_le n (wid n)).mp (by unfold wid; omega)
theorem wid_le {n w : Nat} (hw : 1 ≤ w) : n < 2 ^ w ↔ wid n ≤ w := by
  have := bl_le n w
  unfold wid
  omega
theorem isWord_nat (n w : Nat) : isWordD (.int (n : Int)) w = decide (n < 2 ^ w) := by
  show (decide (0 ≤ (n : Int)) && decide ((n : Int) < 2 ^ w)) = _
  rw [decide_eq_true (by omega : 0 ≤ (n : Int)), Bool.true_and, ← cast_pow]
  by_cases h : n < 2 ^ w
  · rw [decide_eq_true h, decide_eq_true (Int.ofNat_lt.mpr h)]
  · rw [decide_eq_false h, decide_eq_false (fun e => h (Int.ofNat_lt.mp e))]
theorem isWord_3 (n low : Nat) (h : 1 ≤ low) : [isWordD (.int (n : Int)) (wid n), isWordD (.int (n : Int)) low, isWordD (.int (n : Int)) (wid n + 1)] = [true, decide ((wid n : Int) ≤ (low : Int)), true] := by
  have h1 := wid_lt n
  have h2 : n < 2 ^ (wid n + 1) := Nat.lt_trans h1 (Nat.pow_lt_pow_right (by decide) (by omega))
  rw [isWord_nat, isWord_nat, isWord_nat, decide_eq_true h1, decide_eq_true h2]
  have h3 := wid_le (n := n) h
  by_cases h4 : n < 2 ^ low
  · rw [decide_eq_true h4, decide_eq_true (Int.ofNat_le.mpr (h3.mp h4))]
  · rw [decide_eq_false h4, decide_eq_false (fun e => h4 (h3.mpr (Int.ofNat_le.mp e)))]
theorem isWord_less {n : Nat} (h : 1 < wid n) : isWordD (.int (n : Int)) (wid n - 1) = false := by
  rw [isWord_nat]
  refine decide_eq_false fun e => ?_
  have := (wid_le (n := n) (w := wid n - 1) (by omega)).mp e
  omega
theorem isWord_pow (low : Nat) : [isWordD (.int ((2 ^ low : Nat) : Int)) low, isWordD (.int (((2 ^ low : Nat) : Int) - 1)) low] = [false, true] := by
  have hp : 0 < 2 ^ low := Nat.pow_pos (by decide)
  rw [show (((2 ^ low : Nat) : Int) - 1) = ((2 ^ low - 1 : Nat) : Int) by omega, isWord_nat, isWord_nat, decide_eq_false (Nat.lt_irrefl _), decide_eq_true (by omega)]
theorem isWord_neg {i : Int} (h : i < 0) (w : Nat) : isWordD (.int i) w = false := by
  show (decide (0 ≤ i) && _) = false
  rw [decide_eq_false (by omega), Bool.false_and]
end Ky
/-! ### all(..) over a list or a tuple of data; the bundles that laws with tables need -/
namespace Ky
open PySem PySem.Spec PyProof.Rows L2
/-- a list or a tuple walked -/
def iSeq (K : PySem.W.Frag) (tl : TE) : TI := fun σ H R => tl σ H fun x H1 => ∃ a, x = .ref a ∧ (((∃ xs, SqL K H1 a xs) ∧ R (Itl K a) H1) ∨ ((∃ xs, SqT K H1 a xs) ∧ R (Itt K a) H1))
theorem pi_seq {X : Cx} {tg l : Expr} {tl : TE} (hl : PE X l tl) : PI X tg l (iSeq X.K tl) := by
  refine ⟨fun pins s σ H R I h => thn (hl.run pins s σ H _ I h) fun v s1 ⟨x, H1, I1, r1, a, ex, q⟩ => ?_⟩
  subst ex
  have ev : v = Value.ref a := r1
  subst ev
  have fp : ∀ b ∈ [s1.heap.objs.size], FpOk X pins H1 b := fun b hb => by
    rw [List.mem_singleton.mp hb]
    exact I1.fpOk (Nat.le_refl _) (I1.hok.fresh (Nat.le_refl _))
  have kept : ∀ o : Obj, Inv X pins σ H1 { s1 with heap := s1.heap.push o } := fun o => I1.kept (t' := s1.toks) fun b u z => Heap.get?_push_of_some _ z
  rcases q with ⟨⟨xs, sq⟩, q⟩ | ⟨⟨xs, sq⟩, q⟩
  · obtain ⟨its, rv, p, _⟩ := I1.list sq
    exact wpAny_pyIter_list p.isList ⟨s1.heap.objs.size, [s1.heap.objs.size], _, _, H1, rfl, kept _, turn_list a _, ⟨_, Heap.get?_push_size _ rfl, rfl, rfl⟩, fp, q⟩
  · obtain ⟨its, rv, p, _⟩ := I1.tuple sq
    exact wpAny_pyIter_tuple (show s1.heap.IsTuple a its.toArray from p) ⟨s1.heap.objs.size, [s1.heap.objs.size], _, _, H1, rfl, kept _, turn_tuple a _, ⟨_, Heap.get?_push_size _ rfl, rfl, rfl⟩, fp, q⟩
/-- all(te for x in xs), each item's answer known -/
theorem asks_of {J : It} {xs : List V} {f : Nat → Bool} {σ : L2.St} {vs : List Nat} {i : Nat} {te : TE} {Q : VK} {H0 H2 : Hp} (g : Gro H0 H2)
    (hgo : ∀ k H, k < xs.length → Gro H0 H → J.go k H) (hy : ∀ k H x H', Gro H0 H → J.yld k H x H' → H' = H ∧ xs[k]? = some x) (hs : ∀ H, Gro H0 H → J.stop xs.length H)
    (hw : ∀ v, wipe ((wipe σ vs).set i (some v)) vs = wipe σ vs)
    (el : ∀ k v H, xs[k]? = some v → Gro H0 H → te ((wipe σ vs).set i (some v)) H fun y H4 => y = .bl (f k) ∧ Gro H0 H4)
    (q : ∀ H, Gro H0 H → Q (.bl ((List.range xs.length).all f)) H) : Gx.Asks σ Q i te vs J H2 := by
  refine ⟨xs.length, f, fun k H => Gro H0 H ∧ ∀ j, j < k → f j = true, fun k H => k < xs.length ∧ Gro H0 H ∧ ∀ j, j < k → f j = true, ⟨g, fun j hj => absurd hj (Nat.not_lt_zero _)⟩, fun k H hk hP => ⟨hgo k H hk hP.1, fun x H' hyl => ?_⟩, fun k H hN hb => ⟨hN.2.1, fun j hj => ?_⟩, fun k H hN hb => ?_, fun H hP => ⟨hs H hP.1, ?_⟩⟩
  · obtain ⟨rfl, hx⟩ := hy k H x H' hP.1 hyl
    refine ⟨hw x, ?_⟩
    have z := el k x H' hx hP.1
    have e : (fun (y : V) H4 => y = .bl (f k) ∧ k < xs.length ∧ Gro H0 H4 ∧ ∀ j, j < k → f j = true) = fun (y : V) H4 => y = .bl (f k) ∧ Gro H0 H4 := by
      funext y H4
      exact propext ⟨fun z => ⟨z.1, z.2.2.1⟩, fun z => ⟨z.1, hk, z.2, hP.2⟩⟩
    show te ((wipe σ vs).set i (some x)) H' fun y H4 => y = .bl (f k) ∧ k < xs.length ∧ Gro H0 H4 ∧ ∀ j, j < k → f j = true
    rw [e]
    exact z
  · rcases Nat.lt_succ_iff_lt_or_eq.mp hj with h | rfl
    · exact hN.2.2 j h
    · exact hb
  · have e : (List.range xs.length).all f = false := by
      rw [← Bool.not_eq_true, List.all_eq_true]
      intro z
      rw [z k (List.mem_range.mpr hN.1)] at hb
      cases hb
    have z := q H hN.2.1
    rwa [e] at z
  · have e : (List.range xs.length).all f = true := List.all_eq_true.mpr fun j hj => hP.2 j (List.mem_range.mp hj)
    have z := q H hP.1
    rwa [e] at z
theorem all_get {α : Type} (l : List α) (p : α → Bool) (f : Nat → Bool) (h : ∀ k x, l[k]? = some x → f k = p x) : (List.range l.length).all f = l.all p := by
  rw [Bool.eq_iff_iff, List.all_eq_true, List.all_eq_true]
  constructor
  · intro z x hx
    obtain ⟨k, hk, rfl⟩ := List.getElem_of_mem hx
    rw [← h k _ (List.getElem?_eq_getElem hk)]
    exact z k (List.mem_range.mpr hk)
  · intro z k hk
    have hk := List.mem_range.mp hk
    rw [h k _ (List.getElem?_eq_getElem hk)]
    exact z _ (List.getElem_mem hk)
/-- .. over data -/
theorem asks_data {J : It} {K : PySem.W.Frag} {xs : List V} {ds : List PyData} (p : PyData → Bool) {σ : L2.St} {vs : List Nat} {i : Nat} {te : TE} {Q : VK} {H0 H2 : Hp} (g : Gro H0 H2) (hd : DpAll K H0 xs ds)
    (hgo : ∀ k H, k < xs.length → Gro H0 H → J.go k H) (hy : ∀ k H x H', Gro H0 H → J.yld k H x H' → H' = H ∧ xs[k]? = some x) (hs : ∀ H, Gro H0 H → J.stop xs.length H)
    (hw : ∀ v, wipe ((wipe σ vs).set i (some v)) vs = wipe σ vs)
    (el : ∀ v d H, d ∈ ds → Dp K H v d → Gro H0 H → te ((wipe σ vs).set i (some v)) H fun y H4 => y = .bl (p d) ∧ Gro H0 H4)
    (q : ∀ H, Gro H0 H → Q (.bl (ds.all p)) H) : Gx.Asks σ Q i te vs J H2 := by
  have hl := DpAll.length _ hd
  refine asks_of (xs := xs) (f := fun k => match ds[k]? with | some d => p d | none => true) g hgo hy hs hw (fun k v H hk hg => ?_) fun H hg => ?_
  · have hlt : k < ds.length := by
      rw [← hl]
      exact (List.getElem?_eq_some_iff.mp hk).1
    obtain ⟨v', hv, hdv⟩ := DpAll.get _ hd (List.getElem?_eq_getElem hlt)
    rw [hk] at hv
    cases hv
    have z := el v _ H (List.getElem_mem hlt) (Dp.gro hg _ _ hdv) hg
    simpa only [List.getElem?_eq_getElem hlt] using z
  · rw [hl, all_get ds p _ (fun k x e => by simp only [e])]
    exact q H hg
theorem go_l {K : PySem.W.Frag} {a : Addr} {xs : List V} {H0 : Hp} (h : SqL K H0 a xs) : ∀ k H, k < xs.length → Gro H0 H → (Itl K a).go k H := fun k H hk g => ⟨xs, _, g.seq h, List.getElem?_eq_getElem hk⟩
theorem yl_l {K : PySem.W.Frag} {a : Addr} {xs : List V} {H0 : Hp} (h : SqL K H0 a xs) : ∀ k H x H', Gro H0 H → (Itl K a).yld k H x H' → H' = H ∧ xs[k]? = some x := fun k H x H' g z => ⟨z.1, z.2 xs (g.seq h)⟩
theorem st_l {K : PySem.W.Frag} {a : Addr} {xs : List V} {H0 : Hp} (h : SqL K H0 a xs) : ∀ H, Gro H0 H → (Itl K a).stop xs.length H := fun H g => ⟨xs, g.seq h, Nat.le_refl _⟩
theorem go_t {K : PySem.W.Frag} {a : Addr} {xs : List V} {H0 : Hp} (h : SqT K H0 a xs) : ∀ k H, k < xs.length → Gro H0 H → (Itt K a).go k H := fun k H hk g => ⟨xs, _, g.tupS h, List.getElem?_eq_getElem hk⟩
theorem yl_t {K : PySem.W.Frag} {a : Addr} {xs : List V} {H0 : Hp} (h : SqT K H0 a xs) : ∀ k H x H', Gro H0 H → (Itt K a).yld k H x H' → H' = H ∧ xs[k]? = some x := fun k H x H' g z => ⟨z.1, z.2 xs (g.tupS h)⟩
theorem st_t {K : PySem.W.Frag} {a : Addr} {xs : List V} {H0 : Hp} (h : SqT K H0 a xs) : ∀ H, Gro H0 H → (Itt K a).stop xs.length H := fun H g => ⟨xs, g.tupS h, Nat.le_refl _⟩
/-- a generator expression's scope within a def's -/
theorem genS_by {env : Env} {sc scope : Scope} {x : Str} {n : Nat} (hc : env.cells = cellsFrom n sc.names []) (h1 : scope.kind = .function) (h2 : scope.isCoroutine = false) (h3 : ∀ y ∈ scope.names, y.2 ≠ .cell) (h4 : scope.names.lookup (".0" : Str) = some NameKind.local)
    (h5 : scope.names.lookup x = some .local) (h6 : ∀ y ∈ scope.names, y.2 = .free → sc.names.lookup y.1 = some .cell) : GxR.GenS env scope x := by
  refine ⟨h1, h2, h3, h4, h5, fun y hy hf => ?_⟩
  obtain ⟨c, e⟩ := cell_has (n := n) (h6 y hy hf)
  exact ⟨c, by rw [hc]; exact e⟩
/-- a def's code object, its table -/
abbrev cA (K : PySem.W.Frag) (x : Str) : Addr := (He.cT K (x, none)).1
abbrev tA (K : PySem.W.Frag) (x : Str) : Addr := (He.cT K (x, none)).2
theorem hereT_mk {fa : List He.Fa} {fn : List He.DefD} {K : PySem.W.Frag} {h : Heap} {mg : Str → Option Value} (X : K.In h) (G : h.Ns mainGlobals mg) (c : He.SaysD fa fn K) (i j : Nat) {x : Str} {st : Stmt}
    (hi : fn[i]? = some ⟨(x, none), x, x, defArgs st, defBody st, defScope st, [], []⟩) (hj : fa[j]? = some (.glo x)) : HereT K mg x st (cA K x) := by
  obtain ⟨fd, F⟩ := c.def_ i hi
  have F2 := F
  obtain ⟨_, _, _, _, _, _, _, cdv, _, _, rfl, look, code, _, _⟩ := F2.ex
  obtain ⟨cc, e⟩ := He.codeIn_ref code
  refine ⟨_, _, F, He.glo_ok X G (c.fact j hj), ?_⟩
  have z := He.codeOf_eq look (c := cc) e
  show cdv = Value.ref (He.codeOf K (x, none))
  rw [z]
  exact e
/-- a law over the script's list, the tables of the defs tf at hand -/
def spLawT (K : PySem.W.Frag) (tf : List Str) : Sp := fun vs H Q _ => ∃ (s : Addr) (ns : List Int), vs = [.ref s] ∧ SqL K H s (ns.map V.int) ∧ ns.length ≤ 63 ∧ (∀ x ∈ tf, GxR.TabG H (tA K x)) ∧ ∀ H', Q (.bl true) H'
theorem law_finG {P : Program} {w : World} {K : PySem.W.Frag} {h : Heap} {mg : Str → Option Value} {fa : Addr} {k : Nat} {st : Stmt} {fs : List He.Fa} {fn : List He.DefD} {ts : List He.Tab} {ex : PySem.W.Frag → Bool} {tf : List Str} (X : K.In h) (G : h.Ns mainGlobals mg)
    (c : He.SaysX fs fn ts (tf.map fun x => (x, none)) ex w h K) (hmg : mg ("law" : Str) = some (.ref fa)) (D : Here K mg "law" st)
    (hb : ∀ (kV doc pm : Value) (an : Option Addr) (cdv ct : Value) (us : List Value), us.length = (["script"] : List Str).length → bindArgs (PySem.W.fnOf "law" "law" (defArgs st) (defBody st) (defScope st) .none kV doc pm an cdv ct) ⟨us, []⟩ = pure ((["script"] : List Str).zip us))
    (C : ∀ base : Heap, (∀ x ∈ tf, GxR.TabB base mg (cA K x) (tA K x)) → CalG P w K mg base k "law" st ["script"] (spLawT K tf)) :
    ∃ (K : PySem.W.Frag) (fd : FuncData) (cs : List (Addr × Addr)) (sp : Sp), K.In h ∧ (∀ c ∈ cs, h.get? c.2 = some emptyT) ∧ (∀ c ∈ cs, K.lookup c.2 = none) ∧ (∀ c ∈ cs, PySem.W.CodeHd h c.1 c.2) ∧ (∀ (s : Shared) (u : Value), BindsTo s fd ⟨[u], []⟩ [(("script" : Str), u)]) ∧
      (∀ (H : Hp) (a : Addr) (ns : List Int), ns.length ≤ 63 → (∀ c ∈ cs, H c.2 = some (.tbl #[])) → SqL K H a (ns.map V.int) → sp [.ref a] H (fun v _ => v = .bl true) fun _ _ _ => False) ∧
      ∀ base : Heap, K.In base → base.Ns mainGlobals mg → (∀ c ∈ cs, GxR.TabB base mg c.1 c.2) → FnG P w K mg base k fa fd ["script"] sp := by
  obtain ⟨f, fd, F, g⟩ := D.ex
  have e := hmg.symm.trans g
  cases e
  have b := FunD.bindsA (ps := ["script"]) F hb
  have mem : ∀ q ∈ (tf.map fun x => ((x, none) : He.Defn)).map (He.cT K), ∃ x ∈ tf, q = He.cT K (x, none) := fun q hq => by
    obtain ⟨d, hd, rfl⟩ := List.mem_map.mp hq
    obtain ⟨x, hx, rfl⟩ := List.mem_map.mp hd
    exact ⟨x, hx, rfl⟩
  have back : ∀ x ∈ tf, ((x, none) : He.Defn) ∈ tf.map fun x => ((x, none) : He.Defn) := fun x hx => List.mem_map.mpr ⟨x, hx, rfl⟩
  refine ⟨K, fd, (tf.map fun x => ((x, none) : He.Defn)).map (He.cT K), spLawT K tf, X, fun q hq => ?_, fun q hq => ?_, fun q hq => ?_, fun s v => b s [v] rfl, fun H a ns hl hT hS => ⟨a, ns, rfl, hS, hl, fun x hx => ⟨#[], hT _ (List.mem_map.mpr ⟨_, back x hx, rfl⟩), ?_⟩, fun _ => rfl⟩, fun base _ _ hB => ?_⟩
  · obtain ⟨x, hx, rfl⟩ := mem q hq
    exact c.empty _ (back x hx)
  · obtain ⟨x, hx, rfl⟩ := mem q hq
    exact c.out _ (back x hx)
  · obtain ⟨x, hx, rfl⟩ := mem q hq
    exact PySem.W.codeHd_of_K X (c.hd _ (back x hx))
  · trivial
  obtain ⟨f2, fd2, F2, D2, g2, _⟩ := (C base fun x hx => hB _ (List.mem_map.mpr ⟨_, back x hx, rfl⟩)).ex
  have e2 := g.symm.trans g2
  cases e2
  have e3 : fd = fd2 := by
    obtain ⟨_, _, _, _, _, _, _, _, _, _, _, l1, _⟩ := F.ex
    obtain ⟨_, _, _, _, _, _, _, _, _, _, _, l2, _⟩ := D2.ex
    have l3 := l1.symm.trans l2
    injection l3 with l4
    injection l4 with _ _ l5
    injection l5
  rw [e3]
  exact F2
section
variable {X : Cx}
theorem op_neD_at (K : PySem.W.Frag) (e : X.K = K) (hu : X.A.units + 64 < cLine) : OpR X (compareOp .NotEq) (rNeD K) := by subst e; exact op_neD hu
theorem op_eqD_at (K : PySem.W.Frag) (e : X.K = K) (hu : X.A.units + 64 < cLine) : OpR X (compareOp .Eq) (rEqD K) := by subst e; exact op_eqD hu
theorem call_tuple_of_at (K : PySem.W.Frag) (e : X.K = K) : CallR X (.type "tuple") (fun xs H Q => ∃ p ys, xs = [.ref p] ∧ ((SqL K H p ys ∧ ∀ l, H l = none → Q (.ref l) (upd H l (.tup ys))) ∨ (SqT K H p ys ∧ Q (.ref p) H))) := by subst e; exact call_tuple_of
end
end Ky
/-! ### promises of what the words' and the books' functions share -/
namespace Ky
open PySem PySem.Spec PyProof.Rows L2
def areIntsD : PyData → Int → Bool
  | .list ds, l => ds.all fun d => isIntD d l
  | .tuple ds, l => ds.all fun d => isIntD d l
  | _, _ => false
def spAreInts (K : PySem.W.Frag) : Sp := fun vs H Q _ => ∃ (x : V) (d : PyData) (l : Int), vs = [x, .int l] ∧ Dp K H x d ∧ GxR.TabG H (tA K "are_integers") ∧ ∀ H', Gro H H' → Q (.bl (areIntsD d l)) H'
/-- a list or a tuple of words -/
def WordsAt (K : PySem.W.Frag) (H : Hp) (a : Addr) (l : List Nat) : Prop := SqL K H a (intsV l) ∨ SqT K H a (intsV l)
theorem WordsAt.gro {K : PySem.W.Frag} {H H' : Hp} {a : Addr} {l : List Nat} (h : WordsAt K H a l) (g : Gro H H') : WordsAt K H' a l := h.imp g.seq g.tupS
def spAddedAll (K : PySem.W.Frag) : Sp := fun vs H Q _ => ∃ (a : Addr) (l : List Nat), vs = [.ref a] ∧ WordsAt K H a l ∧ GxR.TabG H (tA K "are_integers") ∧ ∀ H', Gro H H' → Q (.int (xorAll l : Int)) H'
/-- what repr asks of a list of ints -/
theorem ints_show : ∀ l : List Int, (∀ i ∈ l, i.natAbs.log2 < 1900) → PyData.showableAll (l.map PyData.int) = true ∧ PyData.hasDictAll (l.map PyData.int) = false ∧ PyData.depthAll (l.map PyData.int) = 0 ∧ PyData.leavesShortAll 1921 (l.map PyData.int) = true ∧ PyData.bulkAll (l.map PyData.int) = l.length ∧ PyData.canLayAll0 (l.map PyData.int) = true
  | [], _ => ⟨rfl, rfl, rfl, rfl, rfl, rfl⟩
  | i :: l, h => by
    obtain ⟨h1, h2, h3, h4, h5, h6⟩ := ints_show l fun j hj => h j (List.mem_cons_of_mem _ hj)
    have hi := h i List.mem_cons_self
    have z : i.natAbs.log2 < 1920 := by omega
    have len : (PyData.shown (.int i)).length ≤ 1921 := PyProof.Rows.int_text_len_1921 z
    refine ⟨?_, ?_, ?_, ?_, ?_, ?_⟩
    · show (decide (i.natAbs.log2 < 1920) && PyData.showableAll (l.map PyData.int)) = true
      rw [h1, decide_eq_true z] <;> rfl
    · show (false || PyData.hasDictAll (l.map PyData.int)) = false
      rw [h2] <;> rfl
    · show max 0 (PyData.depthAll (l.map PyData.int)) = 0
      rw [h3] <;> rfl
    · show (decide ((PyData.shown (.int i)).length ≤ 1921) && PyData.leavesShortAll 1921 (l.map PyData.int)) = true
      rw [h4, decide_eq_true len] <;> rfl
    · show 0 + 1 + PyData.bulkAll (l.map PyData.int) = l.length + 1
      rw [h5]
      omega
    · show (PyData.canLay0 (.int i) && PyData.canLayAll0 (l.map PyData.int)) = true
      rw [h6] <;> rfl
theorem list_show {l : List Int} (h : ∀ i ∈ l, i.natAbs.log2 < 1900) (hl : l.length ≤ 1000) : (PyData.list (l.map PyData.int)).showable = true ∧ (PyData.list (l.map PyData.int)).hasDict = false ∧ (PyData.list (l.map PyData.int)).depth < 100 ∧ (PyData.list (l.map PyData.int)).shown.length ≤ sizeLine ∧ SeqAt.shaped (.list (l.map PyData.int)) = true := by
  obtain ⟨h1, h2, h3, h4, h5, h6⟩ := ints_show l h
  have d : (PyData.list (l.map PyData.int)).depth = 1 := by
    show PyData.depthAll (l.map PyData.int) + 1 = 1
    rw [h3]
  refine ⟨h1, h2, by rw [d]; decide, ?_, ?_⟩
  · have z := PyData.shown_le_bulk 1921 (by decide) (.list (l.map PyData.int)) h4
    have e : (PyData.list (l.map PyData.int)).bulk = l.length := h5
    rw [e] at z
    have e2 : sizeLine = 16777216 := by decide
    omega
  · unfold SeqAt.shaped
    rw [d]
    show (PyData.canLayAll0 (l.map PyData.int) && _) = true
    rw [h6] <;> rfl
/-! ### decks, once more -/
theorem pick_l {K : PySem.W.Frag} {H : Hp} {a p : Addr} (xs : List V) (x y : Int) (hD : DeckAt H a) (hp : H p = none) :
    SqL K (upd (upd H p (.lst xs)) a (.lst [.int x, .int y])) p xs ∧ Off a H (upd (upd H p (.lst xs)) a (.lst [.int x, .int y])) := by
  have n : a ≠ p := by
    obtain ⟨_, _, e, _⟩ := hD
    exact ne_of_none e hp
  exact ⟨SqL.of (by rw [upd_ne n.symm, upd_same]), (Off.of (same_upd hp)).trans (Off.upd _ _ _)⟩
/-- what a law's turn asks: its deck, tables; the deck alone turns -/
def spTurn (K : PySem.W.Frag) (tf : List Str) : Sp := fun vs H Q _ => ∃ a : Addr, vs = [.ref a] ∧ DeckAt H a ∧ (∀ x ∈ tf, GxR.TabG H (tA K x)) ∧ ∀ H', OffG a H H' → Q (.bl true) H'
theorem OffG.gro {a : Addr} {H H1 H2 : Hp} (g : Gro H H1) (n : H a = none) (o : OffG a H1 H2) : Gro H H2 := fun b u e => by
  obtain ⟨u1, e1, g1⟩ := g b u e
  obtain ⟨u2, e2, g2⟩ := o b u1 (ne_of_none e n) e1
  exact ⟨u2, e2, g1.trans g2⟩
/-- the words' list and the deck within a heap that has gone on -/
structure WD (K : PySem.W.Frag) (tf : List Str) (a p : Addr) (l : List Nat) (H H' : Hp) : Prop where
  off : OffG a H H'
  deck : DeckAt H' a
  tabs : ∀ x ∈ tf, GxR.TabG H' (tA K x)
  ne : p ≠ a
  new : H p = none
  list : H' p = some (.lst (intsV l))
section
variable {K : PySem.W.Frag} {tf : List Str} {a p : Addr} {l : List Nat} {H H1 H2 : Hp}
theorem WD.gro (w : WD K tf a p l H H1) (g : Gro H1 H2) : WD K tf a p l H H2 :=
  ⟨w.off.trans (.of g), w.deck.gro g, fun x hx => g.tg (w.tabs x hx), w.ne, w.new, g.at w.list⟩
theorem WD.turn (w : WD K tf a p l H H1) (o : OffG a H1 H2) (d : DeckAt H2 a) : WD K tf a p l H H2 :=
  ⟨w.off.trans o, d, fun x hx => o.tg (TabG.ne_deck (w.tabs x hx) w.deck) (w.tabs x hx), w.ne, w.new, o.at w.ne w.list⟩
theorem WD.put (w : WD K tf a p l H H1) (l' : List Nat) : WD K tf a p l' H (upd H1 p (.lst (intsV l'))) := by
  obtain ⟨x, y, e, h0, h1⟩ := w.deck
  refine ⟨fun b o n e => ?_, ⟨x, y, by rw [upd_ne w.ne.symm]; exact e, h0, h1⟩, fun x hx => ?_, w.ne, w.new, upd_same⟩
  · rw [upd_ne (ne_of_none e w.new)]
    exact w.off b o n e
  · obtain ⟨ps, e, t⟩ := w.tabs x hx
    refine ⟨ps, ?_, t⟩
    rw [upd_ne (fun z => by rw [z, w.list] at e; cases e)]
    exact e
theorem WD.sq (w : WD K tf a p l H H1) : SqL K H1 p (intsV l) := SqL.of w.list
end
theorem intsV_len (l : List Nat) : (intsV l).length = l.length := List.length_map _
theorem intsV_get {l : List Nat} {i : Nat} (h : i < l.length) : (intsV l)[i]? = some (.int (l[i] : Int)) := by
  unfold intsV
  rw [List.getElem?_map, List.getElem?_eq_getElem h]
  rfl
theorem intsV_at {l : List Nat} {i : Nat} {v : V} (e : (intsV l)[i]? = some v) : ∃ n, l[i]? = some n ∧ v = .int (n : Int) := by
  unfold intsV at e
  rw [List.getElem?_map] at e
  cases h : l[i]? with
  | none => rw [h] at e; cases e
  | some n => rw [h] at e; exact ⟨n, rfl, (Option.some.inj e).symm⟩
theorem dpW {K : PySem.W.Frag} {H : Hp} {p : Addr} (l : List Nat) (h : SqL K H p (intsV l)) : Dp K H (.ref p) (.list ((l.map fun k : Nat => (k : Int)).map PyData.int)) := by
  rw [intsV_map] at h
  exact .lst h (dpI _)
theorem words_show {l : List Nat} (h : ∀ n ∈ l, n < 2 ^ 1000) (hl : l.length ≤ 1000) : ∀ i ∈ l.map fun k : Nat => (k : Int), i.natAbs.log2 < 1900 := fun i hi => by
  obtain ⟨n, hn, rfl⟩ := List.mem_map.mp hi
  have h1 := h n hn
  rw [Int.natAbs_natCast]
  by_cases z : n = 0
  · rw [z]; decide
  · have := (Nat.log2_lt z).mpr h1
    omega
theorem sorted_nats {l : List Nat} {ns' : List Int} (h : ns'.Perm (l.map fun k : Nat => (k : Int))) : ∃ l' : List Nat, ns'.map V.int = intsV l' ∧ l'.Perm l := by
  refine ⟨ns'.map Int.toNat, ?_, ?_⟩
  · have key : (ns'.map Int.toNat).map (fun k : Nat => (k : Int)) = ns' := by
      rw [List.map_map]
      refine (List.map_congr_left (g := id) fun i hi => ?_).trans (List.map_id _)
      obtain ⟨k, _, rfl⟩ := List.mem_map.mp (h.mem_iff.mp hi)
      rfl
    rw [intsV_map, key]
  · have z := h.map Int.toNat
    rw [List.map_map] at z
    have e : l.map (Int.toNat ∘ fun k : Nat => (k : Int)) = l := (List.map_congr_left (g := id) fun i _ => rfl).trans (List.map_id _)
    rwa [e] at z
theorem intsV_app (l m : List Nat) : intsV l ++ intsV m = intsV (l ++ m) := by
  unfold intsV
  rw [List.map_append]
theorem intsV_one (n : Nat) : [V.int (n : Int)] = intsV [n] := rfl
/-! ### comprehensions whose elements only read -/
theorem lc_map {K : PySem.W.Frag} {a : Addr} {xs : List V} (f : V → V) {i : Nat} {te : TE} {vs : List Nat} {σ : L2.St} {H1 : Hp} {D : Addr} {Qd : Hp → Prop} (sq : SqL K H1 a xs) (hD : H1 D = none) (hn : xs.length ≤ 1000000)
    (hw : ∀ v, wipe ((wipe σ vs).set i (some v)) vs = wipe σ vs) (el : ∀ x ∈ xs, ∀ H (Q : VK), Q (f x) H → te ((wipe σ vs).set i (some x)) H Q) (hd : Qd (upd H1 D (.lst (xs.map f)))) :
    ∃ W : Nat → Nat → Hp → Prop, (∃ m, W 0 m (upd H1 D (.lst []))) ∧ ∀ i' m H, W i' m H →
      ((Itl K a).stop i' H ∧ Qd H) ∨ ((Itl K a).go i' H ∧ ∃ Nx : Hp → Prop, (∀ H', Nx H' → ∃ m', m' < m ∧ W (i' + 1) m' H') ∧ ∀ x H', (Itl K a).yld i' H x H' → gName i x (wipe σ vs) H' fun σ2 H2 => wipe σ2 vs = wipe σ vs ∧ tYes σ2 H2 fun b H3 =>
        if b = true then te σ2 H3 fun y H4 => ∃ acc, H4 D = some (.lst acc) ∧ acc.length < sizeLine ∧ Nx (upd H4 D (.lst (acc ++ [y]))) else Nx H3) := by
  refine lc_list (fun k H => H = upd H1 D (.lst ((xs.take k).map f))) rfl (fun k H _ e => by rw [e]; exact Same.seq (same_upd hD) sq) (fun k x H e hP => ⟨hw x, ?_⟩) (fun H hP => ?_)
  · subst hP
    refine el x (List.mem_of_getElem? e) _ _ ⟨_, upd_same, ?_, ?_⟩
    · rw [List.length_map, List.length_take]
      exact Nat.lt_of_le_of_lt (Nat.le_trans (Nat.min_le_right _ _) hn) (by decide)
    · rw [upd_upd, List.take_add_one, e, List.map_append]
      rfl
  · rw [hP, List.take_length]
    exact hd
end Ky
/-! ### powers of wide numbers, math.comb, ways to choose -/
namespace Ky
open PySem PySem.Spec PyProof.Rows L2
/-- a ** b of together at most 2 ^ 27 bits -/
def CPowW (i j : Int) : Prop := 0 ≤ j ∧ (Builtin.Int.intBits i : Int) * j ≤ 2 ^ 27
theorem op_powW {X : Cx} : OpR X (binaryOp .Pow) (rI CPowW fun i j => .int (i ^ j.toNat)) := opI fun _ _ _ _ _ _ _ c z => pow_int c.1 c.2 z
theorem powW_ok {i : Int} {a : Nat} (n : Nat) (h : i.natAbs < 2 ^ a) (h2 : a * n ≤ 134217728) : CPowW i (n : Int) := by
  refine ⟨Int.natCast_nonneg _, ?_⟩
  have b := PyProof.Rows.intBits_le h
  have b2 : Builtin.Int.intBits i * n ≤ a * n := Nat.mul_le_mul_right n b
  have e : (Builtin.Int.intBits i : Int) * (n : Int) = ((Builtin.Int.intBits i * n : Nat) : Int) := (Int.natCast_mul _ _).symm
  rw [e]
  have e2 : (2 : Int) ^ 27 = 134217728 := by decide
  rw [e2]
  omega
/-- ways to choose k of n -/
def ch : Nat → Nat → Nat
  | _, 0 => 1
  | 0, _ + 1 => 0
  | n + 1, k + 1 => ch n k + ch n (k + 1)
theorem ch_zero (n : Nat) : ch n 0 = 1 := by cases n <;> rfl
theorem ch_succ (n k : Nat) : ch (n + 1) (k + 1) = ch n k + ch n (k + 1) := rfl
theorem ch_above : ∀ {n k : Nat}, n < k → ch n k = 0
  | 0, k + 1, _ => rfl
  | n + 1, k + 1, h => by rw [ch_succ, ch_above (by omega), ch_above (by omega)]
theorem ch_self : ∀ n : Nat, ch n n = 1
  | 0 => rfl
  | n + 1 => by rw [ch_succ, ch_self n, ch_above (Nat.lt_succ_self n)]
theorem ch_pos : ∀ {n k : Nat}, k ≤ n → 1 ≤ ch n k
  | n, 0, _ => by rw [ch_zero]; exact Nat.le_refl 1
  | n + 1, k + 1, h => by
    rw [ch_succ]
    have := ch_pos (n := n) (k := k) (by omega)
    omega
theorem ch_mono (n k : Nat) : ch n k ≤ ch (n + 1) k := by
  cases k with
  | zero => rw [ch_zero, ch_zero]; exact Nat.le_refl 1
  | succ k => rw [ch_succ]; omega
theorem ch_lt : ∀ n k : Nat, ch n k < 2 ^ (n + 1)
  | n, 0 => by
    rw [ch_zero]
    exact Nat.one_lt_two_pow (by omega)
  | 0, k + 1 => by show 0 < 2; decide
  | n + 1, k + 1 => by
    have h1 := ch_lt n k
    have h2 := ch_lt n (k + 1)
    rw [ch_succ, Nat.pow_succ 2 (n + 1)]
    omega
theorem ch_sym : ∀ a b : Nat, ch (a + b) a = ch (a + b) b
  | 0, b => by rw [ch_zero, Nat.zero_add, ch_self]
  | a + 1, 0 => by rw [ch_zero, Nat.add_zero, ch_self]
  | a + 1, b + 1 => by
    have e1 : ch (a + (b + 1)) a = ch (a + (b + 1)) (b + 1) := ch_sym a (b + 1)
    have e2 : ch (a + 1 + b) (a + 1) = ch (a + 1 + b) b := ch_sym (a + 1) b
    have e3 : a + 1 + (b + 1) = (a + (b + 1)) + 1 := by omega
    have e4 : a + 1 + b = a + (b + 1) := by omega
    rw [e4] at e2
    rw [e3, ch_succ, ch_succ, e1, e2]
    exact Nat.add_comm _ _
theorem ch_flip {n k : Nat} (h : k ≤ n) : ch n (n - k) = ch n k := by
  have := ch_sym k (n - k)
  rw [show k + (n - k) = n by omega] at this
  exact this.symm
section
open PySem.W
theorem fp_up (n : Int) : ∀ k : Nat, Builtin.Math.fallingProduct (n + 1) (k + 1) = (n + 1) * Builtin.Math.fallingProduct n k
  | 0 => by
    rw [mc_fp_succ, mc_fp_zero, mc_fp_zero]
    omega
  | k + 1 => by
    rw [mc_fp_succ (n + 1) (k + 1), fp_up n k, mc_fp_succ n k, Int.mul_assoc]
    have : n + 1 - ((k + 1 : Nat) : Int) = n - (k : Int) := by omega
    rw [this]
theorem ch_fp : ∀ n k : Nat, (ch n k : Int) * Builtin.Math.fallingProduct (k : Int) k = Builtin.Math.fallingProduct (n : Int) k
  | n, 0 => by rw [ch_zero, mc_fp_zero, mc_fp_zero]; rfl
  | 0, k + 1 => by
    have z : Builtin.Math.fallingProduct ((0 : Nat) : Int) (k + 1) = 0 := by
      clear ch_fp
      induction k with
      | zero => rw [mc_fp_succ, mc_fp_zero]; rfl
      | succ k ih => rw [mc_fp_succ, ih]; exact Int.zero_mul _
    rw [z]
    exact Int.zero_mul _
  | n + 1, k + 1 => by
    have h1 := ch_fp n k
    have h2 := ch_fp n (k + 1)
    have e1 := fp_up (k : Int) k
    have e2 := fp_up (n : Int) k
    have e3 := mc_fp_succ (n : Int) k
    have c1 : (((k + 1 : Nat)) : Int) = (k : Int) + 1 := by omega
    have c2 : (((n + 1 : Nat)) : Int) = (n : Int) + 1 := by omega
    rw [c1] at h2 ⊢
    rw [c2]
    rw [e1] at h2 ⊢
    rw [e2, ch_succ, Int.natCast_add, Int.add_mul, h2, e3]
    rw [← h1]
    generalize Builtin.Math.fallingProduct (k : Int) k = z
    generalize (ch n k : Int) = y
    rw [show y * (((k : Int) + 1) * z) = (y * z) * ((k : Int) + 1) by rw [Int.mul_comm ((k : Int) + 1) z, Int.mul_assoc], ← Int.mul_add, Int.mul_comm ((n : Int) + 1)]
    congr 1
    omega
theorem comb_ch {n k : Nat} : mcComb (n : Int) (k : Int) = (ch n k : Int) := by
  by_cases h : n < k
  · rw [mcComb_above (by omega), ch_above h]
    rfl
  · obtain ⟨m, hm, e⟩ : ∃ m : Nat, min (k : Int) ((n : Int) - (k : Int)) = (m : Int) ∧ ch n k = ch n m := by
      by_cases h2 : k ≤ n - k
      · exact ⟨k, by omega, rfl⟩
      · exact ⟨n - k, by omega, (ch_flip (by omega)).symm⟩
    rw [mcComb_at (Int.natCast_nonneg _) (by omega) hm, e, Int.toNat_natCast, ← ch_fp n m]
    have p := mc_fp_pos (n := (m : Int)) m (Int.le_refl _)
    exact Int.mul_ediv_cancel _ (by omega)
end
/-- comb(n, k) -/
def rComb : List V → Hp → VK → Prop := fun vs H Q => ∃ n k : Nat, vs = [.int (n : Int), .int (k : Int)] ∧ n ≤ 18000 ∧ Q (.int (ch n k : Int)) H
theorem cr_comb {X : Cx} : CallR X (.builtin "math.comb") rComb := by
  intro pins s σ H vs us Q I r h
  obtain ⟨n, k, rfl, hn, q⟩ := h
  obtain ⟨t, u, rfl⟩ := Vals.int2 r
  refine PySem.W.mc_comb_v (Int.natCast_nonneg _) (Int.natCast_nonneg _) (by omega) (.inr (by omega)) comb_ch ?_
  exact ⟨.int _, H, I.tok _, ⟨_, rfl⟩, q⟩
/-- the bits of a ceiling -/
theorem ceil_bits {w e : Nat} (he : 1 ≤ e) (hw : 1 ≤ w) (b : Nat) : bl ((w + e - 1) / e - 1) ≤ b ↔ w ≤ 2 ^ b * e := by
  rw [bl_le]
  have hd : 1 ≤ (w + e - 1) / e := (Nat.le_div_iff_mul_le he).mpr (by omega)
  have h1 : (w + e - 1) / e ≤ 2 ^ b ↔ (w + e - 1) / e < 2 ^ b + 1 := Nat.lt_succ_iff.symm
  have h2 : (w + e - 1) / e < 2 ^ b + 1 ↔ w + e - 1 < (2 ^ b + 1) * e := Nat.div_lt_iff_lt_mul he
  have h3 : (2 ^ b + 1) * e = 2 ^ b * e + e := Nat.succ_mul _ _
  have hp : 0 < 2 ^ b := Nat.pow_pos (by decide)
  generalize (w + e - 1) / e = d at *
  generalize 2 ^ b = p at *
  generalize p * e = pe at *
  omega
/-- least b with w ≤ 2 ^ b * e -/
def lb (w e : Nat) : Nat := bl ((w + e - 1) / e - 1)
theorem lb_ok {w e : Nat} (he : 1 ≤ e) (hw : 1 ≤ w) : w ≤ 2 ^ lb w e * e := (ceil_bits he hw _).mp (Nat.le_refl _)
theorem lb_least {w e b : Nat} (he : 1 ≤ e) (hw : 1 ≤ w) (h : b < lb w e) : 2 ^ b * e < w := by
  refine Nat.lt_of_not_le fun z => ?_
  have := (ceil_bits he hw b).mpr z
  unfold lb at h
  omega
theorem lb_mono {w e e2 : Nat} (he : 1 ≤ e) (hw : 1 ≤ w) (h : e ≤ e2) : lb w e2 ≤ lb w e :=
  (ceil_bits (Nat.le_trans he h) hw _).mpr (Nat.le_trans (lb_ok he hw) (Nat.mul_le_mul_left _ h))
/-! ### wells of drawn numbers -/
def WellAt (H : Hp) (a : Addr) (k : Nat) : Prop := ∃ x y z : Int, H a = some (.lst [.int x, .int y, .int z]) ∧ 0 ≤ y ∧ y < 2 ^ 80 ∧ 0 ≤ z ∧ z ≤ (k : Int)
theorem WellAt.same {H H' : Hp} {a : Addr} {k : Nat} (h : WellAt H a k) (s : Same H H') : WellAt H' a k := by
  obtain ⟨x, y, z, e, r⟩ := h
  exact ⟨x, y, z, s _ _ e, r⟩
theorem WellAt.mono {H : Hp} {a : Addr} {j k : Nat} (h : WellAt H a j) (l : j ≤ k) : WellAt H a k := by
  obtain ⟨x, y, z, e, r0, r1, r2, r3⟩ := h
  exact ⟨x, y, z, e, r0, r1, r2, by omega⟩
theorem WellAt.sq {K : PySem.W.Frag} {H : Hp} {a : Addr} {k : Nat} (h : WellAt H a k) : ∃ x y z : Int, SqL K H a [.int x, .int y, .int z] := by
  obtain ⟨x, y, z, e, _⟩ := h
  exact ⟨x, y, z, SqL.of e⟩
def spWell (K : PySem.W.Frag) : Sp := fun vs H Q _ => ∃ (s : Addr) (ns : List Int) (j : Nat), vs = [.ref s, .int (j : Int)] ∧ SqL K H s (ns.map V.int) ∧ j < 1000000 ∧
  ∀ (H' : Hp) (p : Addr), Same H H' → H p = none → WellAt H' p 0 → Q (.ref p) H'
def spDip : Sp := fun vs H Q _ => ∃ (a : Addr) (m k : Nat), vs = [.ref a, .int (m : Int)] ∧ WellAt H a k ∧ k < 1000000 ∧ 0 < m ∧ m < 2 ^ 200 ∧
  ∀ (t : Nat) (H' : Hp), t < m → Off a H H' → WellAt H' a (k + 1) → Q (.int (t : Int)) H'
def spCheckNum : Sp := fun vs H Q _ => ∃ n l : Nat, vs = [.int (n : Int), .int (l : Int)] ∧ l ≤ n ∧ Q .non H
def spWaysP : Sp := fun vs H Q _ => ∃ k n : Nat, vs = [.int (k : Int), .int (n : Int)] ∧ k ≤ 18000 ∧ Q (.int (ch k n : Int)) H
def spLeastP : Sp := fun vs H Q _ => ∃ u n f : Nat, vs = [.int (u : Int), .int (n : Int), .int (f : Int)] ∧ n ≤ u ∧ u ≤ 2000 ∧ n + f ≤ 2000 ∧ Q (.int (lb (ch u n) (ch (n + f) n) : Int)) H
def spWaysL : Sp := fun vs H Q _ => ∃ k n : Nat, vs = [.int (k : Int), .int (n : Int)] ∧ k ≤ 100000 ∧ n ≤ 100000 ∧ ∀ H', Same H H' → Q (.int (ch k n : Int)) H'
def spLeastL : Sp := fun vs H Q _ => ∃ u n f : Nat, vs = [.int (u : Int), .int (n : Int), .int (f : Int)] ∧ n ≤ u ∧ u ≤ 2000 ∧ n + f ≤ 2000 ∧ ∀ H', Same H H' → Q (.int (lb (ch u n) (ch (n + f) n) : Int)) H'
/-- the row of ways to choose of t things -/
def chRow (t n : Nat) : List V := (List.range (n + 1)).map fun j => V.int (ch t j : Int)
theorem chRow_len (t n : Nat) : (chRow t n).length = n + 1 := by
  unfold chRow
  rw [List.length_map, List.length_range]
theorem chRow_get {t n j : Nat} (h : j ≤ n) : (chRow t n)[j]? = some (V.int (ch t j : Int)) := by
  unfold chRow
  rw [List.getElem?_map, List.getElem?_range (by omega)]
  rfl
theorem chRow_succ (t n : Nat) : V.int 1 :: (List.range n).map (fun j => V.int ((ch t j : Int) + (ch t (j + 1) : Int))) = chRow (t + 1) n := by
  unfold chRow
  rw [List.range_succ_eq_map, List.map_cons, List.map_map]
  refine congr (congrArg List.cons ?_) (List.map_congr_left fun j _ => ?_)
  · rw [ch_zero]
    rfl
  · show V.int ((ch t j : Int) + (ch t (j + 1) : Int)) = V.int ((ch (t + 1) (j + 1) : Nat) : Int)
    rw [ch_succ, Int.natCast_add]
theorem chRow_zero (n : Nat) : V.int 1 :: (List.replicate n [V.int 0]).flatten = chRow 0 n := by
  unfold chRow
  rw [List.range_succ_eq_map, List.map_cons, List.map_map]
  refine congr (congrArg List.cons ?_) ?_
  · rw [ch_zero]
    rfl
  · have e : (List.replicate n [V.int 0]).flatten = List.replicate n (V.int 0) := by
      induction n with
      | zero => rfl
      | succ n ih => rw [List.replicate_succ, List.replicate_succ, List.flatten_cons, ih]; rfl
    rw [e]
    refine List.ext_getElem? fun i => ?_
    rw [List.getElem?_map]
    by_cases h : i < n
    · rw [List.getElem?_range h, List.getElem?_replicate, if_pos h]
      rfl
    · rw [List.getElem?_eq_none (by rw [List.length_replicate]; omega), List.getElem?_eq_none (by rw [List.length_range]; omega)]
      rfl
theorem lb_small {w e a : Nat} (he : 1 ≤ e) (hw : 1 ≤ w) (h : w < 2 ^ a) : lb w e ≤ a := (ceil_bits he hw a).mpr (Nat.le_trans (Nat.le_of_lt h) (Nat.le_mul_of_pos_right _ he))
/-- min of three -/
theorem min3_int (a b c : Int) : nuMin3 (.int a) (.int b) (.int c) = some (.int (min (min a b) c)) := by
  have e : ∀ i j : Int, nuMin2 (.int i) (.int j) = some (.int (min i j)) := fun i j => by
    show some (if decide (j < i) = true then V.int j else V.int i) = _
    by_cases h : j < i
    · rw [decide_eq_true h, if_pos rfl, Int.min_eq_right (by omega)]
    · rw [decide_eq_false h, if_neg (by decide), Int.min_eq_left (by omega)]
  show (nuMin2 (.int a) (.int b)).bind (fun m => nuMin2 m (.int c)) = _
  rw [e]
  exact e _ _
theorem Off.to_same {p : Addr} {H H1 H2 : Hp} (s : Same H H1) (np : H p = none) (o : Off p H1 H2) : Same H H2 := fun b u e => o b u (ne_of_none e np) (s b u e)
theorem WellAt.ne {p q : Addr} {k : Nat} {H : Hp} (w : WellAt H p k) (hq : H q = none) : q ≠ p := by
  obtain ⟨_, _, _, e, _⟩ := w
  exact (ne_of_none e hq).symm
end Ky
namespace K39
open PySem PySem.Spec PyProof.Rows L2 Ky
def topS (i : Nat) : Stmt := PySem.Challenge.pw_keytellers_k39_whole_least_bits.main.body.getD i (.Pass ⟨0, 0, 0, 0⟩)
abbrev s_is_integer : Stmt := topS 5
abbrev N_is_integer : List Str := ["told", "least"]
theorem sc_is_integer : FnScope ["told", "least"] ["told", "least"] (defScope s_is_integer) := ⟨rfl, rfl, rfl, by decide +kernel, rfl, by decide +kernel, by decide +kernel⟩
abbrev s_check_number : Stmt := topS 6
abbrev N_check_number : List Str := ["told", "least"]
theorem sc_check_number : FnScope ["told", "least"] ["told", "least"] (defScope s_check_number) := ⟨rfl, rfl, rfl, by decide +kernel, rfl, by decide +kernel, by decide +kernel⟩
abbrev s_ways : Stmt := topS 8
abbrev N_ways : List Str := ["k", "n"]
theorem sc_ways : FnScope ["k", "n"] ["k", "n"] (defScope s_ways) := ⟨rfl, rfl, rfl, by decide +kernel, rfl, by decide +kernel, by decide +kernel⟩
abbrev s_least_bits : Stmt := topS 9
abbrev N_least_bits : List Str := ["u", "n", "f", "wanted", "each", "filters"]
theorem sc_least_bits : FnScope ["u", "n", "f", "wanted", "each", "filters"] ["u", "n", "f"] (defScope s_least_bits) := ⟨rfl, rfl, rfl, by decide +kernel, rfl, by decide +kernel, by decide +kernel⟩
abbrev s__law_well : Stmt := topS 11
abbrev N__law_well : List Str := ["script", "place", "cell"]
theorem sc__law_well : FnScope ["script", "place", "cell"] ["script", "place"] (defScope s__law_well) := ⟨rfl, rfl, rfl, by decide +kernel, rfl, by decide +kernel, by decide +kernel⟩
abbrev s__law_dip : Stmt := topS 12
abbrev N__law_dip : List Str := ["well", "many", "figure", "mixed"]
theorem sc__law_dip : FnScope ["well", "many", "figure", "mixed"] ["well", "many"] (defScope s__law_dip) := ⟨rfl, rfl, rfl, by decide +kernel, rfl, by decide +kernel, by decide +kernel⟩
abbrev s__law_same : Stmt := topS 13
abbrev N__law_same : List Str := ["told", "due", "kind", "spot"]
theorem sc__law_same : FnScope ["told", "due", "kind", "spot"] ["told", "due"] (defScope s__law_same) := ⟨rfl, rfl, rfl, by decide +kernel, rfl, by decide +kernel, by decide +kernel⟩
abbrev s__law_ways : Stmt := topS 14
abbrev N__law_ways : List Str := ["k", "n", "row", "thing", "at"]
theorem sc__law_ways : FnScope ["k", "n", "row", "thing", "at"] ["k", "n"] (defScope s__law_ways) := ⟨rfl, rfl, rfl, by decide +kernel, rfl, by decide +kernel, by decide +kernel⟩
abbrev s__law_least : Stmt := topS 15
abbrev N__law_least : List Str := ["u", "n", "f", "room", "needed", "b"]
theorem sc__law_least : FnScope ["u", "n", "f", "room", "needed", "b"] ["u", "n", "f"] (defScope s__law_least) := ⟨rfl, rfl, rfl, by decide +kernel, rfl, by decide +kernel, by decide +kernel⟩
abbrev s_law : Stmt := topS 16
abbrev N_law : List Str := ["script", "spot", "well", "turn", "u", "n", "f", "due", "more", "told", "room", "step"]
theorem sc_law : FnScope ["script", "spot", "well", "turn", "u", "n", "f", "due", "more", "told", "room", "step"] ["script"] (defScope s_law) := ⟨rfl, rfl, rfl, by decide +kernel, rfl, by decide +kernel, by decide +kernel⟩
abbrev tf : List Str := []
/-- what the top has written -/
structure Top (K : PySem.W.Frag) (mg : Str → Option Value) : Prop where
  d_is_integer : Here K mg "is_integer" s_is_integer
  d_check_number : Here K mg "check_number" s_check_number
  d_ways : Here K mg "ways" s_ways
  d_least_bits : Here K mg "least_bits" s_least_bits
  d__law_well : Here K mg "_law_well" s__law_well
  d__law_dip : Here K mg "_law_dip" s__law_dip
  d__law_same : Here K mg "_law_same" s__law_same
  d__law_ways : Here K mg "_law_ways" s__law_ways
  d__law_least : Here K mg "_law_least" s__law_least
  d_law : Here K mg "law" s_law
  z_abs : mg "abs" = none
  z_bool : mg "bool" = none
  z_int : mg "int" = none
  z_isinstance : mg "isinstance" = none
  z_len : mg "len" = none
  z_list : mg "list" = none
  z_max : mg "max" = none
  z_min : mg "min" = none
  z_range : mg "range" = none
  z_str : mg "str" = none
  z_tuple : mg "tuple" = none
  m_comb : mg "comb" = some (.builtin "math.comb")
section
variable {P : Program} {w : World} {K : PySem.W.Frag} {mg : Str → Option Value} {base : Heap}
theorem ok_is_integer (T : Top K mg)  : CalD P w K mg base 1 "is_integer" s_is_integer ["told", "least"] (spIsInt K) := by
  refine cal_mk T.d_is_integer sc_is_integer (fun _ _ _ _ _ _ us hl => match us, hl with | [_, _], _ => rfl) (fun vs H Q E h => ?_) (fun f cdv A outer s H vs Q E hr h => ?_)
  · obtain ⟨x, d, l, rfl, hx, q⟩ := h
    rfl
  · obtain ⟨x, d, l, rfl, hx, q⟩ := h
    refine ⟨_, (pss_one (ps_ret (pe_and (pe_callB call_isi (by rfl) T.z_isinstance (by decide +kernel) (pa_cons (pv 0) (pa_cons (pe_bltn (v := .ty "int") (by rfl) T.z_int (by decide +kernel) rfl) pa_nil))) (pe_and (pe_not (pe_callB call_isi (by rfl) T.z_isinstance (by decide +kernel) (pa_cons (pv 0) (pa_cons (pe_bltn (v := .ty "bool") (by rfl) T.z_bool (by decide +kernel) rfl) pa_nil)))) (pe_one (pe_cmpR op_ge (pv 0) (pv 1) (nomark _))))))), ?_⟩
    cases d with
    | none =>
      cases hx
      exact ⟨_, rfl, _, _, _, _, false, rfl, .ty _, .base .non, kit_ty (by decide +kernel), _, rfl, iteF q⟩
    | bool b =>
      cases hx
      exact ⟨_, rfl, _, _, _, _, true, rfl, .ty _, .base (.bl _), kit_ty (by decide +kernel), _, rfl, iteT ⟨_, rfl, _, _, _, _, true, rfl, .ty _, .base (.bl _), kit_ty (by decide +kernel), _, rfl, _, rfl, iteF q⟩⟩
    | int i =>
      cases hx
      exact ⟨_, rfl, _, _, _, _, true, rfl, .ty _, .base (.int _), kit_ty (by decide +kernel), _, rfl, iteT ⟨_, rfl, _, _, _, _, false, rfl, .ty _, .base (.int _), kit_ty (by decide +kernel), _, rfl, _, rfl, iteT ⟨_, rfl, _, rfl, _, _, rfl, rfl, q⟩⟩⟩
    | str z =>
      cases hx
      exact ⟨_, rfl, _, _, _, _, false, rfl, .ty _, .base (.str _), kit_ty (by decide +kernel), _, rfl, iteF q⟩
    | list ds =>
      exact ⟨_, rfl, _, _, _, _, false, rfl, .ty _, ty_data hx, kit_ty (show kitB "list" "int" = some false by decide +kernel), _, rfl, iteF q⟩
    | tuple ds =>
      exact ⟨_, rfl, _, _, _, _, false, rfl, .ty _, ty_data hx, kit_ty (show kitB "tuple" "int" = some false by decide +kernel), _, rfl, iteF q⟩
    | dict kvs => cases hx
theorem ok_check_number (T : Top K mg) (c_is_integer : CalD P w K mg base 1 "is_integer" s_is_integer ["told", "least"] (spIsInt K)) : CalD P w K mg base 2 "check_number" s_check_number ["told", "least"] (spCheckNum) := by
  refine cal_mk T.d_check_number sc_check_number (fun _ _ _ _ _ _ us hl => match us, hl with | [_, _], _ => rfl) (fun vs H Q E h => ?_) (fun f cdv A outer s H vs Q E hr h => ?_)
  · obtain ⟨n, l, rfl, hl, q⟩ := h
    rfl
  · obtain ⟨n, l, rfl, hl, q⟩ := h
    refine ⟨_, (pss_one (ps_if (pt_not (pt_val (pe_f c_is_integer hr (by omega) (by rfl) (pa_cons (pv 0) (pa_cons (pv 1) pa_nil))))) (pss_one ps_never) pss_nil)), ?_⟩
    refine ⟨_, rfl, _, rfl, .int (n : Int), .int (n : Int), (l : Int), rfl, .int _, _, rfl, ?_⟩
    have e : isIntD (.int (n : Int)) (l : Int) = true := by
      show decide ((l : Int) ≤ (n : Int)) = true
      exact decide_eq_true (by omega)
    rw [e]
    exact iteF q
theorem ok_ways (T : Top K mg) (c_check_number : CalD P w K mg base 2 "check_number" s_check_number ["told", "least"] (spCheckNum)) : CalD P w K mg base 3 "ways" s_ways ["k", "n"] (spWaysP) := by
  refine cal_mk T.d_ways sc_ways (fun _ _ _ _ _ _ us hl => match us, hl with | [_, _], _ => rfl) (fun vs H Q E h => ?_) (fun f cdv A outer s H vs Q E hr h => ?_)
  · obtain ⟨k, n, rfl, hk, q⟩ := h
    rfl
  · obtain ⟨k, n, rfl, hk, q⟩ := h
    refine ⟨_, (pss_cons (ps_expr (pe_f c_check_number hr (by omega) (by rfl) (pa_cons (pv 0) (pa_cons pe_int pa_nil))))
  (pss_cons (ps_expr (pe_f c_check_number hr (by omega) (by rfl) (pa_cons (pv 1) (pa_cons pe_int pa_nil))))
  (pss_one (ps_ret (pe_callBfun cr_comb (by rfl) T.m_comb (pa_cons (pv 0) (pa_cons (pv 1) pa_nil))))))), ?_⟩
    exact ⟨_, rfl, k, 0, rfl, Nat.zero_le _, _, rfl, n, 0, rfl, Nat.zero_le _, _, rfl, _, rfl, k, n, rfl, hk, q⟩
theorem ok_least_bits (T : Top K mg) (c_check_number : CalD P w K mg base 2 "check_number" s_check_number ["told", "least"] (spCheckNum)) (c_ways : CalD P w K mg base 3 "ways" s_ways ["k", "n"] (spWaysP)) : CalD P w K mg base 4 "least_bits" s_least_bits ["u", "n", "f"] (spLeastP) := by
  refine cal_mk T.d_least_bits sc_least_bits (fun _ _ _ _ _ _ us hl => match us, hl with | [_, _, _], _ => rfl) (fun vs H Q E h => ?_) (fun f cdv A outer s H vs Q E hr h => ?_)
  · obtain ⟨u, n, f, rfl, hnu, hu, hnf, q⟩ := h
    rfl
  · obtain ⟨u, n, f, rfl, hnu, hu, hnf, q⟩ := h
    refine ⟨_, (pss_cons (ps_expr (pe_f c_check_number hr (by omega) (by rfl) (pa_cons (pv 0) (pa_cons pe_int pa_nil))))
  (pss_cons (ps_expr (pe_f c_check_number hr (by omega) (by rfl) (pa_cons (pv 1) (pa_cons pe_int pa_nil))))
  (pss_cons (ps_if (pt_cmpR op_gt (pv 1) (pv 0) (nomark _)) (pss_one ps_never) pss_nil)
  (pss_cons (ps_expr (pe_f c_check_number hr (by omega) (by rfl) (pa_cons (pv 2) (pa_cons pe_int pa_nil))))
  (pss_cons (ps_set (i := 3) sc_least_bits.nd rfl (Or.inl rfl) (pe_f c_ways hr (by omega) (by rfl) (pa_cons (pv 0) (pa_cons (pv 1) pa_nil))))
  (pss_cons (ps_set (i := 4) sc_least_bits.nd rfl (Or.inl rfl) (pe_f c_ways hr (by omega) (by rfl) (pa_cons (pe_op op_add (pv 1) (pv 2)) (pa_cons (pv 1) pa_nil))))
  (pss_cons (ps_set (i := 5) sc_least_bits.nd rfl (Or.inl rfl) (pe_op op_fdivW (pe_op op_sub (pe_op op_add (pv 3) (pv 4)) pe_int) (pv 4)))
  (pss_one (ps_ret (pe_bits (pe_op op_sub (pv 5) pe_int))))))))))), ?_⟩
    refine ⟨_, rfl, u, 0, rfl, Nat.zero_le _, _, rfl, n, 0, rfl, Nat.zero_le _, _, rfl, _, rfl, _, _, rfl, rfl, _, rfl, ?_⟩
    rw [decide_eq_false (show ¬ ((u : Int) < (n : Int)) by omega)]
    refine iteF ⟨_, rfl, f, 0, rfl, Nat.zero_le _, _, rfl, _, rfl, u, n, rfl, by omega, _, rfl, _, rfl, _, _, rfl, rfl, _, rfl, n + f, n, rfl, by omega, ?_⟩
    have hw := ch_pos hnu
    have he := ch_pos (show n ≤ n + f by omega)
    have hs := ch_lt (n + f) n
    have hs2 : ch (n + f) n < 2 ^ 2001 := Nat.lt_of_lt_of_le hs (Nat.pow_le_pow_right (by decide) (by omega))
    generalize ch u n = w at *
    generalize ch (n + f) n = e at *
    refine ⟨_, rfl, _, rfl, _, _, rfl, rfl, _, 1, rfl, rfl, _, rfl, _, _, rfl, rfl, wide_div (b := 2001) (by omega) (by simpa using hs2) (by decide) (by decide), _, rfl, _, 1, rfl, rfl, _, rfl, ?_⟩
    have e1 : ((w : Int) + (e : Int) - 1) / (e : Int) - 1 = (((w + e - 1) / e - 1 : Nat) : Int) := by
      have e2 : (w : Int) + (e : Int) - 1 = ((w + e - 1 : Nat) : Int) := by omega
      have hd : 1 ≤ (w + e - 1) / e := (Nat.le_div_iff_mul_le he).mpr (by omega)
      rw [e2, ← Int.natCast_ediv]
      omega
    show Q (.int ((Builtin.Int.intBits (((w : Int) + (e : Int) - 1) / (e : Int) - 1) : Nat) : Int)) H
    rw [e1, bl_int]
    exact q
theorem ok__law_well (T : Top K mg)  : CalD P w K mg base 1 "_law_well" s__law_well ["script", "place"] (spWell K) := by
  refine cal_mk T.d__law_well sc__law_well (fun _ _ _ _ _ _ us hl => match us, hl with | [_, _], _ => rfl) (fun vs H Q E h => ?_) (fun f cdv A outer s H vs Q E hr h => ?_)
  · obtain ⟨l, ns, j, rfl, hS, hj, q⟩ := h
    rfl
  · obtain ⟨l, ns, j, rfl, hS, hj, q⟩ := h
    refine ⟨_, (pss_cons (ps_set (i := 2) sc__law_well.nd rfl (Or.inl rfl) (pe_ifExp (pt_cmpR op_lt (pv 1) (pe_callB call_len_seq (by rfl) T.z_len PySem.boot_len (pa_cons (pv 0) pa_nil)) (nomark _)) (pe_ix ix_list (pv 0) (pv 1) (fun _ _ => rfl)) (pe_op op_add (pe_op op_mulX (pv 1) pe_int) (pe_op op_mulX (pe_callB call_len_seq (by rfl) T.z_len PySem.boot_len (pa_cons (pv 0) pa_nil)) pe_int))))
  (pss_one (ps_ret (pe_lst (pa_cons (pe_callB (call_max2 rfl) (by rfl) T.z_max (by decide +kernel) (pa_cons pe_int (pa_cons (pe_op op_sub (pe_callB call_abs (by rfl) T.z_abs (by decide +kernel) (pa_cons (pv 2) pa_nil)) (pe_op op_pow pe_int pe_int)) pa_nil))) (pa_cons (pe_op op_mod (pe_callTy call_int1 (by rfl) T.z_int (by decide +kernel) (pa_cons (pe_op op_add (pe_op op_add (pe_op op_mul (pv 2) pe_int) (pe_op op_mulX (pv 1) pe_int)) pe_int) pa_nil)) (pe_op op_add (pe_op op_pow pe_int pe_int) pe_int)) (pa_cons pe_int pa_nil))))))), ?_⟩
    have hlt : decide ((j : Int) < ((ns.map V.int).length : Int)) = true → j < ns.length := fun e => by
      have e1 := of_decide_eq_true e
      rw [List.length_map] at e1
      omega
    have hn2 : ¬ decide ((j : Int) < ((ns.map V.int).length : Int)) = true → ((ns.map V.int).length : Int).natAbs < 2 ^ 20 := fun e => by
      have e1 : ¬ (j : Int) < ((ns.map V.int).length : Int) := fun z => e (decide_eq_true z)
      omega
    refine ⟨.int (j : Int), rfl, .ref l, rfl, l, _, rfl, .inl hS, _, _, rfl, rfl, _, rfl, ite2 (fun e => ⟨.ref l, rfl, .int (j : Int), rfl, l, _, (j : Int), .int (ns[j]'(hlt e)), rfl, rfl, hS, atI_nat (by rw [List.getElem?_map, List.getElem?_eq_getElem (hlt e)]; rfl), ?_⟩) (fun e => ⟨.int (j : Int), rfl, (j : Int), 7919, rfl, rfl, mulx_ok (a := 20) (b := 13) (by omega) (by decide) (by decide), .ref l, rfl, l, _, rfl, .inl hS, _, 104729, rfl, rfl, mulx_ok (a := 20) (b := 20) (hn2 e) (by decide) (by decide), _, _, rfl, rfl, ?_⟩)⟩
    all_goals
      refine ⟨_, rfl, _, rfl, 10, 18, rfl, rfl, ⟨by decide, by decide, by decide⟩, _, _, rfl, rfl, 0, _, rfl, ?_⟩
      refine ⟨_, rfl, _, 48611, rfl, rfl, .inr ⟨by decide, by decide⟩, .int (j : Int), rfl, (j : Int), 6700417, rfl, rfl, mulx_ok (a := 20) (b := 23) (by omega) (by decide) (by decide), _, _, rfl, rfl, _, 31337, rfl, rfl, .inl ⟨_, rfl, 10, 24, rfl, rfl, ⟨by decide, by decide, by decide⟩, _, 7, rfl, rfl, _, _, rfl, rfl, (by show (0 : Int) < 10 ^ Int.toNat 24 + 7; decide), ?_⟩⟩
      refine ⟨(by show 3 ≤ sizeLine; decide), fun p hp => q _ p (same_upd hp) hp ⟨_, _, 0, upd_same, Int.emod_nonneg _ (by decide), Int.lt_trans (Int.emod_lt_of_pos _ (by decide)) (by decide), by decide, by decide⟩⟩
theorem ok__law_dip (T : Top K mg)  : CalD P w K mg base 1 "_law_dip" s__law_dip ["well", "many"] (spDip) := by
  refine cal_mk T.d__law_dip sc__law_dip (fun _ _ _ _ _ _ us hl => match us, hl with | [_, _], _ => rfl) (fun vs H Q E h => ?_) (fun f cdv A outer s H vs Q E hr h => ?_)
  · obtain ⟨a, m, k, rfl, ⟨x, y, z, hD, hy0, hy1, hz0, hz1⟩, hk, hm0, hm1, q⟩ := h
    rfl
  · obtain ⟨a, m, k, rfl, ⟨x, y, z, hD, hy0, hy1, hz0, hz1⟩, hk, hm0, hm1, q⟩ := h
    refine ⟨_, (pss_cons (ps_if (pt_cmpR op_gt (pe_ix ix_list (pv 0) pe_int (fun _ _ => rfl)) pe_int (nomark _)) (pss_cons (ps_set (i := 2) sc__law_dip.nd rfl (Or.inl rfl) (pe_op op_mod (pe_callTy call_int1 (by rfl) T.z_int (by decide +kernel) (pa_cons (pe_ix ix_list (pv 0) pe_int (fun _ _ => rfl)) pa_nil)) (pv 1)))
  (pss_cons (ps_asg (pe_op op_fdivW (pe_ix ix_list (pv 0) pe_int (fun _ _ => rfl)) (pv 1)) (pg_sub (pv 0) pe_int set_list))
  (pss_one (ps_ret (pv 2))))) pss_nil)
  (pss_cons (ps_asg (pe_op op_add (pe_ix ix_list (pv 0) pe_int (fun _ _ => rfl)) pe_int) (pg_sub (pv 0) pe_int set_list))
  (pss_cons (ps_set (i := 3) sc__law_dip.nd rfl (Or.inl rfl) (pe_op op_mod (pe_op op_powW (pe_callTy call_int1 (by rfl) T.z_int (by decide +kernel) (pa_cons (pe_op op_add (pe_ix ix_list (pv 0) pe_int (fun _ _ => rfl)) (pe_op op_mulX pe_int (pe_ix ix_list (pv 0) pe_int (fun _ _ => rfl)))) pa_nil)) pe_int) (pe_op op_add (pe_op op_pow pe_int pe_int) pe_int)))
  (pss_cons (ps_set (i := 3) sc__law_dip.nd rfl (Or.inl rfl) (pe_op op_mod (pe_op op_powW (pe_callTy call_int1 (by rfl) T.z_int (by decide +kernel) (pa_cons (pe_op op_add (pv 3) (pe_op op_mulX pe_int (pe_ix ix_list (pv 0) pe_int (fun _ _ => rfl)))) pa_nil)) pe_int) (pe_op op_add (pe_op op_pow pe_int pe_int) pe_int)))
  (pss_one (ps_ret (pe_op op_mod (pe_callTy call_int1 (by rfl) T.z_int (by decide +kernel) (pa_cons (pe_op op_fdivW (pv 3) pe_int) pa_nil)) (pv 1)))))))), ?_⟩
    have hS : SqL K H a [.int x, .int y, .int z] := SqL.of hD
    have h0 : (0 : Int) < (m : Int) := by omega
    have h9 : ((m : Int)).natAbs.log2 < 9000 := log2_small (by simpa using hm1)
    refine ⟨.ref a, rfl, a, _, 0, .int x, rfl, rfl, hS, rfl, x, 0, rfl, rfl, _, rfl, ite2 (fun e => ?_) (fun e => ?_)⟩
    · refine ⟨.ref a, rfl, a, _, 0, .int x, rfl, rfl, hS, rfl, .inl ⟨x, rfl, .int (m : Int), rfl, x, (m : Int), rfl, rfl, h0, ?_⟩⟩
      refine ⟨.ref a, rfl, a, _, 0, .int x, rfl, rfl, hS, rfl, .int (m : Int), rfl, x, (m : Int), rfl, rfl, ⟨h0, h9⟩, .ref a, rfl, a, _, 0, 0, rfl, rfl, hD, rfl, ?_⟩
      obtain ⟨t, ht⟩ := Int.eq_ofNat_of_zero_le (Int.emod_nonneg x (show (m : Int) ≠ 0 by omega))
      have ht2 := Int.emod_lt_of_pos x h0
      refine ⟨.int (x % (m : Int)), rfl, ?_⟩
      rw [ht]
      exact q t _ (by omega) (Off.upd _ _ _) ⟨_, y, z, upd_same, hy0, hy1, hz0, by omega⟩
    · refine ⟨.ref a, rfl, a, _, 2, .int z, rfl, rfl, hS, rfl, _, 1, rfl, rfl, .ref a, rfl, a, _, 2, 2, rfl, rfl, hD, rfl, ?_⟩
      have oz := Off.upd a H (.lst [.int x, .int y, .int (z + 1)])
      have hE : upd H a (.lst [.int x, .int y, .int (z + 1)]) a = some (.lst [.int x, .int y, .int (z + 1)]) := upd_same
      have wz : WellAt (upd H a (.lst [.int x, .int y, .int (z + 1)])) a (k + 1) := ⟨_, y, z + 1, upd_same, hy0, hy1, by omega, by omega⟩
      show tSeq _ _ _ _ (upd H a (.lst [.int x, .int y, .int (z + 1)]))
      generalize upd H a (.lst [.int x, .int y, .int (z + 1)]) = H1 at oz hE wz
      have e80 : (2 : Int) ^ 80 = 1208925819614629174706176 := by decide
      rw [e80] at hy1
      have b1 : (y + 1000003 * (z + 1)).natAbs < 2 ^ 81 := by
        have : (2 : Nat) ^ 81 = 2417851639229258349412352 := by decide
        omega
      refine ⟨.ref a, rfl, a, _, 1, .int y, rfl, rfl, SqL.of hE, rfl, .ref a, rfl, a, _, 2, .int (z + 1), rfl, rfl, SqL.of hE, rfl, 1000003, _, rfl, rfl, mulx_ok (a := 20) (b := 40) (by decide) (by omega) (by decide), _, _, rfl, rfl, .inl ⟨_, rfl, _, 3, rfl, rfl, powW_ok 3 b1 (by decide), 10, 25, rfl, rfl, ⟨by decide, by decide, by decide⟩, _, _, rfl, rfl, _, _, rfl, rfl, (by show (0 : Int) < 10 ^ Int.toNat 25 + 13; decide), ?_⟩⟩
      show tSeq _ _ _ [some (V.ref a), some (V.int (m : Int)), none, some (V.int ((y + 1000003 * (z + 1)) ^ Int.toNat 3 % ((10 : Int) ^ Int.toNat 25 + 13)))] H1
      have e25 : ((10 : Int) ^ Int.toNat 25 + 13) = 10000000000000000000000013 := by decide
      have g0 := Int.emod_nonneg ((y + 1000003 * (z + 1)) ^ Int.toNat 3) (show ((10 : Int) ^ Int.toNat 25 + 13) ≠ 0 by decide)
      have g1 := Int.emod_lt_of_pos ((y + 1000003 * (z + 1)) ^ Int.toNat 3) (show (0 : Int) < ((10 : Int) ^ Int.toNat 25 + 13) by decide)
      generalize (y + 1000003 * (z + 1)) ^ Int.toNat 3 % ((10 : Int) ^ Int.toNat 25 + 13) = r at g0 g1
      rw [e25] at g1
      have b2 : (r + 77347 * (z + 1)).natAbs < 2 ^ 90 := by
        have : (2 : Nat) ^ 90 = 1237940039285380274899124224 := by decide
        omega
      refine ⟨.int r, rfl, .ref a, rfl, a, _, 2, .int (z + 1), rfl, rfl, SqL.of hE, rfl, 77347, _, rfl, rfl, mulx_ok (a := 20) (b := 40) (by decide) (by omega) (by decide), _, _, rfl, rfl, .inl ⟨_, rfl, _, 2, rfl, rfl, powW_ok 2 b2 (by decide), 10, 24, rfl, rfl, ⟨by decide, by decide, by decide⟩, _, _, rfl, rfl, _, _, rfl, rfl, (by show (0 : Int) < 10 ^ Int.toNat 24 + 7; decide), ?_⟩⟩
      show tSeq _ _ _ [some (V.ref a), some (V.int (m : Int)), none, some (V.int ((r + 77347 * (z + 1)) ^ Int.toNat 2 % ((10 : Int) ^ Int.toNat 24 + 7)))] H1
      generalize (r + 77347 * (z + 1)) ^ Int.toNat 2 % ((10 : Int) ^ Int.toNat 24 + 7) = r2
      refine ⟨.int r2, rfl, _, 4096, rfl, rfl, wide_div (b := 20) (by decide) (by decide) (by decide) (by decide), .inl ⟨_, rfl, .int (m : Int), rfl, _, (m : Int), rfl, rfl, h0, ?_⟩⟩
      obtain ⟨t, ht⟩ := Int.eq_ofNat_of_zero_le (Int.emod_nonneg (r2 / 4096) (show (m : Int) ≠ 0 by omega))
      have ht2 := Int.emod_lt_of_pos (r2 / 4096) h0
      show Q (.int (r2 / 4096 % (m : Int))) H1
      rw [ht]
      exact q t _ (by omega) oz wz
theorem ok__law_same (T : Top K mg) : ∀ n : Nat, CalD P w K mg base (n + 1) "_law_same" s__law_same ["told", "due"] (spSame K n) := by
  intro n
  induction n with
  | zero =>
    refine cal_mk T.d__law_same sc__law_same (fun _ _ _ _ _ _ us hl => match us, hl with | [_, _], _ => rfl) (fun vs H Q E h => ?_) (fun f cdv A outer s H vs Q E hr h => ?_)
    · obtain ⟨x, y, d, rfl, _⟩ := h
      rfl
    · obtain ⟨x, y, d, rfl, _, _, hf, _⟩ := h
      exact hf.elim
  | succ n ih =>
  have c__law_same := ih
  refine cal_mk T.d__law_same sc__law_same (fun _ _ _ _ _ _ us hl => match us, hl with | [_, _], _ => rfl) (fun vs H Q E h => ?_) (fun f cdv A outer s H vs Q E hr h => ?_)
  · obtain ⟨x, y, d, rfl, _⟩ := h
    rfl
  · obtain ⟨x, y, d, rfl, hx, hy, hfit, q⟩ := h
    have q0 := q H (Same.refl H)
    refine ⟨_, (pss_cons (ps_if (pt_cmpR op_isN (pv 1) pe_non (nomark _)) (pss_one (ps_ret (pe_cmpR op_isN (pv 0) pe_non (nomark _)))) pss_nil)
  (pss_cons (ps_if (pt_val (pe_callB call_isi (by rfl) T.z_isinstance (by decide +kernel) (pa_cons (pv 1) (pa_cons (pe_bltn (v := .ty "bool") (by rfl) T.z_bool (by decide +kernel) rfl) pa_nil)))) (pss_one (ps_ret (pe_and (pe_callB call_isi (by rfl) T.z_isinstance (by decide +kernel) (pa_cons (pv 0) (pa_cons (pe_bltn (v := .ty "bool") (by rfl) T.z_bool (by decide +kernel) rfl) pa_nil))) (pe_one (pe_cmpR op_eq (pv 0) (pv 1) (nomark _)))))) pss_nil)
  (pss_cons (ps_if (PW.pt (pw_or (pt_val (pe_callB call_isi (by rfl) T.z_isinstance (by decide +kernel) (pa_cons (pv 1) (pa_cons (pe_bltn (v := .ty "tuple") (by rfl) T.z_tuple (by decide +kernel) rfl) pa_nil)))) (pw_or1 (pt_val (pe_callB call_isi (by rfl) T.z_isinstance (by decide +kernel) (pa_cons (pv 1) (pa_cons (pe_bltn (v := .ty "list") (by rfl) T.z_list (by decide +kernel) rfl) pa_nil))))))) (pss_cons (ps_set (i := 2) sc__law_same.nd rfl (Or.inl rfl) (pe_ifExp (pt_val (pe_callB call_isi (by rfl) T.z_isinstance (by decide +kernel) (pa_cons (pv 1) (pa_cons (pe_bltn (v := .ty "tuple") (by rfl) T.z_tuple (by decide +kernel) rfl) pa_nil)))) (pe_callB call_isi (by rfl) T.z_isinstance (by decide +kernel) (pa_cons (pv 0) (pa_cons (pe_bltn (v := .ty "tuple") (by rfl) T.z_tuple (by decide +kernel) rfl) pa_nil))) (pe_callB call_isi (by rfl) T.z_isinstance (by decide +kernel) (pa_cons (pv 0) (pa_cons (pe_bltn (v := .ty "list") (by rfl) T.z_list (by decide +kernel) rfl) pa_nil)))))
  (pss_cons (ps_if (PW.pt (pw_or (pt_not (pt_val (pv 2))) (pw_or1 (pt_cmpR op_ne (pe_callB call_len_seq (by rfl) T.z_len PySem.boot_len (pa_cons (pv 0) pa_nil)) (pe_callB call_len_seq (by rfl) T.z_len PySem.boot_len (pa_cons (pv 1) pa_nil)) (nomark _))))) (pss_one (ps_ret pe_bl)) pss_nil)
  (pss_cons (ps_for PassesOwn.never rfl (pi_range1 (by rfl) T.z_range (pa_cons (pe_callB call_len_seq (by rfl) T.z_len PySem.boot_len (pa_cons (pv 1) pa_nil)) pa_nil)) (pg_name (i := 3) sc__law_same.nd rfl (Or.inl rfl)) (pss_one (ps_if (pt_not (pt_val (pe_f c__law_same hr (by omega) (by rfl) (pa_cons (pe_ix ix_seq (pv 0) (pv 3) (fun _ _ => rfl)) (pa_cons (pe_ix ix_seq (pv 1) (pv 3) (fun _ _ => rfl)) pa_nil))))) (pss_one (ps_ret pe_bl)) pss_nil)))
  (pss_one (ps_ret pe_bl))))) pss_nil)
  (pss_cons (ps_if (pt_val (pe_callB call_isi (by rfl) T.z_isinstance (by decide +kernel) (pa_cons (pv 1) (pa_cons (pe_bltn (v := .ty "str") (by rfl) T.z_str (by decide +kernel) rfl) pa_nil)))) (pss_one (ps_ret (pe_and (pe_callB call_isi (by rfl) T.z_isinstance (by decide +kernel) (pa_cons (pv 0) (pa_cons (pe_bltn (v := .ty "str") (by rfl) T.z_str (by decide +kernel) rfl) pa_nil))) (pe_one (pe_cmpR op_eq (pv 0) (pv 1) (nomark _)))))) pss_nil)
  (pss_one (ps_ret (pe_and (pe_callB call_isi (by rfl) T.z_isinstance (by decide +kernel) (pa_cons (pv 0) (pa_cons (pe_bltn (v := .ty "int") (by rfl) T.z_int (by decide +kernel) rfl) pa_nil))) (pe_and (pe_not (pe_callB call_isi (by rfl) T.z_isinstance (by decide +kernel) (pa_cons (pv 0) (pa_cons (pe_bltn (v := .ty "bool") (by rfl) T.z_bool (by decide +kernel) rfl) pa_nil)))) (pe_one (pe_cmpR op_eq (pv 0) (pv 1) (nomark _))))))))))), ?_⟩
    rcases d with _ | _ | _ | _ | _ | _ | _
    · -- none
      cases hx
      cases hy
      exact ⟨_, rfl, rfl, _, rfl, iteT ⟨_, rfl, rfl, q0⟩⟩
    · -- bool
      cases hx
      cases hy
      refine ⟨_, rfl, rfl, _, rfl, iteF ?_⟩
      refine ⟨_, rfl, _, _, _, _, true, rfl, .ty _, .base (.bl _), kit_ty (by decide +kernel), _, rfl, iteT ?_⟩
      refine ⟨_, rfl, _, _, _, _, true, rfl, .ty _, .base (.bl _), kit_ty (by decide +kernel), _, rfl, iteT ?_⟩
      refine ⟨_, rfl, _, rfl, rfl, ?_⟩
      rw [decide_eq_true rfl]
      exact q0
    · -- int
      cases hx
      cases hy
      refine ⟨_, rfl, rfl, _, rfl, iteF ?_⟩
      refine ⟨_, rfl, _, _, _, _, false, rfl, .ty _, .base (.int _), kit_ty (by decide +kernel), _, rfl, iteF ?_⟩
      refine ⟨_, rfl, _, _, _, _, false, rfl, .ty _, .base (.int _), kit_ty (by decide +kernel), _, rfl, iteF ?_⟩
      refine ⟨_, rfl, _, _, _, _, false, rfl, .ty _, .base (.int _), kit_ty (by decide +kernel), _, rfl, iteF ?_⟩
      refine ⟨_, rfl, _, _, _, _, false, rfl, .ty _, .base (.int _), kit_ty (by decide +kernel), _, rfl, iteF ?_⟩
      refine ⟨_, rfl, _, _, _, _, true, rfl, .ty _, .base (.int _), kit_ty (by decide +kernel), _, rfl, iteT ?_⟩
      refine ⟨_, rfl, _, _, _, _, false, rfl, .ty _, .base (.int _), kit_ty (by decide +kernel), _, rfl, _, rfl, iteT ?_⟩
      refine ⟨_, rfl, _, rfl, rfl, ?_⟩
      rw [decide_eq_true rfl]
      exact q0
    · -- str
      cases hx
      cases hy
      refine ⟨_, rfl, rfl, _, rfl, iteF ?_⟩
      refine ⟨_, rfl, _, _, _, _, false, rfl, .ty _, .base (.str _), kit_ty (by decide +kernel), _, rfl, iteF ?_⟩
      refine ⟨_, rfl, _, _, _, _, false, rfl, .ty _, .base (.str _), kit_ty (by decide +kernel), _, rfl, iteF ?_⟩
      refine ⟨_, rfl, _, _, _, _, false, rfl, .ty _, .base (.str _), kit_ty (by decide +kernel), _, rfl, iteF ?_⟩
      refine ⟨_, rfl, _, _, _, _, true, rfl, .ty _, .base (.str _), kit_ty (by decide +kernel), _, rfl, iteT ?_⟩
      refine ⟨_, rfl, _, _, _, _, true, rfl, .ty _, .base (.str _), kit_ty (by decide +kernel), _, rfl, iteT ?_⟩
      refine ⟨_, rfl, _, rfl, rfl, ?_⟩
      rw [decide_eq_true rfl]
      exact q0
    · -- list
      rename_i ds
      obtain ⟨a, xs, hx1, hx2, rfl⟩ : ∃ a xs, SqL K H a xs ∧ DpAll K H xs ds ∧ x = .ref a := by
        cases hx with
        | lst h1 h2 => exact ⟨_, _, h1, h2, rfl⟩
      obtain ⟨b, ys, hy1, hy2, rfl⟩ : ∃ a xs, SqL K H a xs ∧ DpAll K H xs ds ∧ y = .ref a := by
        cases hy with
        | lst h1 h2 => exact ⟨_, _, h1, h2, rfl⟩
      obtain ⟨hl, hf⟩ := (show ds.length < 4611686018427387904 ∧ ∀ e ∈ ds, Fit n e from hfit)
      have ex := DpAll.length _ hx2
      have ey := DpAll.length _ hy2
      refine ⟨_, rfl, rfl, _, rfl, iteF ?_⟩
      refine ⟨_, rfl, _, _, _, _, false, rfl, .ty _, ty_list hy1, kit_ty (by decide +kernel), _, rfl, iteF ?_⟩
      refine ⟨_, rfl, _, _, _, _, false, rfl, .ty _, ty_list hy1, kit_ty (by decide +kernel), _, rfl, iteF ?_⟩
      refine ⟨_, rfl, _, _, _, _, true, rfl, .ty _, ty_list hy1, kit_ty (by decide +kernel), _, rfl, iteT ?_⟩
      refine ⟨_, rfl, _, _, _, _, false, rfl, .ty _, ty_list hy1, kit_ty (by decide +kernel), _, rfl, iteF ?_⟩
      refine ⟨_, rfl, _, _, _, _, true, rfl, .ty _, ty_list hx1, kit_ty (by decide +kernel), ?_⟩
      refine ⟨_, rfl, _, rfl, iteF ?_⟩
      refine ⟨_, rfl, a, xs, rfl, .inl hx1, _, rfl, b, ys, rfl, .inl hy1, rfl, _, rfl, ?_⟩
      rw [ex, ey, decide_eq_true rfl]
      refine iteF ?_
      refine ⟨_, rfl, b, ys, rfl, .inl hy1, _, rfl, (by omega), (by omega), ?_⟩
      refine for_range (lo := 0) (n := ((ys.length : Nat) : Int).toNat) (fun i σ H' => ∃ z : Option V, σ = [some (.ref a), some (.ref b), some (.bl true), z] ∧ Same H H') ⟨none, rfl, Same.refl H⟩ (fun i σ H' hi hP => ?_) (fun σ H' hP => ?_)
      · obtain ⟨z, rfl, sP⟩ := hP
        have e0 : (0 : Int) + (i : Int) = (i : Int) := Int.zero_add _
        rw [e0]
        have hi2 : i < ds.length := by omega
        obtain ⟨u, hu1, hu2⟩ := DpAll.get _ hx2 (List.getElem?_eq_getElem hi2)
        obtain ⟨v, hv1, hv2⟩ := DpAll.get _ hy2 (List.getElem?_eq_getElem hi2)
        refine ⟨_, rfl, _, rfl, .inl ⟨a, xs, (i : Int), u, rfl, rfl, Same.seq sP hx1, atI_nat hu1, ?_⟩⟩
        refine ⟨_, rfl, _, rfl, .inl ⟨b, ys, (i : Int), v, rfl, rfl, Same.seq sP hy1, atI_nat hv1, ?_⟩⟩
        exact ⟨u, v, ds[i], rfl, Dp.same sP _ _ hu2, Dp.same sP _ _ hv2, hf _ (List.getElem_mem hi2), fun H2 s2 => ⟨_, rfl, iteF ⟨_, rfl, sP.trans s2⟩⟩⟩
      · obtain ⟨z, rfl, sP⟩ := hP
        exact q _ sP
    · -- tuple
      rename_i ds
      obtain ⟨a, xs, hx1, hx2, rfl⟩ : ∃ a xs, SqT K H a xs ∧ DpAll K H xs ds ∧ x = .ref a := by
        cases hx with
        | tup h1 h2 => exact ⟨_, _, h1, h2, rfl⟩
      obtain ⟨b, ys, hy1, hy2, rfl⟩ : ∃ a xs, SqT K H a xs ∧ DpAll K H xs ds ∧ y = .ref a := by
        cases hy with
        | tup h1 h2 => exact ⟨_, _, h1, h2, rfl⟩
      obtain ⟨hl, hf⟩ := (show ds.length < 4611686018427387904 ∧ ∀ e ∈ ds, Fit n e from hfit)
      have ex := DpAll.length _ hx2
      have ey := DpAll.length _ hy2
      refine ⟨_, rfl, rfl, _, rfl, iteF ?_⟩
      refine ⟨_, rfl, _, _, _, _, false, rfl, .ty _, ty_tuple hy1, kit_ty (by decide +kernel), _, rfl, iteF ?_⟩
      refine ⟨_, rfl, _, _, _, _, true, rfl, .ty _, ty_tuple hy1, kit_ty (by decide +kernel), _, rfl, iteT (iteT ?_)⟩
      refine ⟨_, rfl, _, _, _, _, true, rfl, .ty _, ty_tuple hy1, kit_ty (by decide +kernel), _, rfl, iteT ?_⟩
      refine ⟨_, rfl, _, _, _, _, true, rfl, .ty _, ty_tuple hx1, kit_ty (by decide +kernel), ?_⟩
      refine ⟨_, rfl, _, rfl, iteF ?_⟩
      refine ⟨_, rfl, a, xs, rfl, .inr hx1, _, rfl, b, ys, rfl, .inr hy1, rfl, _, rfl, ?_⟩
      rw [ex, ey, decide_eq_true rfl]
      refine iteF ?_
      refine ⟨_, rfl, b, ys, rfl, .inr hy1, _, rfl, (by omega), (by omega), ?_⟩
      refine for_range (lo := 0) (n := ((ys.length : Nat) : Int).toNat) (fun i σ H' => ∃ z : Option V, σ = [some (.ref a), some (.ref b), some (.bl true), z] ∧ Same H H') ⟨none, rfl, Same.refl H⟩ (fun i σ H' hi hP => ?_) (fun σ H' hP => ?_)
      · obtain ⟨z, rfl, sP⟩ := hP
        have e0 : (0 : Int) + (i : Int) = (i : Int) := Int.zero_add _
        rw [e0]
        have hi2 : i < ds.length := by omega
        obtain ⟨u, hu1, hu2⟩ := DpAll.get _ hx2 (List.getElem?_eq_getElem hi2)
        obtain ⟨v, hv1, hv2⟩ := DpAll.get _ hy2 (List.getElem?_eq_getElem hi2)
        refine ⟨_, rfl, _, rfl, .inr (.inl ⟨a, xs, (i : Int), u, rfl, rfl, Same.tupS sP hx1, atI_nat hu1, ?_⟩)⟩
        refine ⟨_, rfl, _, rfl, .inr (.inl ⟨b, ys, (i : Int), v, rfl, rfl, Same.tupS sP hy1, atI_nat hv1, ?_⟩)⟩
        exact ⟨u, v, ds[i], rfl, Dp.same sP _ _ hu2, Dp.same sP _ _ hv2, hf _ (List.getElem_mem hi2), fun H2 s2 => ⟨_, rfl, iteF ⟨_, rfl, sP.trans s2⟩⟩⟩
      · obtain ⟨z, rfl, sP⟩ := hP
        exact q _ sP
    · exact hfit.elim
theorem ok__law_ways (T : Top K mg)  : CalD P w K mg base 1 "_law_ways" s__law_ways ["k", "n"] (spWaysL) := by
  refine cal_mk T.d__law_ways sc__law_ways (fun _ _ _ _ _ _ us hl => match us, hl with | [_, _], _ => rfl) (fun vs H Q E h => ?_) (fun f cdv A outer s H vs Q E hr h => ?_)
  · obtain ⟨k, n, rfl, hk, hn, q⟩ := h
    rfl
  · obtain ⟨k, n, rfl, hk, hn, q⟩ := h
    refine ⟨_, (pss_cons (ps_set (i := 2) sc__law_ways.nd rfl (Or.inr rfl) (pe_op op_cat (pe_lst (pa_cons pe_int pa_nil)) (pe_op op_rep (pe_lst (pa_cons pe_int pa_nil)) (pv 1))))
  (pss_cons (ps_for PassesOwn.never rfl (pi_range1 (by rfl) T.z_range (pa_cons (pv 0) pa_nil)) (pg_name (i := 3) sc__law_ways.nd rfl (Or.inl rfl)) (pss_one (ps_set (i := 2) sc__law_ways.nd rfl (Or.inr rfl) (pe_op op_cat (pe_lst (pa_cons pe_int pa_nil)) (pe_lc (own := [("at", 4)]) (g := gName 4) rfl sc__law_ways.nd (pi_range1 (by rfl) T.z_range (pa_cons (pv 1) pa_nil)) (blkOk_by (own := [("at", 4)]) (N := N__law_ways) (sc := defScope s__law_ways) (by decide +kernel)) (fun _ _ _ _ _ => pg_name (i := 4) sc__law_ways.nd rfl (Or.inl rfl)) (fun _ _ _ _ _ => pts_nil) (fun _ _ _ _ _ => (pe_op op_add (pe_ix (ix_list_at K rfl) (pv 2) (pv 4) (fun _ _ => rfl)) (pe_ix (ix_list_at K rfl) (pv 2) (pe_op op_add (pv 4) pe_int) (fun _ _ => rfl)))))))))
  (pss_one (ps_ret (pe_ix ix_list (pv 2) (pv 1) (fun _ _ => rfl)))))), ?_⟩
    refine ⟨(by show 1 ≤ sizeLine; decide), fun p1 hp1 => ⟨(by show 1 ≤ sizeLine; decide), fun p2 hp2 => ⟨_, rfl, p2, (n : Int), _, rfl, rfl, upd_same, by omega, by omega, (by rw [Int.toNat_natCast]; exact Nat.le_trans (by show 1 * n ≤ 100000; omega) (by decide : 100000 ≤ sizeLine)), fun p3 hp3 => ?_⟩⟩⟩
    have s1 := same_upd (o := HO.lst [V.int 1]) hp1
    have s2 := same_upd (o := HO.lst [V.int 0]) hp2
    have s3 := same_upd (o := HO.lst (List.replicate (Int.toNat (n : Int)) [V.int 0]).flatten) hp3
    have l0 : ((List.replicate (Int.toNat (n : Int)) [V.int 0]).flatten).length = n := by
      have e := congrArg List.length (chRow_zero n)
      rw [chRow_len, List.length_cons] at e
      rw [Int.toNat_natCast]
      omega
    refine ⟨p1, p3, _, _, rfl, rfl, s3 _ _ (s2 _ _ upd_same), upd_same, (by rw [l0]; exact Nat.le_trans (by show 1 + n ≤ 100001; omega) (by decide : 100001 ≤ sizeLine)), fun p4 hp4 => ?_⟩
    have s4 := ((s1.trans s2).trans s3).trans (same_upd (o := HO.lst ([V.int 1] ++ (List.replicate (Int.toNat (n : Int)) [V.int 0]).flatten)) hp4)
    have e4 : upd (upd (upd (upd H p1 (.lst [V.int 1])) p2 (.lst [V.int 0])) p3 (.lst (List.replicate (Int.toNat (n : Int)) [V.int 0]).flatten)) p4 (.lst ([V.int 1] ++ (List.replicate (Int.toNat (n : Int)) [V.int 0]).flatten)) p4 = some (.lst (chRow 0 n)) := by
      rw [upd_same, Int.toNat_natCast]
      exact congrArg (fun z => some (HO.lst z)) (chRow_zero n)
    generalize upd (upd (upd (upd H p1 (.lst [V.int 1])) p2 (.lst [V.int 0])) p3 (.lst (List.replicate (Int.toNat (n : Int)) [V.int 0]).flatten)) p4 (.lst ([V.int 1] ++ (List.replicate (Int.toNat (n : Int)) [V.int 0]).flatten)) = H4 at s4 e4
    clear s1 s2 s3 hp1 hp2 hp3 hp4 l0
    refine ⟨_, rfl, (k : Int), rfl, by omega, by omega, ?_⟩
    have ek : ((k : Nat) : Int).toNat = k := Int.toNat_natCast _
    have en : ((n : Nat) : Int).toNat = n := Int.toNat_natCast _
    refine for_range (lo := 0) (n := ((k : Nat) : Int).toNat) (fun i σ H' => ∃ (p : Addr) (z1 z2 : Option V), σ = [some (.int (k : Int)), some (.int (n : Int)), some (.ref p), z1, z2] ∧ Same H H' ∧ H' p = some (.lst (chRow i n)))
      ⟨p4, none, none, rfl, s4, e4⟩ (fun i σ H' hi hP => ?_) (fun σ H' hP => ?_)
    · obtain ⟨p, z1, z2, rfl, sP, eP⟩ := hP
      refine ⟨(by show 1 ≤ sizeLine; decide), fun p5 hp5 => ⟨_, rfl, (n : Int), rfl, by omega, by omega, fun D hD => ?_⟩⟩
      have s5 := same_upd (o := HO.lst [V.int 1]) hp5
      have eP5 := s5 _ _ eP
      have e5 : upd H' p5 (.lst [V.int 1]) p5 = some (.lst [V.int 1]) := upd_same
      have sP5 := sP.trans s5
      generalize upd H' p5 (.lst [V.int 1]) = H5 at s5 eP5 e5 hD sP5
      refine lc_range (lo := 0) (n := ((n : Nat) : Int).toNat) (fun j H6 => Same H5 H6 ∧ H6 D = some (.lst ((List.range j).map fun j => V.int ((ch i j : Int) + (ch i (j + 1) : Int))))) ⟨same_upd hD, upd_same⟩ (fun j H6 hj hQ => ?_) (fun H6 hQ => ?_)
      · obtain ⟨sQ, eQ⟩ := hQ
        rw [Int.zero_add]
        have hjn : j < n := by omega
        refine ⟨rfl, _, rfl, _, rfl, p, _, (j : Int), _, rfl, rfl, SqL.of (sQ _ _ eP5), atI_nat (chRow_get (by omega)), ?_⟩
        refine ⟨_, rfl, _, rfl, _, 1, rfl, rfl, p, _, _, _, rfl, rfl, SqL.of (sQ _ _ eP5), (by rw [show ((j : Int) + 1) = ((j + 1 : Nat) : Int) by omega]; exact atI_nat (chRow_get (by omega))), _, _, rfl, rfl, _, eQ, ?_, ?_⟩
        · rw [List.length_map, List.length_range]
          exact Nat.lt_of_lt_of_le (by omega : j < 100000) (by decide)
        · refine ⟨fun b o e => ?_, ?_⟩
          · rw [upd_ne (ne_of_none e hD)]
            exact sQ b o e
          · rw [upd_same, List.range_succ, List.map_append]
            rfl
      · obtain ⟨sQ, eQ⟩ := hQ
        rw [en] at eQ
        refine ⟨p5, D, _, _, rfl, rfl, sQ _ _ e5, eQ, ?_, fun p6 hp6 => ?_⟩
        · rw [List.length_map, List.length_range]
          exact Nat.le_trans (by show 1 + n ≤ 100001; omega) (by decide : 100001 ≤ sizeLine)
        · refine ⟨p6, _, _, rfl, (sP5.trans sQ).trans (same_upd hp6), ?_⟩
          rw [upd_same]
          exact congrArg (fun z => some (HO.lst z)) (chRow_succ i n)
    · obtain ⟨p, z1, z2, rfl, sP, eP⟩ := hP
      rw [ek] at eP
      exact ⟨_, rfl, _, rfl, p, _, (n : Int), _, rfl, rfl, SqL.of eP, atI_nat (chRow_get (Nat.le_refl n)), q _ sP⟩
theorem ok__law_least (T : Top K mg) (c__law_ways : CalD P w K mg base 1 "_law_ways" s__law_ways ["k", "n"] (spWaysL)) : CalD P w K mg base 2 "_law_least" s__law_least ["u", "n", "f"] (spLeastL) := by
  refine cal_mk T.d__law_least sc__law_least (fun _ _ _ _ _ _ us hl => match us, hl with | [_, _, _], _ => rfl) (fun vs H Q E h => ?_) (fun f cdv A outer s H vs Q E hr h => ?_)
  · obtain ⟨u, n, f, rfl, hnu, hu, hnf, q⟩ := h
    rfl
  · obtain ⟨u, n, f, rfl, hnu, hu, hnf, q⟩ := h
    refine ⟨_, (pss_cons (ps_par3 (i := 3) (j := 4) (l := 5) rfl sc__law_least.nd rfl rfl rfl (by decide) (by decide) (by decide) rfl rfl rfl (pa_cons (pe_f c__law_ways hr (by omega) (by rfl) (pa_cons (pe_op op_add (pv 1) (pv 2)) (pa_cons (pv 1) pa_nil))) (pa_cons (pe_f c__law_ways hr (by omega) (by rfl) (pa_cons (pv 0) (pa_cons (pv 1) pa_nil))) (pa_cons pe_int pa_nil))) (by rfl))
  (pss_cons (ps_while PassesOwn.never (pt_cmpR op_lt (pv 3) (pv 4) (nomark _)) (pss_one (ps_par (i := 3) (j := 5) rfl sc__law_least.nd rfl rfl (by decide) rfl rfl (pa_cons (pe_op op_mulX pe_int (pv 3)) (pa_cons (pe_op op_add (pv 5) pe_int) pa_nil)) (by rfl))))
  (pss_one (ps_ret (pv 5))))), ?_⟩
    refine ⟨_, rfl, _, rfl, _, _, rfl, rfl, _, rfl, n + f, n, rfl, by omega, by omega, fun H1 s1 => ⟨_, rfl, _, rfl, u, n, rfl, by omega, by omega, fun H2 s2 => ?_⟩⟩
    have hw := ch_pos hnu
    have he := ch_pos (show n ≤ n + f by omega)
    have hw2 : ch u n < 2 ^ 2001 := Nat.lt_of_lt_of_le (ch_lt u n) (Nat.pow_le_pow_right (by decide) (by omega))
    generalize ch u n = w at *
    generalize ch (n + f) n = e at *
    have s3 := s1.trans s2
    refine ⟨_, _, _, rfl, ?_⟩
    refine ⟨fun m σ H' => ∃ t : Nat, σ = [some (.int (u : Int)), some (.int (n : Int)), some (.int (f : Int)), some (.int ((2 ^ t * e : Nat) : Int)), some (.int (w : Int)), some (.int (t : Int))] ∧ H' = H2 ∧ m = lb w e - t ∧ t ≤ lb w e, ⟨_, 0, ?_, rfl, rfl, Nat.zero_le _⟩, fun m σ H' hW => ?_⟩
    · rw [Nat.pow_zero, Nat.one_mul]
      rfl
    · obtain ⟨t, rfl, rfl, rfl, ht⟩ := hW
      refine ⟨_, rfl, _, rfl, _, _, rfl, rfl, _, rfl, ite2 (fun ha => ?_) (fun ha => ?_)⟩
      · have hlt : 2 ^ t * e < w := Int.ofNat_lt.mp (of_decide_eq_true ha)
        have ht2 : t < lb w e := by
          refine Nat.lt_of_not_le fun z => ?_
          have := (ceil_bits he hw t).mp z
          omega
        refine ⟨fun σ' H2' => σ' = [some (.int (u : Int)), some (.int (n : Int)), some (.int (f : Int)), some (.int ((2 ^ (t + 1) * e : Nat) : Int)), some (.int (w : Int)), some (.int ((t + 1 : Nat) : Int))] ∧ H2' = H', fun σ' H2' hN => ⟨_, (by omega : lb w e - (t + 1) < lb w e - t), t + 1, hN.1, hN.2, rfl, ht2⟩, ?_⟩
        refine ⟨_, rfl, 2, _, rfl, rfl, cmulx (n := 2) (a := 2) (b := 2001) (by decide) (Nat.lt_trans hlt hw2) (by decide), _, rfl, _, 1, rfl, rfl, _, _, rfl, ?_, rfl⟩
        have e2 : (2 : Int) * ((2 ^ t * e : Nat) : Int) = ((2 ^ (t + 1) * e : Nat) : Int) := by
          rw [Nat.pow_succ, Nat.mul_comm (2 ^ t) 2, Nat.mul_assoc, Int.natCast_mul 2]
          rfl
        show [some (V.int (u : Int)), some (V.int (n : Int)), some (V.int (f : Int)), some (V.int ((2 : Int) * ((2 ^ t * e : Nat) : Int))), some (V.int (w : Int)), some (V.int ((t : Int) + 1))] = _
        rw [e2]
        rfl
      · have hle : w ≤ 2 ^ t * e := Nat.le_of_not_lt fun z => ha (decide_eq_true (Int.ofNat_lt.mpr z))
        have et : t = lb w e := Nat.le_antisymm ht ((ceil_bits he hw t).mpr hle)
        subst et
        exact ⟨_, rfl, q _ s3⟩
theorem ok_law (T : Top K mg) (c__law_well : CalD P w K mg base 1 "_law_well" s__law_well ["script", "place"] (spWell K)) (c__law_dip : CalD P w K mg base 1 "_law_dip" s__law_dip ["well", "many"] (spDip)) (c__law_least : CalD P w K mg base 2 "_law_least" s__law_least ["u", "n", "f"] (spLeastL)) (c_least_bits : CalD P w K mg base 4 "least_bits" s_least_bits ["u", "n", "f"] (spLeastP)) (c__law_same : CalD P w K mg base 7 "_law_same" s__law_same ["told", "due"] (spSame K 6)) (c_ways : CalD P w K mg base 3 "ways" s_ways ["k", "n"] (spWaysP)) : CalD P w K mg base 8 "law" s_law ["script"] (spLawT K tf) := by
  refine cal_mk T.d_law sc_law (fun _ _ _ _ _ _ us hl => match us, hl with | [_], _ => rfl) (fun vs H Q E h => ?_) (fun f cdv A outer s H vs Q E hr h => ?_)
  · obtain ⟨l, ns, rfl, hS, hlen, _, q⟩ := h
    rfl
  · obtain ⟨l, ns, rfl, hS, hlen, _, q⟩ := h
    refine ⟨_, (pss_cons (ps_for PassesOwn.never rfl (pi_range1 (by rfl) T.z_range (pa_cons (pe_callB (call_max2 rfl) (by rfl) T.z_max (by decide +kernel) (pa_cons pe_int (pa_cons (pe_callB (call_min2 rfl) (by rfl) T.z_min (by decide +kernel) (pa_cons pe_int (pa_cons (pe_callB call_len_seq (by rfl) T.z_len PySem.boot_len (pa_cons (pv 0) pa_nil)) pa_nil))) pa_nil))) pa_nil)) (pg_name (i := 1) sc_law.nd rfl (Or.inl rfl)) (pss_cons (ps_set (i := 2) sc_law.nd rfl (Or.inl rfl) (pe_f c__law_well hr (by omega) (by rfl) (pa_cons (pv 0) (pa_cons (pv 1) pa_nil))))
  (pss_one (ps_for PassesOwn.never rfl (pi_range1 (by rfl) T.z_range (pa_cons pe_int pa_nil)) (pg_name (i := 3) sc_law.nd rfl (Or.inl rfl)) (C8.pss_cut (ps_set (i := 4) sc_law.nd rfl (Or.inl rfl) (pe_f c__law_dip hr (by omega) (by rfl) (pa_cons (pv 2) (pa_cons (pe_ifExp (PW.pt (pw_and (pt_cmpR op_eq (pe_op op_add (pv 1) (pv 3)) pe_int (nomark _)) (pw_and1 (pt_cmpR op_eq (pe_f c__law_dip hr (by omega) (by rfl) (pa_cons (pv 2) (pa_cons pe_int pa_nil))) pe_int (nomark _))))) pe_int pe_int) pa_nil))))
  (pss_cons (ps_set (i := 5) sc_law.nd rfl (Or.inl rfl) (pe_f c__law_dip hr (by omega) (by rfl) (pa_cons (pv 2) (pa_cons (pe_op op_add (pv 4) pe_int) pa_nil))))
  (C8.pss_cut (ps_set (i := 6) sc_law.nd rfl (Or.inl rfl) (pe_ix ix_list (pe_lst (pa_cons pe_int (pa_cons (pe_f c__law_dip hr (by omega) (by rfl) (pa_cons (pv 2) (pa_cons (pe_op op_add (pe_op op_sub (pv 4) (pv 5)) pe_int) pa_nil))) (pa_cons (pe_op op_sub (pv 4) (pv 5)) (pa_cons (pe_op op_add (pe_op op_sub (pv 4) (pv 5)) (pe_f c__law_dip hr (by omega) (by rfl) (pa_cons (pv 2) (pa_cons pe_int pa_nil)))) (pa_cons (pe_f c__law_dip hr (by omega) (by rfl) (pa_cons (pv 2) (pa_cons pe_int pa_nil))) pa_nil)))))) (pe_f c__law_dip hr (by omega) (by rfl) (pa_cons (pv 2) (pa_cons pe_int pa_nil))) (fun _ _ => rfl)))
  (pss_cons (ps_set (i := 6) sc_law.nd rfl (Or.inl rfl) (pe_callB (call_min3Nu rfl) (by rfl) T.z_min (by decide +kernel) (pa_cons (pv 6) (pa_cons pe_int (pa_cons (pe_op op_sub pe_int (pv 5)) pa_nil)))))
  (pss_cons (ps_par (i := 7) (j := 8) rfl sc_law.nd rfl rfl (by decide) rfl rfl (pa_cons (pe_f c__law_least hr (by omega) (by rfl) (pa_cons (pv 4) (pa_cons (pv 5) (pa_cons (pv 6) pa_nil)))) (pa_cons (pe_f c__law_least hr (by omega) (by rfl) (pa_cons (pv 4) (pa_cons (pv 5) (pa_cons (pe_op op_add (pv 6) pe_int) pa_nil)))) pa_nil)) (by rfl))
  (pss_cons (ps_set (i := 9) sc_law.nd rfl (Or.inl rfl) (pe_lst (pa_cons (pe_f c_least_bits hr (by omega) (by rfl) (pa_cons (pv 4) (pa_cons (pv 5) (pa_cons (pv 6) pa_nil)))) (pa_cons (pe_k0 ["f", "n", "u"] [2, 1, 0] (fun _ _ _ _ _ _ ws hl => match ws, hl with | [_, _, _], _ => rfl) c_least_bits hr (by omega) (by rfl) (pk_cons (pv 6) (pk_cons (pv 5) (pk_cons (pv 4) pk_nil)))) (pa_cons (pe_f c_least_bits hr (by omega) (by rfl) (pa_cons (pv 4) (pa_cons (pv 5) (pa_cons (pe_op op_add (pv 6) pe_int) pa_nil)))) pa_nil)))))
  (pss_cons (ps_if (pt_not (pt_val (pe_f c__law_same hr (by omega) (by rfl) (pa_cons (pv 9) (pa_cons (pe_lst (pa_cons (pv 7) (pa_cons (pv 7) (pa_cons (pv 8) pa_nil)))) pa_nil))))) (pss_one (ps_ret pe_bl)) pss_nil)
  (pss_cons (ps_set (i := 10) sc_law.nd rfl (Or.inl rfl) (pe_f c_ways hr (by omega) (by rfl) (pa_cons (pe_op op_add (pv 5) (pv 6)) (pa_cons (pv 5) pa_nil))))
  (pss_cons (ps_for PassesOwn.never rfl (pi_range1 (by rfl) T.z_range (pa_cons (pv 7) pa_nil)) (pg_name (i := 11) sc_law.nd rfl (Or.inl rfl)) (pss_cons (ps_if (pt_cmpR op_ge (pv 10) (pe_f c_ways hr (by omega) (by rfl) (pa_cons (pv 4) (pa_cons (pv 5) pa_nil))) (nomark _)) (pss_one (ps_ret pe_bl)) pss_nil)
  (pss_one (ps_set (i := 10) sc_law.nd rfl (Or.inl rfl) (pe_op op_mulX pe_int (pv 10))))))
  (pss_one (ps_if (PW.pt (pw_or (pt_cmpR op_lt (pv 10) (pe_f c_ways hr (by omega) (by rfl) (pa_cons (pv 4) (pa_cons (pv 5) pa_nil))) (nomark _)) (pw_or1 (pt_cmpR op_gt (pv 8) (pv 7) (nomark _))))) (pss_one (ps_ret pe_bl)) pss_nil)))))))))))))))
  (pss_one (ps_ret pe_bl))), ?_⟩
    have hl2 : (ns.map V.int).length ≤ 63 := by
      rw [List.length_map]
      exact hlen
    refine ⟨_, rfl, l, _, rfl, .inl hS, _, _, rfl, ?_⟩
    generalize hg : (if ((ns.map V.int).length : Int) < 8 then ((ns.map V.int).length : Int) else 8) = g
    have hg2 : 0 ≤ g ∧ g ≤ 63 := by
      rw [← hg]
      split <;> omega
    refine ⟨1, g, rfl, ?_⟩
    generalize hg3 : (if g > 1 then g else 1) = g3
    have hg4 : 0 ≤ g3 ∧ g3 ≤ 63 := by
      rw [← hg3]
      split <;> omega
    refine ⟨g3, rfl, by omega, by omega, ?_⟩
    refine for_range (lo := 0) (n := g3.toNat) (fun i σ H' => ∃ z1 z2 z3 z4 z5 z6 z7 z8 z9 z10 z11 : Option V, σ = [some (.ref l), z1, z2, z3, z4, z5, z6, z7, z8, z9, z10, z11] ∧ Same H H') ⟨none, none, none, none, none, none, none, none, none, none, none, rfl, Same.refl H⟩ (fun i σ H' hi hP => ?_) (fun σ H' hP => ?_)
    · obtain ⟨z1, z2, z3, z4, z5, z6, z7, z8, z9, z10, z11, rfl, sP⟩ := hP
      rw [Int.zero_add]
      refine ⟨_, rfl, _, rfl, l, ns, i, rfl, Same.seq sP hS, by omega, fun H1 p s1 np hW => ?_⟩
      have sH1 := sP.trans s1
      have npH : H p = none := by
        cases e : H p with
        | none => rfl
        | some o => exact absurd (sP p o e) (by rw [np]; exact nofun)
      refine ⟨4, rfl, by decide, by decide, ?_⟩
      refine for_range (lo := 0) (n := (4 : Int).toNat) (fun t σ H' => ∃ z3 z4 z5 z6 z7 z8 z9 z10 z11 : Option V, σ = [some (.ref l), some (.int (i : Int)), some (.ref p), z3, z4, z5, z6, z7, z8, z9, z10, z11] ∧ Off p H1 H' ∧ WellAt H' p (9 * t)) ⟨z3, z4, z5, z6, z7, z8, z9, z10, z11, rfl, Off.refl p H1, hW⟩ (fun t σ H2 ht hQ => ?_) (fun σ H2 hQ => ?_)
      · obtain ⟨z3, z4, z5, z6, z7, z8, z9, z10, z11, rfl, oQ, wQ⟩ := hQ
        have ht4 : t < 4 := ht
        rw [Int.zero_add]
        refine ⟨fun σ' H' => ∃ u : Nat, u ≤ 1000 ∧ σ' = [some (V.ref l), some (V.int (i : Int)), some (V.ref p), some (V.int (t : Int)), some (V.int (u : Int)), z5, z6, z7, z8, z9, z10, z11] ∧ Off p H1 H' ∧ WellAt H' p (9 * t + 2), ?_, fun σ' H3 hM => ?_⟩
        · refine ⟨_, rfl, _, rfl, _, rfl, _, _, rfl, rfl, rfl, _, rfl, ite2 (fun _ => ?_) (fun _ => ?_)⟩
          · refine ⟨_, rfl, p, 3, _, rfl, wQ, by omega, by decide, by decide, fun c H3 hc o3 w3 => ⟨rfl, _, rfl, ite2 (fun _ => ?_) (fun _ => ?_)⟩⟩
            · exact ⟨p, 1001, _, rfl, w3, by omega, by decide, by decide, fun u H4 hu o4 w4 => ⟨u, by omega, rfl, (oQ.trans o3).trans o4, w4⟩⟩
            · exact ⟨p, 41, _, rfl, w3, by omega, by decide, by decide, fun u H4 hu o4 w4 => ⟨u, by omega, rfl, (oQ.trans o3).trans o4, w4⟩⟩
          · exact ⟨p, 41, _, rfl, wQ, by omega, by decide, by decide, fun u H4 hu o4 w4 => ⟨u, by omega, rfl, oQ.trans o4, w4.mono (by omega)⟩⟩
        obtain ⟨u, hu, rfl, oU, wU⟩ := hM
        clear oQ wQ
        refine ⟨_, rfl, _, rfl, _, 1, rfl, rfl, p, u + 1, _, rfl, wU, by omega, by omega, by omega, fun n H4 hn o4 w4 => ?_⟩
        have oN := oU.trans o4
        clear oU wU o4
        refine ⟨fun σ' H' => ∃ f : Nat, σ' = [some (V.ref l), some (V.int (i : Int)), some (V.ref p), some (V.int (t : Int)), some (V.int (u : Int)), some (V.int (n : Int)), some (V.int (f : Int)), z7, z8, z9, z10, z11] ∧ Off p H1 H' ∧ WellAt H' p (9 * t + 9), ?_, fun σ' H5 hM => ?_⟩
        · have e1 : (u : Int) - (n : Int) + 1 = ((u - n + 1 : Nat) : Int) := by omega
          have e2 : (u : Int) - (n : Int) = ((u - n : Nat) : Int) := by omega
          refine ⟨_, rfl, _, rfl, _, rfl, _, _, rfl, rfl, _, 1, rfl, rfl, p, u - n + 1, _, congrArg (fun z => [V.ref p, V.int z]) e1, w4, by omega, by omega, by omega, fun t1 Ha h1 oa wa => ?_⟩
          refine ⟨_, rfl, _, rfl, _, _, rfl, rfl, _, rfl, _, rfl, _, _, rfl, rfl, _, rfl, p, 9, _, rfl, wa, by omega, by decide, by decide, fun t2 Hb h2 ob wb => ?_⟩
          refine ⟨_, _, rfl, rfl, _, rfl, p, 4, _, rfl, wb, by omega, by decide, by decide, fun t3 Hc h3 oc wc => ⟨(by show 5 ≤ sizeLine; decide), fun pl hpl => ?_⟩⟩
          have npl := wc.ne hpl
          have oC := ((oN.trans oa).trans ob).trans (oc.trans (Off.of (same_upd (o := HO.lst [V.int 0, V.int (t1 : Int), V.int ((u : Int) - (n : Int)), V.int ((u : Int) - (n : Int) + (t2 : Int)), V.int (t3 : Int)]) hpl)))
          have wC := wc.same (same_upd (o := HO.lst [V.int 0, V.int (t1 : Int), V.int ((u : Int) - (n : Int)), V.int ((u : Int) - (n : Int) + (t2 : Int)), V.int (t3 : Int)]) hpl)
          have eC : upd Hc pl (.lst [V.int 0, V.int (t1 : Int), V.int ((u : Int) - (n : Int)), V.int ((u : Int) - (n : Int) + (t2 : Int)), V.int (t3 : Int)]) pl = some (.lst [V.int 0, V.int (t1 : Int), V.int ((u : Int) - (n : Int)), V.int ((u : Int) - (n : Int) + (t2 : Int)), V.int (t3 : Int)]) := upd_same
          refine ⟨_, rfl, p, 5, _, rfl, wC, by omega, by decide, by decide, fun j Hd hj od wd => ?_⟩
          have eD := od pl _ npl eC
          obtain ⟨f, hat⟩ : ∃ f : Nat, atI [V.int 0, V.int (t1 : Int), V.int ((u : Int) - (n : Int)), V.int ((u : Int) - (n : Int) + (t2 : Int)), V.int (t3 : Int)] (j : Int) = some (.int (f : Int)) := by
            have h5 : j = 0 ∨ j = 1 ∨ j = 2 ∨ j = 3 ∨ j = 4 := by omega
            rcases h5 with rfl | rfl | rfl | rfl | rfl
            · exact ⟨0, rfl⟩
            · exact ⟨t1, rfl⟩
            · exact ⟨u - n, by rw [← e2]; rfl⟩
            · exact ⟨u - n + t2, by rw [Int.natCast_add, ← e2]; rfl⟩
            · exact ⟨t3, rfl⟩
          exact ⟨pl, _, (j : Int), _, rfl, rfl, SqL.of eD, hat, f, rfl, oC.trans od, wd.mono (by omega)⟩
        obtain ⟨f0, rfl, oF, wF⟩ := hM
        refine ⟨_, rfl, _, rfl, _, _, rfl, rfl, _, _, _, _, rfl, min3_int _ _ _, ?_⟩
        obtain ⟨f, ef⟩ := Int.eq_ofNat_of_zero_le (show 0 ≤ min (min (f0 : Int) 999) (1000 - (n : Int)) by omega)
        have hnf : n + f ≤ 1000 := by omega
        have hnu : n ≤ u := by omega
        show tSeq _ _ _ [some (V.ref l), some (V.int (i : Int)), some (V.ref p), some (V.int (t : Int)), some (V.int (u : Int)), some (V.int (n : Int)), some (V.int (min (min (f0 : Int) 999) (1000 - (n : Int)))), z7, z8, z9, z10, z11] H5
        rw [ef]
        clear ef oN w4 hn
        refine ⟨_, rfl, _, rfl, _, rfl, u, n, f, rfl, hnu, by omega, by omega, fun H6 s6 => ?_⟩
        refine ⟨_, rfl, _, rfl, _, rfl, _, 1, rfl, rfl, u, n, f + 1, rfl, hnu, by omega, by omega, fun H7 s7 => ?_⟩
        refine ⟨_, _, rfl, ?_⟩
        have hw := ch_pos hnu
        have he := ch_pos (show n ≤ n + f by omega)
        have hm : lb (ch u n) (ch (n + (f + 1)) n) ≤ lb (ch u n) (ch (n + f) n) := lb_mono he hw (ch_mono (n + f) n)
        have hd1 : lb (ch u n) (ch (n + f) n) ≤ u + 1 := lb_small he hw (ch_lt u n)
        refine ⟨_, rfl, _, rfl, _, rfl, u, n, f, rfl, hnu, by omega, by omega, _, rfl, _, rfl, _, rfl, rfl, u, n, f, rfl, hnu, by omega, by omega, _, rfl, _, rfl, _, rfl, _, 1, rfl, rfl, u, n, f + 1, rfl, hnu, by omega, by omega, (by show 3 ≤ sizeLine; decide), fun p3 hp3 => ?_⟩
        refine ⟨_, rfl, _, rfl, _, rfl, _, rfl, (by show 3 ≤ sizeLine; decide), fun p4 hp4 => ?_⟩
        have t3 := two_i (K := K) [(lb (ch u n) (ch (n + f) n) : Int), (lb (ch u n) (ch (n + f) n) : Int), (lb (ch u n) (ch (n + (f + 1)) n) : Int)] [(lb (ch u n) (ch (n + f) n) : Int), (lb (ch u n) (ch (n + f) n) : Int), (lb (ch u n) (ch (n + (f + 1)) n) : Int)] rfl (upd_same (H := H7) (a := p3)) hp4
        refine ⟨_, _, _, rfl, t3.1, t3.2, (fitI 4 _ (by show 3 < 1000000; decide)).1, fun H8 s8 => ⟨_, rfl, iteF ?_⟩⟩
        have s8' : Same H5 H8 := s6.trans (s7.trans ((same_upd hp3).trans ((same_upd hp4).trans s8)))
        have o8 := oF.trans (Off.of s8')
        have w8 := wF.same s8'
        clear t3 s8 s6 s7 s8' hp3 hp4 oF wF
        have lo := lb_ok he hw
        have least := fun b (h : b < lb (ch u n) (ch (n + f) n)) => lb_least he hw h
        have he2 := ch_lt (n + f) n
        have hw2 := ch_lt u n
        generalize lb (ch u n) (ch (n + (f + 1)) n) = more at *
        generalize lb (ch u n) (ch (n + f) n) = due at *
        refine ⟨_, rfl, _, rfl, _, _, rfl, rfl, _, rfl, n + f, n, rfl, by omega, ?_⟩
        refine ⟨_, rfl, (due : Int), rfl, by omega, by omega, ?_⟩
        have ed : ((due : Nat) : Int).toNat = due := Int.toNat_natCast _
        refine for_range (lo := 0) (n := ((due : Nat) : Int).toNat) (fun b σ H' => ∃ z9 z11 : Option V, σ = [some (V.ref l), some (V.int (i : Int)), some (V.ref p), some (V.int (t : Int)), some (V.int (u : Int)), some (V.int (n : Int)), some (V.int (f : Int)), some (V.int (due : Int)), some (V.int (more : Int)), z9, some (V.int ((2 ^ b * ch (n + f) n : Nat) : Int)), z11] ∧ H' = H8) ⟨_, z11, (by rw [Nat.pow_zero, Nat.one_mul]; rfl), rfl⟩ (fun b σ H' hb hR => ?_) (fun σ H' hR => ?_)
        · obtain ⟨z9, z11, rfl, rfl⟩ := hR
          have lt := least b (by omega)
          refine ⟨_, rfl, _, rfl, _, rfl, u, n, rfl, by omega, _, _, rfl, rfl, _, rfl, ite2 (fun h => ?_) (fun _ => ?_)⟩
          · exact absurd (of_decide_eq_true h) (by omega)
          · refine ⟨_, rfl, 2, _, rfl, rfl, cmulx (n := 2) (a := 2) (b := u + 1) (by decide) (Nat.lt_trans lt hw2) (by omega), z9, some (.int (0 + (b : Int))), ?_, rfl⟩
            have e2 : (2 : Int) * ((2 ^ b * ch (n + f) n : Nat) : Int) = ((2 ^ (b + 1) * ch (n + f) n : Nat) : Int) := by
              rw [Nat.pow_succ, Nat.mul_comm (2 ^ b) 2, Nat.mul_assoc, Int.natCast_mul 2]
              rfl
            rw [← e2]
            rfl
        · obtain ⟨z9, z11, rfl, rfl⟩ := hR
          rw [ed]
          refine ⟨_, rfl, _, rfl, _, rfl, u, n, rfl, by omega, _, _, rfl, rfl, _, rfl, ite2 (fun h => ?_) (fun _ => ?_)⟩
          · exact absurd (of_decide_eq_true h) (by omega)
          · refine ⟨_, rfl, _, rfl, _, _, rfl, rfl, _, rfl, ite2 (fun h => ?_) (fun _ => ?_)⟩
            · exact absurd (of_decide_eq_true h) (by omega)
            · exact ⟨_, _, _, _, _, _, _, _, _, rfl, o8, w8.mono (by omega)⟩
      · obtain ⟨z3, z4, z5, z6, z7, z8, z9, z10, z11, rfl, oQ, wQ⟩ := hQ
        exact ⟨_, _, _, _, _, _, _, _, _, _, _, rfl, Off.to_same sH1 npH oQ⟩
    · exact q _
end
/-! ### the head -/
def fn : List He.DefD := [⟨("is_integer", none), "is_integer", "is_integer", defArgs s_is_integer, defBody s_is_integer, defScope s_is_integer, [], []⟩,
  ⟨("check_number", none), "check_number", "check_number", defArgs s_check_number, defBody s_check_number, defScope s_check_number, [], []⟩,
  ⟨("ways", none), "ways", "ways", defArgs s_ways, defBody s_ways, defScope s_ways, [], []⟩,
  ⟨("least_bits", none), "least_bits", "least_bits", defArgs s_least_bits, defBody s_least_bits, defScope s_least_bits, [], []⟩,
  ⟨("_law_well", none), "_law_well", "_law_well", defArgs s__law_well, defBody s__law_well, defScope s__law_well, [], []⟩,
  ⟨("_law_dip", none), "_law_dip", "_law_dip", defArgs s__law_dip, defBody s__law_dip, defScope s__law_dip, [], []⟩,
  ⟨("_law_same", none), "_law_same", "_law_same", defArgs s__law_same, defBody s__law_same, defScope s__law_same, [], []⟩,
  ⟨("_law_ways", none), "_law_ways", "_law_ways", defArgs s__law_ways, defBody s__law_ways, defScope s__law_ways, [], []⟩,
  ⟨("_law_least", none), "_law_least", "_law_least", defArgs s__law_least, defBody s__law_least, defScope s__law_least, [], []⟩,
  ⟨("law", none), "law", "law", defArgs s_law, defBody s_law, defScope s_law, [], []⟩]
def fa : List He.Fa := [.glo "is_integer", .glo "check_number", .glo "ways", .glo "least_bits", .glo "_law_well", .glo "_law_dip", .glo "_law_same", .glo "_law_ways", .glo "_law_least", .glo "law", .free "abs", .free "bool", .free "int", .free "isinstance", .free "len", .free "list", .free "max", .free "min", .free "range", .free "str", .free "tuple"]
abbrev R : PySem.W.OpenRow := PySem.W.OpenLaw.row PySem.Challenge.rw_keytellers_k39_whole_least_bits
abbrev tq : List He.Defn := tf.map fun x => (x, none)
abbrev exF : PySem.W.Frag → Bool := (fun K => He.eqO (PySem.W.nsIn K mainGlobals "comb") (some (some (.builtin "math.comb"))))
abbrev hk : PySem.W.Hook := He.hookX 4 fa fn [] tq exF
def ob (s : PySem.W.SharedT) : He.AlX := He.obsX 4 fa fn [] tq exF (HandSHeadRun.getT s)
theorem ob_eq (s : PySem.W.SharedT) : ob s = hk.obs s.abs := He.obsX_eq (HandSHeadRun.getT_eq s)
def loose : List PySem.Str := (["TellError", "InvalidNumber", "is_integer", "check_number", "ways", "least_bits", "_law_well", "_law_dip", "_law_same", "_law_ways", "_law_least"] : List PySem.Str)
theorem run (w : World) : HandSHeadRun.RunEqI R (PySem.W.view R.prog [0, 16]) hk ob 2000 loose w := by
  unfold HandSHeadRun.RunEqI
  kernel_rfl
theorem top_of {K : PySem.W.Frag} {h : Heap} {mg : Str → Option Value} (X : K.In h) (G : h.Ns mainGlobals mg) (c : He.SaysD fa fn K) (hx : exF K = true) : Top K mg where
  d_is_integer := here_mk X G c 0 0 rfl rfl
  d_check_number := here_mk X G c 1 1 rfl rfl
  d_ways := here_mk X G c 2 2 rfl rfl
  d_least_bits := here_mk X G c 3 3 rfl rfl
  d__law_well := here_mk X G c 4 4 rfl rfl
  d__law_dip := here_mk X G c 5 5 rfl rfl
  d__law_same := here_mk X G c 6 6 rfl rfl
  d__law_ways := here_mk X G c 7 7 rfl rfl
  d__law_least := here_mk X G c 8 8 rfl rfl
  d_law := here_mk X G c 9 9 rfl rfl
  z_abs := He.free_ok X G (c.fact 10 (f := .free "abs") rfl)
  z_bool := He.free_ok X G (c.fact 11 (f := .free "bool") rfl)
  z_int := He.free_ok X G (c.fact 12 (f := .free "int") rfl)
  z_isinstance := He.free_ok X G (c.fact 13 (f := .free "isinstance") rfl)
  z_len := He.free_ok X G (c.fact 14 (f := .free "len") rfl)
  z_list := He.free_ok X G (c.fact 15 (f := .free "list") rfl)
  z_max := He.free_ok X G (c.fact 16 (f := .free "max") rfl)
  z_min := He.free_ok X G (c.fact 17 (f := .free "min") rfl)
  z_range := He.free_ok X G (c.fact 18 (f := .free "range") rfl)
  z_str := He.free_ok X G (c.fact 19 (f := .free "str") rfl)
  z_tuple := He.free_ok X G (c.fact 20 (f := .free "tuple") rfl)
  m_comb := PySem.W.mg_of X G (He.eqO_ok hx)
theorem law_ok {P : Program} {w : World} {K : PySem.W.Frag} {mg : Str → Option Value} {base : Heap} (T : Top K mg) : CalG P w K mg base 8 "law" s_law ["script"] (spLawT K tf) := by
  have c_is_integer := ok_is_integer (P := P) (w := w) (base := base) T 
  have c_check_number := ok_check_number (P := P) (w := w) (base := base) T c_is_integer
  have c_ways := ok_ways (P := P) (w := w) (base := base) T c_check_number
  have c_least_bits := ok_least_bits (P := P) (w := w) (base := base) T c_check_number c_ways
  have c__law_well := ok__law_well (P := P) (w := w) (base := base) T 
  have c__law_dip := ok__law_dip (P := P) (w := w) (base := base) T 
  have c__law_same := ok__law_same (P := P) (w := w) (base := base) T 6
  have c__law_ways := ok__law_ways (P := P) (w := w) (base := base) T 
  have c__law_least := ok__law_least (P := P) (w := w) (base := base) T c__law_ways
  exact CalG.of (ok_law T c__law_well c__law_dip c__law_least c_least_bits c__law_same c_ways)
end K39
open PySem PySem.W PySem.Calls PyProof.Rows
theorem PySem.Challenge.cw_keytellers_k39_whole_least_bits_holds : PySem.Challenge.rw_keytellers_k39_whole_least_bits.Holds := by
  w_on; o_law
  refine HandSHeadRun.head_imp (r := OpenLaw.row PySem.Challenge.rw_keytellers_k39_whole_least_bits) (q := view (OpenLaw.row PySem.Challenge.rw_keytellers_k39_whole_least_bits).prog [0, 16]) (H := K39.hk) (ob := K39.ob) (M := 2000) (loose := K39.loose) (d := HandSHeadRun.topDef (OpenLaw.row PySem.Challenge.rw_keytellers_k39_whole_least_bits).prog 16) (kwd := []) K39.ob_eq
    K39.run (by kernel_rfl) (by kernel_rfl) (by kernel_rfl) (by rfl) (by first | assumption | decide +kernel) (by decide +kernel) ⟨rfl, rfl, rfl, rfl, rfl, by decide +kernel⟩ ?hw ?hc
  case hw => w_witness2
  case hc =>
    refine Ky.walk_ofG (l := PySem.Challenge.rw_keytellers_k39_whole_least_bits) (n := 63) (k := 8) (x := "script") rfl (by decide) (by kernel_rfl) ⟨rfl, by decide, by decide⟩ ?F
    intro w mg fa h Y G hmg0
    obtain ⟨K, KX, c⟩ := Y
    have hmg : mg ("law" : PySem.Str) = some (.ref fa) := by
      have e : (HandSHeadRun.topDef (OpenLaw.row PySem.Challenge.rw_keytellers_k39_whole_least_bits).prog 16).name = ("law" : PySem.Str) := by kernel_rfl
      rw [← e]
      exact hmg0
    exact Ky.law_finG (P := (PySem.Challenge.rw_keytellers_k39_whole_least_bits).prog) (w := w) KX G c hmg (K39.top_of KX G c.t.d c.more).d_law (fun _ _ _ _ _ _ us hl => match us, hl with | [_], _ => rfl) (fun base hB => K39.law_ok (base := base) (K39.top_of KX G c.t.d c.more))
