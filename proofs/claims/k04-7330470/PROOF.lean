import PyProof.Rows.All
import Wide.All
import OpenK.AllK
import Wide.FinOn
import KE.KStateDown
import Lean
import HandS.ForMost
import HandS.Codes
import HandS.Defaults
import HandS.IsInst
import HandS.Wide
import HandS.WideBits
import HandS.Flow
import HandS.Deep
import HandS.Style
import HandS.Ends
import HandS.Small
import HandS.TupAny
import HandS.SortInts
import HandS.Head0
import HandS.Head1
import HandS.Head2
import HandS.HeadEnd
import HandS.HeadHook1
import HandS.HeadHook2
import HandS.AnyAll
import HandS.GenOver
import HandS.GenBody
import HandS.GenList
import HandS.GenYield
import HandS.Comp
import HandS.EndTab
import HandS.HeadHook3
import HandS.HeadHook4
import HandS.HeadWalk
import HandS.NestedK
import PyProof.Rows.ReprR
import PyProof.ReprBulk
import PyProof.Rows.RegStrFacts
import HandS.Star
import HandS.SetFor
import HandS.Strs
import KE.DataMinMax
import HandS.Conv
import KE.KRevSl
import PySem.Challenge.RW_keytellers_k04_whole_keys_more_and_less
set_option Elab.async false
set_option linter.all false
set_option maxRecDepth 100000
set_option maxHeartbeats 4000000
/-! ### what my proofs share: bundles of a def, calls by names alone, decks, data -/
namespace Ky
open PySem PySem.Spec PyProof.Rows L2
/-- a def of the text as it stands behind the top -/
structure Here (K : PySem.W.Frag) (mg : Str → Option Value) (x : Str) (st : Stmt) : Prop where
  ex : ∃ (f : Addr) (fd : FuncData), FunD K x x (defArgs st) (defBody st) (defScope st) [] [] f fd ∧ mg x = some (.ref f)
/-- .. and it keeps a promise -/
structure CalD (P : Program) (w : World) (K : PySem.W.Frag) (mg : Str → Option Value) (base : Heap) (k : Nat) (x : Str) (st : Stmt) (ps : List Str) (sp : Sp) : Prop where
  ex : ∃ (f : Addr) (fd : FuncData), FnOk P w K mg base CX0 k f fd ps sp ∧ FunD K x x (defArgs st) (defBody st) (defScope st) [] [] f fd ∧ mg x = some (.ref f) ∧ Binds K fd ps []
section
variable {P : Program} {w : World} {K : PySem.W.Frag} {mg : Str → Option Value} {base : Heap} {k : Nat} {x : Str} {st : Stmt} {ps : List Str} {sp : Sp}
theorem cal_mk {N : List Str} (D : Here K mg x st) (S : FnScope N ps (defScope st))
    (hb : ∀ (kV doc pm : Value) (an : Option Addr) (cdv ct : Value) (us : List Value), us.length = ps.length → bindArgs (PySem.W.fnOf x x (defArgs st) (defBody st) (defScope st) .none kV doc pm an cdv ct) ⟨us, []⟩ = pure (ps.zip us))
    (len : ∀ vs H Q E, sp vs H Q E → vs.length = ps.length)
    (hbody : ∀ (f : Addr) (cdv : Value) (A : Around) (outer : List Env) (s : Shared) (H : Hp) (vs : List V) (Q : VK) (E : XK), Room k (A.deeper (envOfC x (defScope st) s.heap.objs.size f cdv)) → sp vs H Q E →
      ∃ t, PSs (cxOf CX0 P w K mg base N x (defScope st) f cdv A outer s H E).nox (defBody st) t ∧ t { nx := fun _ H' => Q .non H', rt := Q } (start N vs) H) : CalD P w K mg base (k + 1) x st ps sp := by
  obtain ⟨f, fd, F, g⟩ := D.ex
  refine ⟨f, fd, F.ok S len fun cdv A outer s H vs Q E hr h => ?_, F, g, F.bindsN hb⟩
  obtain ⟨t, h1, h2⟩ := hbody f cdv A outer s H vs Q E hr h
  exact ⟨t, h1.nox, h2⟩
end
theorem pe_f {X : Cx} {k j : Nat} {x : Str} {st : Stmt} {ps : List Str} {sp : Sp} {p pos : Pos} {e : Expr} {es : List Expr} {t : TA} (c : CalD X.prog X.w X.K X.mg X.base k x st ps sp) (hr : Room j X.A) (hk : k ≤ j) (hg : Gl X x) (ha : PA X (e :: es) t)
    (hdb : (x == ("__debug__" : Str)) = false := by decide) (he : starEach (e :: es) X.env = (false, eval e X.env) :: starEach es X.env := by rfl) (hpl : (backTo pos (starEach es X.env)).any (·.1) = false := by rfl) :
    PE X (.Call (.Name x p) (e :: es) [] pos) (tCall sp [] E0 t) := by
  obtain ⟨f, fd, F, D, hm, b⟩ := c.ex
  exact pe_call F (hr.mono hk) hg hm D.kp b .nil pass0 ha hdb he hpl
/-! ### f(k = v, ..), names alone -/
def permL {α : Type} (perm : List Nat) (zs : List α) : List α := perm.filterMap fun i => zs[i]?
theorem permL_rel {vs : List V} {us : List Value} (r : Vals vs us) : ∀ perm : List Nat, Vals (permL perm vs) (permL perm us)
  | [] => .nil
  | i :: is => by
    unfold permL
    rw [List.filterMap_cons, List.filterMap_cons]
    have ih := permL_rel r is
    cases e : vs[i]? with
    | none =>
      rw [r.none_of e]
      exact ih
    | some v =>
      obtain ⟨u, e2, r2⟩ := r.get e
      rw [e2]
      exact .cons r2 ih
def tCallP (n : Nat) (perm : List Nat) (sp : Sp) (tk : TA) : TE := fun σ H Q => tk σ H fun zs H2 => zs.length = n ∧ sp (permL perm zs) H2 Q E0
theorem pe_k0 {X : Cx} {k j : Nat} {x : Str} {st : Stmt} {ps : List Str} {sp : Sp} {p pos : Pos} {kws : List Keyword} {tk : TA} (ks : List Str) (perm : List Nat)
    (h : ∀ (kV doc pm : Value) (an : Option Addr) (cdv ct : Value) (ws : List Value), ws.length = ks.length → bindArgs (PySem.W.fnOf x x (defArgs st) (defBody st) (defScope st) .none kV doc pm an cdv ct) ⟨[], ks.zip ws⟩ = pure (ps.zip (permL perm ws)))
    (c : CalD X.prog X.w X.K X.mg X.base k x st ps sp) (hr : Room j X.A) (hk : k ≤ j) (hg : Gl X x) (hkw : PK X kws tk)
    (hall : (backToKw pos (keywordEach kws X.env)).all (·.1.isSome) = true := by rfl) (hks : (backToKw pos (keywordEach kws X.env)).filterMap (·.1) = ks := by rfl) (hdb : (x == ("__debug__" : Str)) = false := by decide)
    (hpl : ((backTo pos (starEach [] X.env)).any (·.1) || (backToKw pos (keywordEach kws X.env)).any (·.1.isNone)) = false := by rfl) :
    PE X (.Call (.Name x p) [] kws pos) (tCallP ks.length perm sp tk) := by
  obtain ⟨f, fd, F, D, hm, b⟩ := c.ex
  have kb : KBn X.K fd ps 0 ks (fun _ ws => permL perm ws) (fun _ zs => permL perm zs) := by
    obtain ⟨oc, od, dV, kV, doc, pm, an, cdv, ct, osl, rfl, lk, hcd, hD, hK⟩ := D.ex
    rcases hD with ⟨_, rfl⟩ | ⟨e, _⟩
    · refine ⟨fun s us ws _ l1 l2 => ?_, fun _ r => permL_rel r perm⟩
      have e := List.eq_nil_of_length_eq_zero l1
      subst e
      exact .of_eq (h kV doc pm an cdv ct ws l2)
    · exact absurd rfl e
  refine ⟨fun pins s σ H Q I hh => ?_⟩
  refine wpAny_Call_Name_kw (ld_glob I hg hm ?_ hdb)
  refine PySem.W.callWith_KW0 (h₀ := X.base) I.ok.mod.kin D.kp hall ?_ hpl
  refine thn (hkw.run pos pins s σ H _ I hh) fun ws s2 ⟨zs, H2, I2, rz, l2, q2⟩ => ⟨I2.kIn, ?_⟩
  rw [hks]
  exact run_fnN (us := []) (vs := []) (F.mono hk) hr kb pass0 I2 .nil rz rfl l2 q2
/-! ### the heap but for one object -/
def Off (a : Addr) (H H' : Hp) : Prop := ∀ b o, b ≠ a → H b = some o → H' b = some o
theorem Off.refl (a : Addr) (H : Hp) : Off a H H := fun _ _ _ h => h
theorem Off.trans {a : Addr} {H H1 H2 : Hp} (h : Off a H H1) (h2 : Off a H1 H2) : Off a H H2 := fun b o n e => h2 b o n (h b o n e)
theorem Off.of {a : Addr} {H H' : Hp} (h : Same H H') : Off a H H' := fun b o _ e => h b o e
theorem Off.upd (a : Addr) (H : Hp) (o : HO) : Off a H (upd H a o) := fun b u n e => by rw [upd_ne n]; exact e
theorem same_upd {H : Hp} {p : Addr} {o : HO} (h : H p = none) : Same H (upd H p o) := fun b x e => by
  rw [upd_ne (ne_of_none e h)]
  exact e
theorem Same.tupS {K : PySem.W.Frag} {H H' : Hp} {a : Addr} {xs : List V} (e : Same H H') (h : SqT K H a xs) : SqT K H' a xs := by
  rcases h with (h | ⟨o, h⟩) | h
  · exact .inl (.inl (e _ _ h))
  · exact .inl (.inr ⟨o, e _ _ h⟩)
  · exact .inr h
theorem log2_small {z : Int} (h : z.natAbs < 2 ^ 200) : z.natAbs.log2 < 9000 := Nat.lt_of_lt_of_le (PySem.Flt.log2_lt_of (by decide) h) (by decide)
/-! ### decks of drawn numbers -/
def DeckAt (H : Hp) (a : Addr) : Prop := ∃ x y : Int, H a = some (.lst [.int x, .int y]) ∧ 0 ≤ y ∧ y < 18446744073709551616
theorem DeckAt.upd (H : Hp) (a : Addr) (x : Int) {y : Int} (h0 : 0 ≤ y) (h1 : y < 18446744073709551616) : DeckAt (upd H a (.lst [.int x, .int y])) a := ⟨x, y, upd_same, h0, h1⟩
theorem DeckAt.same {H H' : Hp} {a : Addr} (h : DeckAt H a) (s : Same H H') : DeckAt H' a := by
  obtain ⟨x, y, e, h0, h1⟩ := h
  exact ⟨x, y, s _ _ e, h0, h1⟩
def spTake : Sp := fun vs H Q _ => ∃ (a : Addr) (m : Int), vs = [.ref a, .int m] ∧ DeckAt H a ∧ 0 < m ∧ m.natAbs.log2 < 9000 ∧
  ∀ (t x y : Int), 0 ≤ t → t < m → 0 ≤ y → y < 18446744073709551616 → Q (.int t) (upd H a (.lst [.int x, .int y]))
def spDeck (K : PySem.W.Frag) : Sp := fun vs H Q _ => ∃ (s : Addr) (ns : List Int) (j : Nat), vs = [.ref s, .int (j : Int)] ∧ SqL K H s (ns.map V.int) ∧ j < 1000000 ∧
  ∀ (H' : Hp) (p : Addr), Same H H' → H p = none → DeckAt H' p → Q (.ref p) H'
theorem em61 (z : Int) : (z % 2305843009213693951).natAbs < 2 ^ 61 := by
  have h1 := Int.emod_nonneg z (show (2305843009213693951 : Int) ≠ 0 by decide)
  have h2 := Int.emod_lt_of_pos z (show (0 : Int) < 2305843009213693951 by decide)
  omega
/-! ### data -/
mutual
theorem Dp.same {K : PySem.W.Frag} {H H' : Hp} (s : Same H H') : ∀ (d : PyData) (v : V), Dp K H v d → Dp K H' v d
  | .none, _, h => by cases h; exact .non
  | .bool b, _, h => by cases h; exact .bl b
  | .int i, _, h => by cases h; exact .int i
  | .str x, _, h => by cases h; exact .str x
  | .list ds, _, h => by
    cases h with
    | lst h1 h2 => exact .lst (s.seq h1) (DpAll.same s ds _ h2)
  | .tuple ds, _, h => by
    cases h with
    | tup h1 h2 => exact .tup (Same.tupS s h1) (DpAll.same s ds _ h2)
  | .dict _, _, h => nomatch h
theorem DpAll.same {K : PySem.W.Frag} {H H' : Hp} (s : Same H H') : ∀ (ds : List PyData) (vs : List V), DpAll K H vs ds → DpAll K H' vs ds
  | [], _, h => by cases h; exact .nil
  | d :: ds, _, h => by
    cases h with
    | cons h1 h2 => exact .cons (Dp.same s d _ h1) (DpAll.same s ds _ h2)
end
/-- of nesting below n, no dicts, lists and tuples of fewer than 2 ^ 62 items -/
def Fit : Nat → PyData → Prop
  | 0, _ => False
  | _ + 1, .none => True
  | _ + 1, .bool _ => True
  | _ + 1, .int _ => True
  | _ + 1, .str _ => True
  | n + 1, .list ds => ds.length < 4611686018427387904 ∧ ∀ e ∈ ds, Fit n e
  | n + 1, .tuple ds => ds.length < 4611686018427387904 ∧ ∀ e ∈ ds, Fit n e
  | _ + 1, .dict _ => False
theorem DpAll.get {K : PySem.W.Frag} {H : Hp} : ∀ (ds : List PyData) {vs : List V} {i : Nat} {d : PyData}, DpAll K H vs ds → ds[i]? = some d → ∃ v, vs[i]? = some v ∧ Dp K H v d
  | [], _, _, _, _, e => by simp at e
  | d0 :: ds, _, i, d, h, e => by
    cases h with
    | cons h1 h2 =>
      cases i with
      | zero =>
        have e2 := Option.some.inj (show some d0 = some d from e)
        subst e2
        exact ⟨_, rfl, h1⟩
      | succ i =>
        obtain ⟨v, e1, e2⟩ := DpAll.get ds (i := i) h2 (by simpa using e)
        exact ⟨v, by simpa using e1, e2⟩
theorem DpAll.length {K : PySem.W.Frag} {H : Hp} : ∀ (ds : List PyData) {vs : List V}, DpAll K H vs ds → vs.length = ds.length
  | [], _, h => by cases h; rfl
  | d :: ds, _, h => by
    cases h with
    | cons h1 h2 => exact congrArg (· + 1) (DpAll.length ds h2)
theorem ty_list {K : PySem.W.Frag} {H : Hp} {a : Addr} {xs : List V} (h : SqL K H a xs) : TyX K H (.ref a) (.type "list") := by
  rcases h with (h | ⟨o, h⟩) | ⟨o, its, n, hk, hc, _⟩
  · exact .base (.lst h)
  · exact .base (.frz h)
  · exact .kList hk hc
theorem ty_tuple {K : PySem.W.Frag} {H : Hp} {a : Addr} {xs : List V} (h : SqT K H a xs) : TyX K H (.ref a) (.type "tuple") := by
  rcases h with (h | ⟨o, h⟩) | ⟨o, its, n, hk, hc, _⟩
  · exact .base (.tup h)
  · exact .fTuple h
  · exact .kTuple hk hc
/-- the built-in type of such data -/
def tyD : PyData → String
  | .none => "NoneType"
  | .bool _ => "bool"
  | .int _ => "int"
  | .str _ => "str"
  | .list _ => "list"
  | .tuple _ => "tuple"
  | .dict _ => "dict"
theorem ty_data {K : PySem.W.Frag} {H : Hp} {v : V} {d : PyData} (h : Dp K H v d) : TyX K H v (.type (tyD d)) := by
  cases h with
  | non => exact .base .non
  | bl b => exact .base (.bl b)
  | int i => exact .base (.int i)
  | str x => exact .base (.str x)
  | lst h _ => exact ty_list h
  | tup h _ => exact ty_tuple h
theorem kit2 {K : PySem.W.Frag} {a b c : String} {r s : Bool} (h1 : kitB a b = some r) (h2 : kitB a c = some s) : PySem.W.kitAny K (.type a) [.type b, .type c] = some (r || s) := by
  unfold PySem.W.kitAny
  rw [kit_ty h1]
  cases r with
  | true => rfl
  | false =>
    show PySem.W.kitAny K (.type a) [.type c] = some s
    unfold PySem.W.kitAny
    rw [kit_ty h2]
    cases s <;> rfl
/-- the same data at both: True -/
def spSame (K : PySem.W.Frag) (n : Nat) : Sp := fun vs H Q _ => ∃ (x y : V) (d : PyData), vs = [x, y] ∧ Dp K H x d ∧ Dp K H y d ∧ Fit n d ∧ ∀ H', Same H H' → Q (.bl true) H'
theorem dpI {K : PySem.W.Frag} {H : Hp} : ∀ l : List Int, DpAll K H (l.map V.int) (l.map PyData.int)
  | [] => .nil
  | i :: l => .cons (.int i) (dpI l)
theorem dpB {K : PySem.W.Frag} {H : Hp} : ∀ l : List Bool, DpAll K H (l.map V.bl) (l.map PyData.bool)
  | [] => .nil
  | i :: l => .cons (.bl i) (dpB l)
theorem fitI (n : Nat) (l : List Int) (h : l.length < 1000000) : Fit (n + 2) (.list (l.map PyData.int)) ∧ Fit (n + 2) (.tuple (l.map PyData.int)) := by
  have h1 : (l.map PyData.int).length < 4611686018427387904 := by
    rw [List.length_map]
    omega
  have h2 : ∀ e ∈ l.map PyData.int, Fit (n + 1) e := fun e he => by
    obtain ⟨i, _, rfl⟩ := List.mem_map.mp he
    exact trivial
  exact ⟨⟨h1, h2⟩, ⟨h1, h2⟩⟩
theorem fitB (n : Nat) (l : List Bool) (h : l.length < 1000000) : Fit (n + 2) (.list (l.map PyData.bool)) := by
  have h1 : (l.map PyData.bool).length < 4611686018427387904 := by
    rw [List.length_map]
    omega
  exact ⟨h1, fun e he => by
    obtain ⟨i, _, rfl⟩ := List.mem_map.mp he
    exact trivial⟩
/-- two lists of ints, one behind the other, that hold the same -/
theorem two_i {K : PySem.W.Frag} {H : Hp} {p1 p2 : Addr} (l l' : List Int) (e : l = l') (h1 : H p1 = some (.lst (l.map V.int))) (h2 : H p2 = none) :
    Dp K (upd H p2 (.lst (l'.map V.int))) (.ref p1) (.list (l.map PyData.int)) ∧ Dp K (upd H p2 (.lst (l'.map V.int))) (.ref p2) (.list (l.map PyData.int)) := by
  subst e
  exact ⟨.lst (SqL.of (same_upd h2 _ _ h1)) (dpI l), .lst (SqL.of upd_same) (dpI l)⟩
theorem two_b {K : PySem.W.Frag} {H : Hp} {p1 p2 : Addr} (l l' : List Bool) (e : l = l') (h1 : H p1 = some (.lst (l.map V.bl))) (h2 : H p2 = none) :
    Dp K (upd H p2 (.lst (l'.map V.bl))) (.ref p1) (.list (l.map PyData.bool)) ∧ Dp K (upd H p2 (.lst (l'.map V.bl))) (.ref p2) (.list (l.map PyData.bool)) := by
  subst e
  exact ⟨.lst (SqL.of (same_upd h2 _ _ h1)) (dpB l), .lst (SqL.of upd_same) (dpB l)⟩
/-! ### rules with the written part named (within a comprehension) -/
section
variable {X : Cx}
def tTru (K : PySem.W.Frag) (ta : TE) : TT := fun σ H Q => ta σ H fun x H' => ∃ k, TruV K x H' k ∧ Q k H'
theorem pt_truth_at (K : PySem.W.Frag) (e : X.K = K) {a : Expr} {ta : TE} (ha : PE X a ta) (he : ∀ whole, isTrue a X.env whole = (do let v ← whole; standAt a.pos; holding [v] (truthy v))) :
    PT X a (tTru K ta) := by subst e; exact pt_truth ha he
theorem ix_seq_at (K : PySem.W.Frag) (e : X.K = K) : IxR X (rIx K) := by subst e; exact ix_seq
theorem ix_list_at (K : PySem.W.Frag) (e : X.K = K) : IxR X (rIxL K) := by subst e; exact ix_list
theorem ix_tup_at (K : PySem.W.Frag) (e : X.K = K) : IxR X (rIxT K) := by subst e; exact ix_tup
theorem call_isi_at (K : PySem.W.Frag) (e : X.K = K) : CallR X (.builtin "isinstance") (rIsi K) := by subst e; exact call_isi
theorem call_isiT_at (K : PySem.W.Frag) (e : X.K = K) : CallR X (.builtin "isinstance") (rIsiT K) := by subst e; exact call_isiT
theorem call_len_seq_at (K : PySem.W.Frag) (e : X.K = K) : CallR X (.builtin "len") (fun xs H Q => ∃ p ys, xs = [.ref p] ∧ (SqL K H p ys ∨ SqT K H p ys) ∧ Q (.int ys.length) H) := by subst e; exact call_len_seq
end
/-! ### the end -/
theorem here_mk {fa : List He.Fa} {fn : List He.DefD} {K : PySem.W.Frag} {h : Heap} {mg : Str → Option Value} (X : K.In h) (G : h.Ns mainGlobals mg) (c : He.SaysD fa fn K) (i j : Nat) {x : Str} {st : Stmt}
    (hi : fn[i]? = some ⟨(x, none), x, x, defArgs st, defBody st, defScope st, [], []⟩) (hj : fa[j]? = some (.glo x)) : Here K mg x st := by
  obtain ⟨fd, F⟩ := c.def_ i hi
  exact ⟨_, fd, F, He.glo_ok X G (c.fact j hj)⟩
/-- a law over the script's list: True -/
def spLaw (K : PySem.W.Frag) : Sp := fun vs H Q _ => ∃ (s : Addr) (ns : List Int), vs = [.ref s] ∧ SqL K H s (ns.map V.int) ∧ ns.length ≤ 63 ∧ ∀ H', Q (.bl true) H'
theorem law_fin {P : Program} {w : World} {K : PySem.W.Frag} {h : Heap} {mg : Str → Option Value} {fa : Addr} {k : Nat} {st : Stmt} (X : K.In h) (G : h.Ns mainGlobals mg) (hmg : mg ("law" : Str) = some (.ref fa)) (D : Here K mg "law" st)
    (hb : ∀ (kV doc pm : Value) (an : Option Addr) (cdv ct : Value) (us : List Value), us.length = (["script"] : List Str).length → bindArgs (PySem.W.fnOf "law" "law" (defArgs st) (defBody st) (defScope st) .none kV doc pm an cdv ct) ⟨us, []⟩ = pure ((["script"] : List Str).zip us))
    (C : ∀ base : Heap, CalD P w K mg base k "law" st ["script"] (spLaw K)) :
    ∃ (K : PySem.W.Frag) (fd : FuncData) (sp : Sp), K.In h ∧ (∀ (s : Shared) (u : Value), BindsTo s fd ⟨[u], []⟩ [(("script" : Str), u)]) ∧
      (∀ (H : Hp) (a : Addr) (ns : List Int), ns.length ≤ 63 → Only H → SqL K H a (ns.map V.int) → sp [.ref a] H (fun v _ => v = .bl true) fun _ _ _ => False) ∧
      ∀ base : Heap, K.In base → base.Ns mainGlobals mg → FnOk P w K mg base CX0 k fa fd ["script"] sp := by
  obtain ⟨f, fd, F, g⟩ := D.ex
  have e := hmg.symm.trans g
  cases e
  have b := FunD.bindsA (ps := ["script"]) F hb
  refine ⟨K, fd, spLaw K, X, fun s v => b s [v] rfl, fun H a ns hl _ hS => ⟨a, ns, rfl, hS, hl, fun _ => rfl⟩, fun base _ _ => ?_⟩
  obtain ⟨f2, fd2, F2, D2, g2, _⟩ := (C base).ex
  have e2 := g.symm.trans g2
  cases e2
  have e3 : fd = fd2 := by
    obtain ⟨_, _, _, _, _, _, _, _, _, _, _, l1, _⟩ := F.ex
    obtain ⟨_, _, _, _, _, _, _, _, _, _, _, l2, _⟩ := D2.ex
    have l3 := l1.symm.trans l2
    injection l3 with l4
    injection l4 with _ _ l5
    injection l5
  rw [e3]
  exact F2
end Ky
/-! ### all(e for x in xs), any(..): the element of any kind, by the frame of its own -/
namespace Gx
open PySem PySem.Spec PyProof.Rows L2
/-- the frame's context -/
abbrev gxC (X : Cx) (A : Around) (s : Shared) (H : Hp) (cenv : Env) (fp : List Addr) : Cx :=
  { X with A := A, s_0 := s, H_0 := H, env := cenv, outer := X.stack, stack := cenv :: X.stack, ex := fp, fn := fun _ => false, calm := true, pn := [], xe := fun _ _ => False }
theorem inv_swap {X : Cx} {pins : List (Addr × Obj)} {σ : L2.St} {H : Hp} {s s' : Shared} (I : Inv X pins σ H s) (e : s'.heap = s.heap) (os : s'.os = s.os) (b : AllBare s'.gens) : Inv X pins σ H s' where
  ok := I.ok
  os := os.trans I.os
  bare := b
  base := by rw [e]; exact I.base
  loc := by rw [e]; exact I.loc
  cell := by rw [e]; exact I.cell
  free := I.free
  freeC := I.freeC
  pin := by rw [e]; exact I.pin
  hok := by rw [e]; exact I.hok
  len := I.len
/-- between two turns -/
structure At (Z : Cx) (pins : List (Addr × Obj)) (fp : List Addr) (tn : Nat → Heap → Prop) (σ : L2.St) (i : Nat) (H : Hp) (s : Shared) : Prop where
  inv : Inv Z pins σ H s
  tn : tn i s.heap
  fp : ∀ b ∈ fp, H b = none
abbrev genE (elt tg iter : Expr) (scope : Scope) (pos : Pos) : Expr := .GeneratorExp elt [⟨tg, iter, [], 0⟩] scope pos
section
variable {Z : Cx} {pins : List (Addr × Obj)} {fp : List Addr} {tn : Nat → Heap → Prop} {σ : L2.St} {n : Nat} {b : Nat → Bool} {Nx : Nat → Hp → Prop} {Pv : Nat → Hp → Prop}
/-- an item is handed out: the i-th, b i; what follows if it is gone on -/
def Yg (Z : Cx) (pins : List (Addr × Obj)) (fp : List Addr) (tn : Nat → Heap → Prop) (σ : L2.St) (n : Nat) (b : Nat → Bool) (Nx : Nat → Hp → Prop) : Protocol := fun m _ v s kap =>
  ∃ i H, m + 1 + i = n ∧ v = .bool (b i) ∧ At Z pins fp tn σ (i + 1) H s ∧ Nx i H ∧ ((Nx i H → ∀ s', s'.heap = s.heap → s'.os = s.os → AllBare s'.gens → b i = true → kap (.send .none) s'))
/-- the end: none is left -/
def Rg (Z : Cx) (pins : List (Addr × Obj)) (fp : List Addr) (tn : Nat → Heap → Prop) (σ : L2.St) (n : Nat) (Pv : Nat → Hp → Prop) : GenEnd := fun m _ r s =>
  ((r = .ok (.ret .none) ∨ r = .ok .next) ∧ (∃ H, Inv Z pins σ H s ∧ Pv n H)) ∨ ∃ e, r = .error e ∧ False
theorem gx_loop {B : Around} {elt tg iter : Expr} {scope : Scope} {pos : Pos} {it : Addr} {J : It} {g : TG} {te : TE} {vs : List Nat}
    (hA : B.over (.compLoop (genE elt tg iter scope pos) 0 (.ref it) .none Z.env) [] = Z.A) (hx : Z.ex = fp) (hpn : Z.pn = []) (hxe : Z.xe = fun _ _ => False) (hc : Z.calm = true) (hco : Z.env.scope.isCoroutine = false) (hpf : ∀ p ∈ pins, p.1 ∉ fp)
    (T : Turn Z.prog Z.w Z.K tg J fp it tn) (pg : PG Z tg g) (pe : PE Z elt te)
    (turn : ∀ i H, i < n → Pv i H → J.go i H ∧ ∀ x H', J.yld i H x H' → g x σ H' fun σ2 H2 => wipe σ2 vs = σ ∧ te σ2 H2 fun y H3 => y = .bl (b i) ∧ Nx i H3)
    (goon : ∀ i H, Nx i H → b i = true → Pv (i + 1) H) (done : ∀ H, Pv n H → J.stop n H) :
    ∀ (k i : Nat) (s₀ s : Shared) (H : Hp), n - i = k → i ≤ n → Pv i H → At Z pins fp tn σ i H s →
      Seg (model Z.prog Z.w) B (Rg Z pins fp tn σ n Pv) (Yg Z pins fp tn σ n b Nx) k s₀ (.compLoop (genE elt tg iter scope pos) 0 (.ref it) .none Z.env)
        ((model Z.prog Z.w).den (.compLoop (genE elt tg iter scope pos) 0 (.ref it) .none Z.env)) [] s := by
  have stat : ∀ {σ' : L2.St} {H' : Hp} {s' : Shared} {ps : List (Addr × Obj)}, (∀ p ∈ ps, p.1 ∉ fp) → Inv Z ps σ' H' s' → (∀ b ∈ fp, H' b = none) → ∀ b ∈ fp, FpOk Z ps H' b := fun {σ' H' s' ps} hp I' hn b hb => by
    have hb2 : b ∈ Z.ex := by rw [hx]; exact hb
    refine ⟨hn b hb, (I'.ok.exf b hb2).1, I'.ok.exfs b hb2, .inl hb2, fun x c e => (I'.ok.exf b hb2).2 x c e, fun p hq z => ?_⟩
    rw [hpn, List.nil_append] at hq
    exact hp p hq (by rw [z]; exact hb)
  intro k
  induction k with
  | zero =>
    intro i s₀ s H hk hi hP hI
    have hin : i = n := by omega
    subst hin
    show Seg _ B _ _ _ s₀ _ ((compTurn (genE elt tg iter scope pos) 0 (.ref it) .none Z.env).onRaise (leaving Z.env)) [] s
    rw [compTurn_gen, Sem.onRaise_eq_wrap]
    refine seg_bind_wrap (wpAny_standAt ?_)
    have td := T.done Z rfl rfl rfl hc i pins s σ H (fun _ _ => False) hI.inv (stat hpf hI.inv hI.fp) hI.tn (done H hP)
    rw [← hA] at td
    refine seg_bind_wrap (thnF td fun r s1 ⟨hr, I1⟩ => ?_)
    subst hr
    exact seg_end (.ok .next) (.inl ⟨.inr rfl, H, I1, hP⟩)
  | succ k ih =>
    intro i s₀ s H hk hi hP hI
    have hlt : i < n := by omega
    obtain ⟨go, step⟩ := turn i H hlt hP
    show Seg _ B _ _ _ s₀ _ ((compTurn (genE elt tg iter scope pos) 0 (.ref it) .none Z.env).onRaise (leaving Z.env)) [] s
    rw [compTurn_gen, Sem.onRaise_eq_wrap]
    refine seg_bind_wrap (wpAny_standAt ?_)
    have ti := T.item Z rfl rfl rfl hc i pins s σ H (fun _ _ => False) hI.inv (stat hpf hI.inv hI.fp) hI.tn go
    rw [← hA] at ti
    refine seg_bind_wrap (thnF ti fun r s1 ⟨u, hr, h1⟩ => ?_)
    subst hr
    refine seg_bind_wrap (thnF h1 fun _ s2 ⟨x, H2, I2, r2, y2, st2, n2⟩ => ?_)
    have I2' := I2.pinned (stat hpf I2 n2) (T.obj _ _ st2)
    have h3 := pg.run _ s2 _ H2 x u _ I2' r2 (step x H2 y2)
    rw [← hA, hxe] at h3
    refine seg_bind_wrap (thnF h3 fun _ s3 ⟨σ3, H3, I3, hw3, q3⟩ => ?_)
    simp only [List.forIn_nil]
    refine seg_bind_wrap (wpAny_pure ?_)
    simp only [if_true]
    have hy : ∀ v, yieldOut Z.env v = yieldValue v := fun v => by simp only [yieldOut, hco, Bool.false_eq_true, if_false]
    simp only [hy]
    rw [Sem.bind_eq_wrap', Sem.bind_eq_wrap', Sem.wrap_wrap, Sem.wrap_wrap]
    have h4 := pe.run _ s3 σ3 H3 _ I3 q3
    rw [← hA, hxe] at h4
    refine seg_wrap (thnF h4 fun v s4 ⟨yv, H4, I4, r4, e4, nx⟩ => ?_)
    subst e4
    cases r4
    have pin' : ∀ c ∈ fp, ∀ o, s2.heap.get? c = some o → s4.heap.get? c = some o ∧ H4 c = none := fun c hc o e =>
      let z := I4.pin (c, o) (List.mem_append_right _ (List.mem_append_right _ (mem_pinsAt hc e)))
      ⟨z.1, z.2.1⟩
    have hl : σ.length = σ3.length := by rw [← hw3, wipe_length]
    have at4 : At Z pins fp tn σ (i + 1) H4 s4 := ⟨(I4.unpinned (pins := pins)).weak hl (fun j v e => by
        rw [← hw3] at e
        exact (wipe_some e).1), T.keep _ _ _ st2 fun c hc o e => (pin' c hc o e).1, fun c hc => by
        obtain ⟨o, e, _⟩ := T.obj _ _ st2 c hc
        exact (pin' c hc o e).2⟩
    refine seg_at (seg_yield rfl rfl rfl ⟨i, H4, by omega, rfl, at4, nx, fun nx' s'' e1 e2 e3 hb => ?_⟩)
    refine seg_again rfl (ih (i + 1) s'' s'' H4 (by omega) hlt (goon i H4 nx' hb) ⟨inv_swap at4.inv e1 e2 e3, ?_, at4.fp⟩)
    rw [e1]
    exact at4.tn
/-- the loop of all: each item asked, until one is false -/
theorem all_loop {A : Around} {ga : Addr} {gn : Nat} {gobj : Obj} {Rr : Result → Shared → Prop} (hh : A.handled = none) (hd : A.depth < recursionLimit) (hgo : ∀ h : Heap, h.get? ga = some gobj → h.IsGen ga gn) (hpi : (ga, gobj) ∈ pins)
    (goon : ∀ i H, Nx i H → b i = true → Pv (i + 1) H)
    (hend : ∀ s' H', Inv Z pins σ H' s' → Pv n H' → ∀ s'' : Shared, s''.os = s'.os → AllBare s''.gens → (∀ c o, s'.heap.get? c = some o → s''.heap.get? c = some o) → Rr (.ok (.ret (.bool true))) s'')
    (hno : ∀ s' H' i, Inv Z pins σ H' s' → Nx i H' → b i = false → ∀ s'' : Shared, s''.os = s'.os → AllBare s''.gens → s''.heap = s'.heap → Rr (.ok (.ret (.bool false))) s'') :
    ∀ (m : Nat) (s : Shared), s.heap.IsGen ga gn → s.heap.NoLimit →
      (∃ gs, s.gens[gn]? = some gs ∧ gs.Goes (model Z.prog Z.w) A.in1.in1 (Rg Z pins fp tn σ n Pv) (Yg Z pins fp tn σ n b Nx) m (.send .none) (s.setGen gn .running)) →
      codeAny (model Z.prog Z.w) A (.builtin "all.loop" ⟨[.ref ga], []⟩) Rr s := by
  intro m
  induction m with
  | zero =>
    intro s hg hl ⟨gs, hgs, hgo2⟩
    have hgl : gn < s.gens.size := (Array.getElem?_eq_some_iff.mp hgs).1
    refine codeAny_builtin F.entry_all_loop ?_
    rw [Around.under_plainId F.plain_all_loop _]
    show wpAny _ A.in1 (pyNext (.ref ga) >>= _) _ _ s
    refine wpAny_bind (next_genG (A := A.in1) (F := fun _ _ s₁ => ∃ H, Inv Z pins σ H s₁ ∧ Pv n H) (Er := fun _ _ => False) hh hl hd hg hgs hgo2 (fun v s₁ gs' hbare hv => ?_) (fun s₁ hp h' hk => ?_) fun e s₁ he => he.elim)
    · obtain ⟨i, H, hi, rfl, hat, hnx, hk⟩ := hv
      cases hb : b i with
      | true => exact (hk hnx s₁ rfl rfl hat.inv.bare hb).elim
      | false =>
        refine wpAny_bind (wpAny_holding (wpAny_truthy_bool ?_))
        refine wpAny_bind (wpAny_letGo ?_)
        simp only [Bool.false_eq_true, if_false]
        refine wpAny_bind (wpAny_rule (wpAny_pure ?_))
        exact hno s₁ H i hat.inv hnx hb _ rfl (allBare_setGen hat.inv.bare hbare) rfl
    · obtain ⟨H, I1, hP⟩ := hp
      refine wpAny_bind (wpAny_rule (wpAny_pure ?_))
      exact hend s₁ H I1 hP _ rfl (allBare_setGen I1.bare rfl) hk
  | succ m ih =>
    intro s hg hl ⟨gs, hgs, hgo2⟩
    have hgl : gn < s.gens.size := (Array.getElem?_eq_some_iff.mp hgs).1
    refine codeAny_builtin F.entry_all_loop ?_
    rw [Around.under_plainId F.plain_all_loop _]
    show wpAny _ A.in1 (pyNext (.ref ga) >>= _) _ _ s
    refine wpAny_bind (GenW.wpAny_gsz (n := gn + 1) hgl (next_genG (A := A.in1) (F := fun _ _ s₁ => ∃ H, Inv Z pins σ H s₁ ∧ Pv n H) (Er := fun _ _ => False) hh hl hd hg hgs hgo2 (fun v s₁ gs' hbare hv => ?_) (fun s₁ hp h' hk => ?_) fun e s₁ he => he.elim))
    · intro hsz
      obtain ⟨i, H, hi, rfl, hat, hnx, hk⟩ := hv
      cases hb : b i with
      | true =>
        refine wpAny_bind (wpAny_holding (wpAny_truthy_bool ?_))
        refine wpAny_bind (wpAny_letGo ?_)
        simp only [if_true]
        have hsz1 : gn < s₁.gens.size := by
          have q : (s₁.setGen gn gs').gens.size = s₁.gens.size := GenW.setGen_size _ _ _
          have hsz' : gn + 1 ≤ (s₁.setGen gn gs').gens.size := hsz
          omega
        have hpin := (hat.inv.pin (ga, gobj) (List.mem_append_right _ hpi)).1
        refine wpAny_pure ⟨plainId_quiet F.plain_all_loop _, ih (s₁.setGen gn gs') (hgo _ hpin) hat.inv.nolimit ⟨gs', setGen_at hsz1, ?_⟩⟩
        exact hk hnx _ rfl rfl (allBare_setGen (allBare_setGen hat.inv.bare hbare) rfl) hb
      | false =>
        refine wpAny_bind (wpAny_holding (wpAny_truthy_bool ?_))
        refine wpAny_bind (wpAny_letGo ?_)
        simp only [Bool.false_eq_true, if_false]
        refine wpAny_bind (wpAny_rule (wpAny_pure ?_))
        exact hno s₁ H i hat.inv hnx hb _ rfl (allBare_setGen hat.inv.bare hbare) rfl
    · intro hsz
      obtain ⟨H, I1, hP⟩ := hp
      refine wpAny_bind (wpAny_rule (wpAny_pure ?_))
      exact hend s₁ H I1 hP _ rfl (allBare_setGen I1.bare rfl) hk
end
section
variable {X : Cx} {pins : List (Addr × Obj)} {σ : L2.St} {H : Hp} {s : Shared}
/-- the frame begins -/
theorem gx_start {scope : Scope} {own : List (Str × Nat)} {x : Str} {fp : List Addr} {A' : Around} {code : Value} {hh : Heap} {mm : Str → Option Value} {gobj : Obj} {gs : GenState} {tk : Nat}
    (I : Inv X pins σ H s) (S : GxR.GenS X.env scope x) (ok : BlkOk X.N X.env.scope scope own) (hN : X.N.Nodup) (hfp : ∀ c ∈ fp, FpOk X pins H c ∧ c < s.heap.objs.size)
    (hA : A'.frames = some (genEnv scope (cloFrom X.env.cells scope.names []) s.heap.objs.size code builtinsNs X.env :: X.stack)) (hd : A'.handled = none)
    (hn : hh.Ns s.heap.objs.size mm) (hk : ∀ c o, s.heap.get? c = some o → hh.get? c = some o) (hz : hh.objs.size = s.heap.objs.size + 1) (hgb : gs.bare = true) (hgl : gobj.isFreed = false) (hgd : ∀ v, gobj.data ≠ .cell v) :
    Inv (gxC X A' s H (genEnv scope (cloFrom X.env.cells scope.names []) s.heap.objs.size code builtinsNs X.env) fp) [(hh.objs.size, gobj)] (wipe σ (own.map (·.2))) H { s with gens := s.gens.push gs, toks := tk, heap := hh.push gobj } := by
  have kp : ∀ c o, s.heap.get? c = some o → (hh.push gobj).get? c = some o := fun c o e => Heap.get?_push_of_some _ (hk c o e)
  have cm : ∀ {y : Str} {c : Addr}, (y, c) ∈ cloFrom X.env.cells scope.names [] → (y, NameKind.free) ∈ scope.names ∧ X.env.cells.lookup y = some c := fun {y c} hm => by
    rcases cloFrom_mem hm with h1 | ⟨h1, rfl⟩
    · cases h1
    · obtain ⟨c, hc⟩ := S.free _ h1 rfl
      refine ⟨h1, ?_⟩
      have hc2 : X.env.cells.lookup y = some c := hc
      rw [hc2] <;> rfl
  have cl : ∀ {y : Str}, (y, NameKind.free) ∈ scope.names → ∃ c, (cloFrom X.env.cells scope.names []).lookup y = some c ∧ X.env.cells.lookup y = some c := fun {y} hy => by
    obtain ⟨c', e'⟩ := mem_lookup (cloFrom_has (cells := X.env.cells) (acc := []) hy)
    exact ⟨c', e', (cm (PySem.mem_of_lookup e')).2⟩
  have lt : ∀ {y : Str} {c : Addr}, X.env.cells.lookup y = some c → c < s.heap.objs.size := fun {y c} e => by
    obtain ⟨v, q⟩ := I.cell y c e
    exact q.lt
  have okG : (gxC X A' s H (genEnv scope (cloFrom X.env.cells scope.names []) s.heap.objs.size code builtinsNs X.env) fp).Ok := by
    refine ⟨I.ok.mod, S.kind, I.ok.glob, rfl, Nat.le_refl _, fun y z c e1 e2 => ?_, fun y hy => ?_, fun y c z _ => (by cases z), fun _ => hd, hA, .inr ⟨rfl, rfl⟩, fun c hc => ⟨Nat.ne_of_lt (hfp c hc).2, fun y c' e z => ?_⟩, I.bs, Nat.le_trans I.ok.bsz I.sz, fun c o e hc => ?_, fun c hc z => ?_, I.stack, I.stkFree⟩
    · exact I.ok.inj y z c (cm (PySem.mem_of_lookup (show (cloFrom X.env.cells scope.names []).lookup y = some c from e1))).2 (cm (PySem.mem_of_lookup (show (cloFrom X.env.cells scope.names []).lookup z = some c from e2))).2
    · have hy2 : scope.names.lookup y = some .cell ∨ scope.names.lookup y = some .free := hy
      rcases hy2 with h1 | h1
      · exact absurd rfl (S.cell _ (PySem.mem_of_lookup h1))
      · obtain ⟨c, e, _⟩ := cl (PySem.mem_of_lookup h1)
        exact ⟨c, e⟩
    · have e2 := (cm (PySem.mem_of_lookup (show (cloFrom X.env.cells scope.names []).lookup y = some c' from e))).2
      exact (hfp c hc).1.2.2.2.2.1 y c' e2 z
    · rcases (hfp c hc).1.2.2.2.1 with z | z
      · exact I.ok.noex c o e z
      · exact absurd (Nat.lt_of_lt_of_le (Heap.lt_size e) (Nat.le_trans I.ok.bsz z)) (Nat.lt_irrefl _)
    · rcases List.mem_cons.mp (I.stkSub c z) with z2 | z2
      · exact (hfp c hc).1.2.1 z2
      · exact (hfp c hc).1.2.2.1 z2
  refine ⟨okG, rfl, I.bare.push hgb, Un.kept kp, ⟨mm, hn.push _, fun i y v e1 e2 e3 => ?_⟩, fun y c e => ?_, I.hok.fresh (Nat.le_refl _), fun y c e => ?_, fun p hp => ?_, I.hok.kept kp, by rw [wipe_length]; exact I.len⟩
  · obtain ⟨e4, hne⟩ := wipe_some e2
    have notLoc : scope.names.lookup y = some .free := by
      have e3' : scope.names.lookup y = some .local ∨ scope.names.lookup y = some .cell ∨ scope.names.lookup y = some .free := e3
      have no : ¬ ((y, NameKind.local) ∈ scope.names) := fun hm => by
        rcases ok.own _ hm (.inl rfl) with h1 | h1
        · obtain ⟨p, hp, ep⟩ := List.mem_map.mp h1
          have e5 := ok.ix p hp
          rw [ep] at e5
          have e6 := nodup_ix hN e1 e5
          exact hne (List.mem_map.mpr ⟨p, hp, e6.symm⟩)
        · exact h1 (List.mem_of_getElem? e1)
      rcases e3' with h1 | h1 | h1
      · exact absurd (PySem.mem_of_lookup h1) no
      · exact absurd rfl (S.cell _ (PySem.mem_of_lookup h1))
      · exact h1
    have hf := PySem.mem_of_lookup notLoc
    obtain ⟨c, e5, e6⟩ := cl hf
    obtain ⟨m0, hn0, hl0⟩ := I.loc
    have hk0 := ok.free _ hf rfl
    obtain ⟨u, ru, lk⟩ := hl0 i y v e1 e4 (by rcases hk0 with z | z; exact .inr (.inl z); exact .inr (.inr z))
    refine ⟨u, ru, .inr ⟨.inr notLoc, c, e5, ?_⟩⟩
    rcases lk with ⟨z1, _⟩ | ⟨_, c2, z2, z3⟩
    · have z4 : X.env.scope.names.lookup y = some .local := z1
      rcases hk0 with z | z
      · rw [z4] at z; cases z
      · rw [z4] at z; cases z
    · rw [e6] at z2
      cases z2
      exact z3.keeps kp
  · have e2 := (cm (PySem.mem_of_lookup (show (cloFrom X.env.cells scope.names []).lookup y = some c from e))).2
    obtain ⟨v, q⟩ := I.cell y c e2
    exact ⟨v, q.keeps kp⟩
  · exact I.freeC y c (cm (PySem.mem_of_lookup (show (cloFrom X.env.cells scope.names []).lookup y = some c from e))).2
  · have hp2 : p = (hh.objs.size, gobj) := List.mem_singleton.mp hp
    subst hp2
    have hge : s.heap.objs.size ≤ hh.objs.size := by omega
    refine ⟨Heap.get?_push_size _ ?_, I.hok.fresh hge, ?_, fun hm => ?_, hgd⟩
    · exact hgl
    · show hh.objs.size ≠ s.heap.objs.size
      omega
    · obtain ⟨_, o, ho, _⟩ := I.stack.mem hm
      exact absurd (Nat.lt_of_lt_of_le (Heap.lt_size ho) hge) (Nat.lt_irrefl _)
end
/-- all(e for x in xs): wi what is walked, i the place of x, te the element; behind it the def's table may have grown -/
def tAllG (P : Addr) (wi : TI) (i : Nat) (te : TE) (vs : List Nat) : TE := fun σ H Q => wi σ H fun J H1 => GxR.TabG H1 P ∧ ∀ H2, GxR.Tabbed P H1 H2 →
  ∃ (n : Nat) (b : Nat → Bool) (Pv Nx : Nat → Hp → Prop), Pv 0 H2 ∧
    (∀ k H, k < n → Pv k H → J.go k H ∧ ∀ x H', J.yld k H x H' → gName i x (wipe σ vs) H' fun σ2 H3 => wipe σ2 vs = wipe σ vs ∧ te σ2 H3 fun y H4 => y = .bl (b k) ∧ Nx k H4) ∧
    (∀ k H, Nx k H → b k = true → Pv (k + 1) H) ∧ (∀ k H, Nx k H → b k = false → Q (.bl false) H) ∧ (∀ H, Pv n H → J.stop n H ∧ Q (.bl true) H)
section
variable {X : Cx}
/-- what the walk over the made generator asks -/
def Asks (σ : L2.St) (Q : VK) (i : Nat) (te : TE) (vs : List Nat) (J : It) (H2 : Hp) : Prop :=
  ∃ (n : Nat) (b : Nat → Bool) (Pv Nx : Nat → Hp → Prop), Pv 0 H2 ∧
    (∀ k H, k < n → Pv k H → J.go k H ∧ ∀ x H', J.yld k H x H' → gName i x (wipe σ vs) H' fun σ2 H3 => wipe σ2 vs = wipe σ vs ∧ te σ2 H3 fun y H4 => y = .bl (b k) ∧ Nx k H4) ∧
    (∀ k H, Nx k H → b k = true → Pv (k + 1) H) ∧ (∀ k H, Nx k H → b k = false → Q (.bl false) H) ∧ (∀ H, Pv n H → J.stop n H ∧ Q (.bl true) H)
theorem gx_go {k i : Nat} {elt iter : Expr} {x : Str} {px gpos : Pos} {scope : Scope} {own : List (Str × Nat)} {te : TE} {pins : List (Addr × Obj)} {σ : L2.St} {Q : VK} {H3 : Hp} {s3 : Shared} {it : Addr} {fp : List Addr} {tn : Nat → Heap → Prop} {J : It} {code : Value} {h' : Heap} {gobj : Obj} {tk : Nat}
    (hr : Room (k + 1) X.A) (S : GxR.GenS X.env scope x) (hN : X.N.Nodup) (ok : BlkOk X.N X.env.scope scope own)
    (hgn : ∀ (A : Around) (s : Shared) (H : Hp) (cl : List (Str × Addr)) (C : Addr) (code : Value) (fp : List Addr), PG (gxC X A s H (genEnv scope cl C code builtinsNs X.env) fp) (.Name x px) (gName i))
    (hel : ∀ (A : Around) (s : Shared) (H : Hp) (cl : List (Str × Addr)) (C : Addr) (code : Value) (fp : List Addr), Room k A → PE (gxC X A s H (genEnv scope cl C code builtinsNs X.env) fp) elt te)
    (I : Inv X pins σ H3 s3) (T : Turn X.prog X.w X.K (.Name x px) J fp it tn) (st : tn 0 s3.heap) (hfp : ∀ b ∈ fp, FpOk X pins H3 b) (q : Asks σ Q i te (own.map (·.2)) J H3)
    (hn : h'.Ns s3.heap.objs.size (fun y => if y = ".0" then some (.ref it) else none)) (hs : Heap.SameBut s3.heap.objs.size (s3.heap.push { cls := .type "frame", data := .dict #[] }) h')
    (hgo : ∀ h : Heap, h.get? h'.objs.size = some gobj → h.IsGen h'.objs.size s3.gens.size) (hgl : gobj.isFreed = false) (hgd : ∀ v, gobj.data ≠ .cell v) (E : Value → Shared → Prop) :
    wpAny (model X.prog X.w) X.A (call (.builtin "all") [.ref h'.objs.size]) (EP X pins σ Q) E
      { s3 with gens := s3.gens.push (.fresh (.compStart (genE elt (.Name x px) iter scope gpos) 0 (.ref it) .none (genEnv scope (cloFrom X.env.cells scope.names []) s3.heap.objs.size code builtinsNs X.env))), toks := tk, heap := h'.push gobj } := by
  generalize hce : genEnv scope (cloFrom X.env.cells scope.names []) s3.heap.objs.size code builtinsNs X.env = cenv
  have hsz : h'.objs.size = s3.heap.objs.size + 1 := by rw [hs.1, Heap.size_push]
  have keep' : ∀ b o, s3.heap.get? b = some o → h'.get? b = some o := fun b o e => hs.extBut b o (Nat.ne_of_lt (Heap.lt_size e)) (Heap.get?_push_of_some _ e)
  have lt3 : ∀ b ∈ fp, b < s3.heap.objs.size := fun b hb => by
    obtain ⟨o, e, _⟩ := T.obj _ _ st b hb
    exact Heap.lt_size e
  have hfr : (X.A.in1.in1.over (.compLoop (genE elt (.Name x px) iter scope gpos) 0 (.ref it) .none cenv) []).frames = some (cenv :: X.stack) := by
    have e := I.ok.frames
    show (X.A.frames).map _ = _
    rw [e] <;> rfl
  have rk : Room k (X.A.in1.in1.over (.compLoop (genE elt (.Name x px) iter scope gpos) 0 (.ref it) .none cenv) []) := by
    refine ⟨hr.hd, ?_, ?_⟩
    · have := hr.dp
      show X.A.depth + 0 + 1 + 3 * k + 5 < _
      omega
    · have := hr.un
      show X.A.units + 1 + 1 + 0 + 3 + 16 * k + 200 < _
      omega
  have I5 := gx_start (own := own) (x := x) (A' := X.A.in1.in1.over (.compLoop (genE elt (.Name x px) iter scope gpos) 0 (.ref it) .none cenv) []) (code := code) (gs := .fresh (.compStart (genE elt (.Name x px) iter scope gpos) 0 (.ref it) .none cenv)) (tk := tk)
    I S ok hN (fun b hb => ⟨hfp b hb, lt3 b hb⟩) (by rw [hce]; exact hfr) hr.hd hn keep' hsz rfl hgl hgd
  rw [hce] at I5
  have pe := hel _ s3 H3 (cloFrom X.env.cells scope.names []) s3.heap.objs.size code fp rk
  have pg := hgn (X.A.in1.in1.over (.compLoop (genE elt (.Name x px) iter scope gpos) 0 (.ref it) .none cenv) []) s3 H3 (cloFrom X.env.cells scope.names []) s3.heap.objs.size code fp
  rw [hce] at pe pg
  have ltp : ∀ c o, s3.heap.get? c = some o → (h'.push gobj).get? c = some o := fun c o e => Heap.get?_push_of_some _ (keep' c o e)
  have hgp : (h'.push gobj).IsGen h'.objs.size s3.gens.size := hgo _ (Heap.get?_push_size _ hgl)
  generalize hst : ({ s3 with gens := s3.gens.push (.fresh (.compStart (genE elt (.Name x px) iter scope gpos) 0 (.ref it) .none cenv)), toks := tk, heap := h'.push gobj } : Shared) = st0 at I5 ⊢
  have hst1 : st0.heap = h'.push gobj := by rw [← hst]
  have hst2 : st0.gens = s3.gens.push (.fresh (.compStart (genE elt (.Name x px) iter scope gpos) 0 (.ref it) .none cenv)) := by rw [← hst]
  have hst3 : st0.os = s3.os := by rw [← hst]
  obtain ⟨n, b, Pv, Nx, p0, turn, goon, qno, qyes⟩ := q
  have fin : ∀ (v : Bool) (s' : Shared) (H' : Hp), Inv (gxC X (X.A.in1.in1.over (.compLoop (genE elt (.Name x px) iter scope gpos) 0 (.ref it) .none cenv) []) s3 H3 cenv fp) [(h'.objs.size, gobj)] (wipe σ (own.map (·.2))) H' s' → Q (.bl v) H' →
      ∀ s'' : Shared, s''.os = s'.os → AllBare s''.gens → (∀ c o, s'.heap.get? c = some o → s''.heap.get? c = some o) → EP X pins σ Q (.bool v) s'' := fun v s' H' J hq s'' e1 e2 e3 => by
    refine ⟨.bl v, H', I.call' (ch := fp) (e1.trans J.os) (J.base.trans (Un.kept e3)) (J.hok.kept e3) e2 (fun c hc => ?_), rfl, hq⟩
    obtain ⟨f1, f2, f3, f4, f5, f6⟩ := hfp c hc
    exact ⟨f4, f2, f5, f6⟩
  have hh1 : X.A.in1.handled = none := hr.hd
  refine call_function_tree F.kind_all F.plain_all F.entry_all (F.args_all1 _) ?_
  unfold Builtin.«all»
  refine wpAny_bind (m := oneArg "all" _) (wpAny_pure ?_)
  refine wpAny_bind (wpAny_pyIter_gen (s := st0) (by rw [hst1]; exact hgp) ?_)
  refine wpAny_pure ⟨plainId_quiet F.plain_all_loop _, ?_⟩
  refine all_loop (Z := gxC X (X.A.in1.in1.over (.compLoop (genE elt (.Name x px) iter scope gpos) 0 (.ref it) .none cenv) []) s3 H3 cenv fp) (pins := [(h'.objs.size, gobj)]) (fp := fp) (tn := tn) (σ := wipe σ (own.map (·.2))) (n := n) (b := b) (Nx := Nx) (Pv := Pv)
    (gobj := gobj) hr.hd (by have := hr.dp; omega) hgo (List.mem_singleton.mpr rfl) goon (fun s' H' J hp s'' e1 e2 e3 => fin true s' H' J (qyes H' hp).2 s'' e1 e2 e3) (fun s' H' j J hn hb s'' e1 e2 e3 => fin false s' H' J (qno j H' hn hb) s'' e1 e2 (fun c o e => by rw [e3]; exact e))
    n st0 (by rw [hst1]; exact hgp) I5.nolimit ⟨.fresh (.compStart (genE elt (.Name x px) iter scope gpos) 0 (.ref it) .none cenv), by rw [hst2]; exact Array.getElem?_push_size, ?_⟩
  refine ⟨rfl, ?_⟩
  have I6 := inv_swap (s' := st0.setGen s3.gens.size .running) I5 rfl rfl (allBare_setGen I5.bare rfl)
  have loop := gx_loop (Z := gxC X (X.A.in1.in1.over (.compLoop (genE elt (.Name x px) iter scope gpos) 0 (.ref it) .none cenv) []) s3 H3 cenv fp) (pins := [(h'.objs.size, gobj)]) (fp := fp) (tn := tn) (σ := wipe σ (own.map (·.2))) (n := n) (b := b) (Nx := Nx) (Pv := Pv)
    (B := X.A.in1.in1) (elt := elt) (tg := .Name x px) (iter := iter) (scope := scope) (pos := gpos) (it := it) (vs := own.map (·.2)) rfl rfl rfl rfl rfl (by rw [← hce]; exact S.co) (fun p hp hm => by
      rw [List.mem_singleton.mp hp] at hm
      have := lt3 _ hm
      have h2 : h'.objs.size < s3.heap.objs.size := this
      omega) T pg pe turn goon (fun H' hp => (qyes H' hp).1) n 0 (st0.setGen s3.gens.size .running) (st0.setGen s3.gens.size .running) H3 (Nat.sub_zero _) (Nat.zero_le _) p0
    ⟨I6, T.keep _ _ _ st fun c hc o e => (by show st0.heap.get? c = some o; rw [hst1]; exact ltp c o e), fun c hc => (hfp c hc).1⟩
  show Seg _ X.A.in1.in1 _ _ _ _ _ ((compStart (genE elt (.Name x px) iter scope gpos) 0 (.ref it) .none cenv).onRaise (leaving cenv)) [] _
  unfold compStart
  rw [Sem.onRaise_eq_wrap]
  show Seg _ X.A.in1.in1 _ _ _ _ _ ((ask >>= _).wrap _ _ _ _) [] _
  refine seg_bind_wrap (wpAny_askSetting ?_)
  have hself : ∀ A' : Around, ∀ (Q' : Value → Shared → Prop) (E' : Value → Shared → Prop), Q' (.ref it) (st0.setGen s3.gens.size .running) → wpAny (model X.prog X.w) A' (pyIter (.ref it)) Q' E' (st0.setGen s3.gens.size .running) := fun A' Q' E' hq =>
    T.self A' 0 _ Q' E' (T.keep _ _ _ st fun c hc o e => (by show st0.heap.get? c = some o; rw [hst1]; exact ltp c o e)) hq
  split
  · exact seg_again rfl loop
  · first
      | exact seg_bind_wrap (wpAny_rule (seg_bind_wrap (wpAny_standAt (seg_bind_wrap (hself _ _ _ (seg_again rfl loop))))))
      | (refine seg_bind_wrap (wpAny_rule ?_); show Seg _ X.A.in1.in1 _ _ _ _ _ ((standAt iter.pos >>= _).wrap _ _ _ _) [] _; exact seg_bind_wrap (wpAny_standAt (seg_bind_wrap (hself _ _ _ (seg_again rfl loop)))))
/-- all(e for x in it) -/
theorem pe_allG {c P : Addr} {k i : Nat} {elt iter : Expr} {x : Str} {px p pos gpos : Pos} {scope : Scope} {own : List (Str × Nat)} {wi : TI} {te : TE}
    (hr : Room (k + 1) X.A) (hg : Gl X "all") (hm : X.mg "all" = none) (hb : bootBuiltins "all" = some (.builtin "all")) (TB : GxR.TabB X.base X.mg c P) (hcode : X.env.code = .ref c) (S : GxR.GenS X.env scope x) (hN : X.N.Nodup) (hx : X.N[i]? = some x) (ok : BlkOk X.N X.env.scope scope own)
    (hi : PI X (.Name x px) iter wi)
    (hel : ∀ (A : Around) (s : Shared) (H : Hp) (cl : List (Str × Addr)) (C : Addr) (code : Value) (fp : List Addr), Room k A → PE (gxC X A s H (genEnv scope cl C code builtinsNs X.env) fp) elt te)
    (hs : ∀ v, genFold iter X.env v = pure v)
    (he : starEach [genE elt (.Name x px) iter scope gpos] X.env = (false, eval (genE elt (.Name x px) iter scope gpos) X.env) :: starEach [] X.env := by rfl) :
    PE X (.Call (.Name "all" p) [genE elt (.Name x px) iter scope gpos] [] pos) (tAllG P wi i te (own.map (·.2))) := by
  refine ⟨fun pins s σ H Q I h => ?_⟩
  refine wpAny_Call_Name_kw (ld_blt I hg hm hb ?_)
  refine PyProof.Rows.callWith_builtin1 ?_ he (by rfl)
  rw [he]
  show wpAny _ _ (spliced ((false, eval (genE elt (.Name x px) iter scope gpos) X.env) :: backTo pos (starEach [] X.env))) _ _ s
  refine Calls.spliced_cons ?_
  refine wpAny_GeneratorExp_make S.co (closure_ok S.free) S.cell S.dot S.kind (by have := hr.dp; omega) ?_ hs
  refine thn (hi.run pins s σ H _ I h) fun xv s1 h1 => thn h1 fun itv s2 h2 => ?_
  obtain ⟨it, fp, tn, J, H1, rfl, I2, T, st, hfp, ⟨ps, hP, ht⟩, ask⟩ := h2
  have hPs : s2.heap.get? P = some { cls := .none, data := .fields ps } := I2.hok P _ hP
  have hPlt : P < s2.heap.objs.size := Heap.lt_size hPs
  have cd : PySem.W.CodeHd s2.heap c P := TB.code.keeps I2.bk
  have nP : ∀ b ∈ fp, b ≠ P := fun b hb z => by
    have := (hfp b hb).1
    rw [z, hP] at this
    cases this
  have cont : ∀ (code : Value) (h3 : Heap) (tk : Nat) (more : Array Value), Heap.ExtBut P s2.heap h3 → s2.heap.objs.size ≤ h3.objs.size → h3.get? P = some { cls := .none, data := .fields (ps ++ more) } → TriplesOk (ps ++ more).toList →
      wpAny (model X.prog X.w) X.A (builtinsFor X.env.globals X.env.builtins) (fun bi s₄ =>
        ∀ h', h'.Ns s₄.heap.objs.size (fun y => if y = ".0" then some (.ref it) else none) → Heap.SameBut s₄.heap.objs.size (s₄.heap.push { cls := .type "frame", data := .dict #[] }) h' →
          wpAny (model X.prog X.w) X.A (spliced (backTo pos (starEach [] X.env))) (fun us s5 => wpAny (model X.prog X.w) X.A (call (.builtin "all") (.ref h'.objs.size :: us)) (EP X pins σ Q) X.xe s5) X.xe { s₄ with
            gens := s₄.gens.push (.fresh (.compStart (genE elt (.Name x px) iter scope gpos) 0 (.ref it) .none (genEnv scope (cloFrom X.env.cells scope.names []) s₄.heap.objs.size code bi X.env))),
            toks := s₄.toks + 1 + 1 + 1,
            heap := h'.push { cls := .type "generator", data := .fields #[.int s₄.gens.size 0, .str "<genexpr>" (s₄.toks + 1), .str (X.env.qual ++ "<genexpr>") (s₄.toks + 1 + 1)] } }) X.xe { s2 with heap := h3, toks := tk } := by
    intro code h3 tk more hxt hsz hP3 ht3
    obtain ⟨bm, ob, e1, e2, e3, e4, e5, e6, e7, e8⟩ := TB.bm
    refine wpAny_builtinsFor (m := X.mg) (by rw [I2.ok.glob]; exact (I2.mod.glob.keeps I2.bk).extBut hxt TB.gP) e1 e2 (hxt _ _ e4 (I2.bk _ _ e5)) e6 e7 e8 ?_
    have I3 : Inv X pins σ (upd H1 P (.tbl (ps ++ more))) { s2 with heap := h3, toks := tk } := GxR.inv_tab (more := more) (h' := h3) (g' := s2.gens) (d' := s2.drawn) (t' := tk) I2 hP (fun b u hb e => hxt b u hb e) hP3 I2.bare
    have st3 : tn 0 h3 := T.keep _ _ _ st fun b hb o e => hxt b o (nP b hb) e
    have hfp3 : ∀ b ∈ fp, FpOk X pins (upd H1 P (.tbl (ps ++ more))) b := fun b hb => by
      obtain ⟨f0, f⟩ := hfp b hb
      exact ⟨by rw [upd_ne (nP b hb)]; exact f0, f⟩
    intro h' hn' hs'
    refine Calls.spliced_nil ?_
    exact gx_go (tn := tn) (T := T) (k := k) (i := i) (s3 := { s2 with heap := h3, toks := tk }) (H3 := upd H1 P (.tbl (ps ++ more))) hr S hN ok (fun A s H cl C code fp => pg_name hN hx (.inl S.loc) (.inr S.loc)) hel I3 st3 hfp3
      (ask _ ⟨⟨ps ++ more, upd_same, ht3⟩, fun b hb => upd_ne hb⟩) hn' hs' (fun h e => ⟨_, _, _, e, rfl, rfl, rfl⟩) rfl (fun v e => by cases e) X.xe
  refine ⟨I2.nolimit, ?_⟩
  cases hf : codeAmong gpos ps.toList with
  | none =>
    refine wpAny_genexprCodeX hcode (cd.code hPs ht) (cd.tab hPs) hf fun c' h' tk hx hge hlt hco' _ htab' _ => ?_
    obtain ⟨o1, vs, f1, tf, fl, tg, inF, tx, tt, op, _, _, _, _, _, _, _, _, _, htr, _⟩ := hco'
    exact cont _ h' tk _ hx (Nat.le_trans hge (Nat.le_of_lt hlt)) htab'.2 htr
  | some cv =>
    refine wpAny_genexprCode_hit hcode (cd.code hPs ht) hf ?_
    exact cont cv s2.heap s2.toks #[] (Heap.ExtBut.refl _ _) (Nat.le_refl _) (by simpa using hPs) (by simpa using ht)
end
end Gx
/-! ### defs run where no display is being shown; the end of a law by such a def, with tables of code objects -/
namespace Ky
open PySem PySem.Spec PyProof.Rows L2
/-- what a def does where nothing is being shown (repr) -/
structure FnG (P : Program) (w : World) (K : PySem.W.Frag) (mg : Str → Option Value) (base : Heap) (k : Nat) (f : Addr) (fd : FuncData) (ps : List Str) (sp : Sp) : Prop where
  len : ∀ vs H Q E, sp vs H Q E → vs.length = ps.length
  run : ∀ (A : Around) (out : List Env) (s : Shared) (H : Hp) (given : Args) (us : List Value) (vs : List V) (Q : VK) (E : XK), A.guards = some [] → Room k A → Env0 P w K mg base A out s H → BindsTo s fd given (ps.zip us) → Vals vs us →
    sp vs H Q E → codeAny (model P w) A (.call (.ref f) given) (CR CX0 out P w H s Q E) s
structure CalG (P : Program) (w : World) (K : PySem.W.Frag) (mg : Str → Option Value) (base : Heap) (k : Nat) (x : Str) (st : Stmt) (ps : List Str) (sp : Sp) : Prop where
  ex : ∃ (f : Addr) (fd : FuncData), FnG P w K mg base k f fd ps sp ∧ FunD K x x (defArgs st) (defBody st) (defScope st) [] [] f fd ∧ mg x = some (.ref f) ∧ Binds K fd ps []
section
variable {P : Program} {w : World} {K : PySem.W.Frag} {mg : Str → Option Value} {base : Heap} {k : Nat} {x : Str} {st : Stmt} {ps : List Str} {sp : Sp}
theorem FnG.of {f : Addr} {fd : FuncData} (F : FnOk P w K mg base CX0 k f fd ps sp) : FnG P w K mg base k f fd ps sp := ⟨F.len, fun A out s H given us vs Q E _ => F.run A out s H given us vs Q E⟩
theorem CalG.of (c : CalD P w K mg base k x st ps sp) : CalG P w K mg base k x st ps sp := let ⟨f, fd, F, r⟩ := c.ex; ⟨f, fd, .of F, r⟩
/-- a def by its body -/
theorem fnG_of {f : Addr} {fd : FuncData} {N : List Str} (F : FunD K x x (defArgs st) (defBody st) (defScope st) [] [] f fd) (S : FnScope N ps (defScope st)) (len : ∀ vs H Q E, sp vs H Q E → vs.length = ps.length)
    (hbody : ∀ (f : Addr) (cdv : Value) (A : Around) (out : List Env) (s : Shared) (H : Hp) (vs : List V) (Q : VK) (E : XK), A.guards = some [] → Room k (A.deeper (envOfC x (defScope st) s.heap.objs.size f cdv)) → sp vs H Q E →
      ∃ t, PSs (cxOf CX0 P w K mg base N x (defScope st) f cdv A out s H E) (defBody st) t ∧ t { nx := fun _ H' => Q .non H', rt := Q } (start N vs) H) : FnG P w K mg base (k + 1) f fd ps sp := by
  obtain ⟨_, _, _, _, _, _, _, cdv, _, _, rfl, look, code, _, _⟩ := F.ex
  refine ⟨len, fun A out s H given us vs Q E noG room en bound rel want => ?_⟩
  have held := fun b o z => (en.bs b o z).1
  have inS := en.mod.kin.keeps held
  have many := len _ _ _ _ want
  have kinds : ∀ z ∈ ps.zip us, (defScope st).names.lookup z.1 = some .local ∨ ((defScope st).names.lookup z.1 = some .cell ∧ ((cellsFrom (s.heap.objs.size + 1) (defScope st).names []).lookup z.1).isSome = true) := fun ⟨n, u⟩ hz =>
    (S.par n (List.of_mem_zip hz).1).imp id fun q => ⟨q, PySem.W.cellsFrom_some _ _ _ (Or.inl q)⟩
  refine codeAny_call_function room.depth (inS _ _ look) rfl S.co S.gen rfl (PySem.W.codeRec_of inS code) (bound _ _ _ _ (wpAny_newFunctionEnv_cells S.kind kinds fun env he s1 laid => ?_))
  subst he
  refine ⟨(en.mod.nolimit.keeps held).keeps laid.toInCall.keep, codeAny_func ?_⟩
  obtain ⟨t, ht, hq⟩ := hbody f cdv A out s H vs Q E noG (room.deeper _) want
  refine wpAny_mono (ht.run [] s1 (start N vs) H _ (inv_start S room.hd en many rel laid) hq) (fun fl s' z => ?_) fun _ _ z => z
  cases fl with
  | ret u =>
    obtain ⟨v, _, H', J, rv, q⟩ := z
    exact (⟨v, H', J.os, J.bare, J.base, J.hok, rv, q⟩ : CE out P w H s Q u s')
  | next =>
    obtain ⟨_, H', J, q⟩ := z
    exact (⟨V.non, H', J.os, J.bare, J.base, J.hok, rfl, q⟩ : CE out P w H s Q Value.none s')
  | brk => exact (let ⟨_, _, _, q⟩ := z; q).elim
  | cont => exact (let ⟨_, _, _, q⟩ := z; q).elim
theorem calG_mk {N : List Str} (D : Here K mg x st) (S : FnScope N ps (defScope st))
    (hb : ∀ (kV doc pm : Value) (an : Option Addr) (cdv ct : Value) (us : List Value), us.length = ps.length → bindArgs (PySem.W.fnOf x x (defArgs st) (defBody st) (defScope st) .none kV doc pm an cdv ct) ⟨us, []⟩ = pure (ps.zip us))
    (len : ∀ vs H Q E, sp vs H Q E → vs.length = ps.length)
    (hbody : ∀ (f : Addr) (cdv : Value) (A : Around) (outer : List Env) (s : Shared) (H : Hp) (vs : List V) (Q : VK) (E : XK), A.guards = some [] → Room k (A.deeper (envOfC x (defScope st) s.heap.objs.size f cdv)) → sp vs H Q E →
      ∃ t, PSs (cxOf CX0 P w K mg base N x (defScope st) f cdv A outer s H E).nox (defBody st) t ∧ t { nx := fun _ H' => Q .non H', rt := Q } (start N vs) H) : CalG P w K mg base (k + 1) x st ps sp := by
  obtain ⟨f, fd, F, g⟩ := D.ex
  exact ⟨f, fd, fnG_of F S len fun f cdv A outer s H vs Q E hg hr h => (hbody f cdv A outer s H vs Q E hg hr h).imp fun _ z => ⟨z.1.nox, z.2⟩, F, g, F.bindsN hb⟩
end
/-- f(e, ..) there -/
theorem pe_g {X : Cx} {k j : Nat} {x : Str} {st : Stmt} {ps : List Str} {sp : Sp} {p pos : Pos} {e : Expr} {es : List Expr} {t : TA} (c : CalG X.prog X.w X.K X.mg X.base k x st ps sp) (noG : X.A.guards = some []) (hr : Room j X.A) (hk : k ≤ j) (hg : Gl X x) (ha : PA X (e :: es) t)
    (hdb : (x == ("__debug__" : Str)) = false := by decide) (he : starEach (e :: es) X.env = (false, eval e X.env) :: starEach es X.env := by rfl) (hpl : (backTo pos (starEach es X.env)).any (·.1) = false := by rfl) :
    PE X (.Call (.Name x p) (e :: es) [] pos) (tCall sp [] E0 t) := by
  obtain ⟨f, fd, F, D, hm, b⟩ := c.ex
  refine ⟨fun pins s σ H Q I hq => wpAny_Call_Name_kw (ld_glob I hg hm ?_ hdb)⟩
  refine PySem.W.callWith_K (h₀ := X.base) I.ok.mod.kin D.kp (thn (ha.run pos pins s σ H _ I hq) fun us s1 ⟨vs, H1, I1, rel, want⟩ => ⟨I1.kIn, ?_⟩) he hpl
  replace want : sp vs H1 Q E0 := by
    have z : sp (vs ++ []) H1 Q E0 := want
    rwa [List.append_nil] at z
  have many := rel.length.symm.trans (F.len _ _ _ _ want)
  have bound := b s1 us I1.kIn (by rw [List.append_nil]; exact many)
  rw [List.append_nil] at bound
  refine wpAny_call (codeAny_mono (F.run X.A X.stack s1 H1 ⟨us, []⟩ us vs Q _ noG (hr.mono hk) I1.env0 bound rel want) fun r s' z => ?_)
  cases r with
  | error e => exact (show False from z).elim
  | ok fl => cases fl with
    | ret u => exact I1.after z
    | next => exact (show False from z).elim
    | brk => exact (show False from z).elim
    | cont => exact (show False from z).elim
/-! ### the end of a law -/
def emptyT : Obj := { cls := .none, data := .fields #[] }
def listO (vs : List Value) : Obj := { cls := .type "list", data := .seq vs.toArray }
/-- what is tracked as the law is called: the tables; the script's list, if it isn't known otherwise -/
def endH (ts : List Addr) (a : Addr) (loose : Bool) (vs : List Value) (xs : List V) : Hp := fun b => if b ∈ ts then some (.tbl #[]) else if b = a ∧ loose = true then some (.frz (listO vs) (.lst xs)) else none
theorem endH_tab {ts : List Addr} {a : Addr} {l : Bool} {vs : List Value} {xs : List V} {b : Addr} (h : b ∈ ts) : endH ts a l vs xs b = some (.tbl #[]) := if_pos h
theorem endH_inv {ts : List Addr} {a : Addr} {l : Bool} {vs : List Value} {xs : List V} {b : Addr} {u : HO} (h : endH ts a l vs xs b = some u) : (b ∈ ts ∧ u = .tbl #[]) ∨ (b ∉ ts ∧ b = a ∧ l = true ∧ u = .frz (listO vs) (.lst xs)) := by
  unfold endH at h
  split at h
  · rename_i m
    exact .inl ⟨m, (Option.some.inj h).symm⟩
  · rename_i m
    split at h
    · rename_i c
      exact .inr ⟨m, c.1, c.2, (Option.some.inj h).symm⟩
    · cases h
theorem law_callG {P : Program} {w : World} {K : PySem.W.Frag} {mg mb : Str → Option Value} {k : Nat} {fa a : Addr} {cs : List (Addr × Addr)} {fd : FuncData} {x : Str} {sp : Sp} {st : Shared} {vs : List Value} {ns : List Int}
    (inK : K.In st.heap) (glob : st.heap.Ns mainGlobals mg) (blt : st.heap.Ns builtinsNs mb) (boot : ∀ y : Str, y ≠ "__name__" → mb y = bootBuiltins y) (lim : st.heap.NoLimit) (noGens : st.gens = #[])
    (tab : ∀ c ∈ cs, st.heap.get? c.2 = some emptyT) (out : ∀ c ∈ cs, K.lookup c.2 = none) (heads : ∀ c ∈ cs, PySem.W.CodeHd st.heap c.1 c.2)
    (bmain : ∃ (bm : Addr) (ob : Obj), mg "__builtins__" = some (.ref bm) ∧ bm ≠ builtinsNs ∧ st.heap.get? bm = some ob ∧ ob.cls = .type "module" ∧ ob.dict = some builtinsNs ∧ ob.data = .plain)
    (list : st.heap.get? a = some (listO vs)) (nums : IntsAre vs ns) (few : ns.length ≤ sizeLine) (room : Room k callerA)
    (F : ∀ base : Heap, K.In base → base.Ns mainGlobals mg → (∀ c ∈ cs, GxR.TabB base mg c.1 c.2) → FnG P w K mg base k fa fd [x] sp) (bind : ∀ (s : Shared) (u : Value), BindsTo s fd ⟨[u], []⟩ [(x, u)])
    (want : ∀ H : Hp, (∀ c ∈ cs, H c.2 = some (.tbl #[])) → SqL K H a (ns.map V.int) → sp [.ref a] H (fun v _ => v = .bl true) fun _ _ _ => False) :
    codeAny (model P w) callerA (.call (.ref fa) ⟨[.ref a], []⟩) (fun r s' => r = .ok (.ret (.bool true)) ∧ OldK st.heap s'.heap ∧ s'.os = st.os ∧ AllBare s'.gens) st := by
  let ts := cs.map Prod.snd
  have tsObj : ∀ b ∈ ts, st.heap.get? b = some emptyT := fun b hb => by
    obtain ⟨c, hc, rfl⟩ := List.mem_map.mp hb
    exact tab c hc
  have inTs : ∀ {c}, c ∈ cs → c.2 ∈ ts := fun hc => List.mem_map.mpr ⟨_, hc, rfl⟩
  have aOut : a ∉ ts := fun z => by
    have e := (tsObj a z).symm.trans list
    injection e with e
    injection e with e1 e2
    cases e1
  let free := (K.lookup a).isNone
  let H := endH ts a free vs (ns.map V.int)
  -- an object of any other sort is not tracked
  have none_ : ∀ {b : Addr} {o : Obj}, st.heap.get? b = some o → o ≠ emptyT → o ≠ listO vs → H b = none := fun {b o} e n1 n2 => by
    cases q : H b with
    | none => rfl
    | some u =>
      rcases endH_inv q with ⟨m, _⟩ | ⟨_, rfl, _, _⟩
      · exact absurd (Option.some.inj ((tsObj b m).symm.trans e)).symm n1
      · exact absurd (Option.some.inj (list.symm.trans e)).symm n2
  have kIn : K.In (hidT st.heap H) := fun b o e => by
    refine hidT_get (inK b o e) ?_
    cases q : H b with
    | none => rfl
    | some u =>
      rcases endH_inv q with ⟨m, _⟩ | ⟨_, rfl, l, _⟩
      · obtain ⟨c, hc, rfl⟩ := List.mem_map.mp m
        exact absurd ((out c hc).symm.trans e) (by simp)
      · have l2 : (K.lookup b).isNone = true := l
        rw [e] at l2
        cases l2
  have ns_ : ∀ {b : Addr} {m : Str → Option Value}, st.heap.Ns b m → (hidT st.heap H).Ns b m := fun ⟨o, es, ep, e, d, r⟩ => by
    refine ⟨o, es, ep, hidT_get e (none_ e (fun z => ?_) fun z => ?_), d, r⟩
    · rw [z] at d; cases d
    · rw [z] at d; cases d
  have modK : L2.Mod K mg (hidT st.heap H) := by
    obtain ⟨mc, z1, z2⟩ := lim
    exact ⟨kIn, ns_ glob, ⟨mb, ns_ blt, boot⟩, mc, ns_ z1, z2⟩
  have tabs : ∀ c ∈ cs, GxR.TabB (hidT st.heap H) mg c.1 c.2 := fun c hc => by
    refine ⟨?_, ?_, fun z => ?_⟩
    · obtain ⟨o, us, file, tf, fl, tg, inF, tx, tt, e, rest⟩ := heads c hc
      refine ⟨o, us, file, tf, fl, tg, inF, tx, tt, hidT_get e (none_ e (fun z => ?_) fun z => ?_), rest⟩
      · have r1 := rest.1
        rw [z] at r1; cases r1
      · have r1 := rest.1
        rw [z] at r1; injection r1 with r2; exact absurd r2 (by decide)
    · obtain ⟨bm, ob, b1, b2, b3, b4, b5, b6⟩ := bmain
      refine ⟨bm, ob, b1, b2, fun z => ?_, fun z => ?_, hidT_get b3 (none_ b3 (fun z => ?_) fun z => ?_), b4, b5, b6⟩
      · obtain ⟨o, es, ep, e, d, _⟩ := glob
        rw [z, e] at b3
        injection b3 with b3
        rw [← b3, d] at b6; cases b6
      · rw [z, tab c hc] at b3
        injection b3 with b3
        rw [← b3] at b6; cases b6
      · rw [z] at b6; cases b6
      · rw [z] at b6; cases b6
    · obtain ⟨o, es, ep, e, d, _⟩ := glob
      rw [z, tab c hc] at e
      injection e with e
      rw [← e] at d; cases d
  have valsV := vals_ints nums
  have hok : HOk P w H st.heap := fun b u q => by
    rcases endH_inv q with ⟨m, rfl⟩ | ⟨_, rfl, _, rfl⟩
    · exact tsObj b m
    · exact ⟨list, by rw [List.length_map]; exact few, vs, _, valsV, list⟩
  have sq : SqL K H a (ns.map V.int) := by
    cases q : K.lookup a with
    | none =>
      refine .inl (.inr ⟨listO vs, (if_neg aOut).trans (if_pos ⟨rfl, ?_⟩)⟩)
      show (K.lookup a).isNone = true
      rw [q] <;> rfl
    | some o =>
      have e := inK a o q
      rw [list] at e
      injection e with e
      subst e
      refine .inr ⟨_, vs.toArray, _, q, rfl, rfl, rfl, ?_, by simpa using valsV⟩
      rw [List.size_toArray, nums.length]
      exact few
  have en : Env0 P w K mg (hidT st.heap H) callerA [] st H := ⟨rfl, modK, fun b o z => of_hidT z, Nat.le_of_eq (hidT_size _ _), trivial, fun b z => (List.not_mem_nil (show b ∈ ([] : List Addr) from z)).elim, hok, .of_eq noGens⟩
  refine codeAny_mono ((F _ kIn (ns_ glob) tabs).run callerA [] st H ⟨[.ref a], []⟩ [.ref a] [.ref a] _ _ rfl room en (bind st (.ref a)) (.cons rfl .nil) (want H (fun c hc => endH_tab (inTs hc)) sq)) fun r s' z => ?_
  cases r with
  | error e => exact (show False from z).elim
  | ok fl => cases fl with
    | next => exact (show False from z).elim
    | brk => exact (show False from z).elim
    | cont => exact (show False from z).elim
    | ret u =>
      obtain ⟨v, H', os, bare, un, hok', rel, q⟩ := z
      have q2 : v = .bl true := q
      subst q2
      have q3 : u = Value.bool true := rel
      subst q3
      have here : ∀ b o, st.heap.get? b = some o → (b ∈ ts ∧ ∃ more : Array Value, s'.heap.get? b = some { cls := .none, data := .fields more }) ∨ (b ∉ ts ∧ s'.heap.get? b = some o) := fun b o e => by
        by_cases m : b ∈ ts
        · obtain ⟨more, z⟩ := un.tbls b #[] (endH_tab m)
          exact .inl ⟨m, _, hok' b _ z⟩
        · refine .inr ⟨m, ?_⟩
          cases q : H b with
          | none => exact un.keep b o e q (fun z => (List.not_mem_nil (show b ∈ ([] : List Addr) from z)).elim) (fun z => (List.not_mem_nil z).elim)
          | some u =>
            rcases endH_inv q with ⟨m2, _⟩ | ⟨_, rfl, _, rfl⟩
            · exact absurd m2 m
            · have z := (hok' b _ (un.frzs b _ _ q)).1
              rw [list] at e
              rw [← Option.some.inj e]
              exact z
      refine ⟨rfl, ⟨fun b o e => ?_, fun b o e => ?_⟩, os, bare⟩
      · rcases here b o e with ⟨m, more, z⟩ | ⟨_, z⟩
        · obtain ⟨c, hc, rfl⟩ := List.mem_map.mp m
          have eT := Option.some.inj ((tab c hc).symm.trans e)
          subst eT
          exact .inr (.inl ⟨((heads c hc).tab (tab c hc)).isCodeTable, rfl, #[], more, rfl, by rw [Array.empty_append]; exact z⟩)
        · exact .inl z
      · rcases here b o e with ⟨_, _, z⟩ | ⟨_, z⟩
        · exact ⟨_, z⟩
        · exact ⟨_, z⟩
/-! ### repr -/
def rRepr (K : PySem.W.Frag) : List V → Hp → VK → Prop := fun xs H Q => ∃ (a : Addr) (d : PyData), xs = [.ref a] ∧ Dp K H (.ref a) d ∧ d.showable = true ∧ d.hasDict = false ∧ d.depth < 100 ∧ d.shown.length ≤ sizeLine ∧ Q (.str d.shown) H
theorem call_reprG {X : Cx} {k : Nat} (noG : X.A.guards = some []) (hr : Room k X.A) : CallR X (.builtin "repr") (rRepr X.K) := by
  intro pins s σ H xs us Q I r h
  obtain ⟨a, d, rfl, hd, h1, h2, h3, h4, q⟩ := h
  obtain ⟨u, rfl, e⟩ := vals1 r
  have e2 : u = Value.ref a := e
  subst e2
  obtain ⟨as, rd⟩ := Dp.reads I d _ _ hd rfl
  refine repr_of_reads' rd h1 (PyData.noDict_hsm h2) noG ?_ (fun _ _ z => z) (fun h' u tk z => ⟨.str _, H, I.kept z, ⟨_, rfl⟩, q⟩) h4
  have := hr.un
  omega
/-! ### a def with a table of code objects -/
structure HereT (K : PySem.W.Frag) (mg : Str → Option Value) (x : Str) (st : Stmt) (c : Addr) : Prop where
  ex : ∃ (f : Addr) (fd : FuncData), FunD K x x (defArgs st) (defBody st) (defScope st) [] [] f fd ∧ mg x = some (.ref f) ∧ fd.code = .ref c
section
variable {P : Program} {w : World} {K : PySem.W.Frag} {mg : Str → Option Value} {base : Heap} {k : Nat} {x : Str} {st : Stmt} {ps : List Str} {sp : Sp} {c : Addr}
theorem calT_mk {N : List Str} (D : HereT K mg x st c) (S : FnScope N ps (defScope st))
    (hb : ∀ (kV doc pm : Value) (an : Option Addr) (cdv ct : Value) (us : List Value), us.length = ps.length → bindArgs (PySem.W.fnOf x x (defArgs st) (defBody st) (defScope st) .none kV doc pm an cdv ct) ⟨us, []⟩ = pure (ps.zip us))
    (len : ∀ vs H Q E, sp vs H Q E → vs.length = ps.length)
    (hbody : ∀ (f : Addr) (cdv : Value) (A : Around) (outer : List Env) (s : Shared) (H : Hp) (vs : List V) (Q : VK) (E : XK), cdv = .ref c → Room k (A.deeper (envOfC x (defScope st) s.heap.objs.size f cdv)) → sp vs H Q E →
      ∃ t, PSs (cxOf CX0 P w K mg base N x (defScope st) f cdv A outer s H E).nox (defBody st) t ∧ t { nx := fun _ H' => Q .non H', rt := Q } (start N vs) H) : CalD P w K mg base (k + 1) x st ps sp := by
  obtain ⟨f, fd, F, g, hc⟩ := D.ex
  have hbs := F.bindsN hb
  have F2 := F
  obtain ⟨_, _, _, _, _, _, _, cdv, _, _, rfl, look, code, _, _⟩ := F2.ex
  refine ⟨f, _, fn_of look code S len fun A outer s H vs Q E hr h => ?_, F, g, hbs⟩
  obtain ⟨t, h1, h2⟩ := hbody f cdv A outer s H vs Q E hc hr h
  exact ⟨t, h1.nox, h2⟩
end
/-! ### heaps in which tables of code objects may have grown -/
def GrO (o o' : HO) : Prop := o' = o ∨ ∃ ps ps' : Array Value, o = .tbl ps ∧ o' = .tbl ps' ∧ TriplesOk ps'.toList
def Gro (H H' : Hp) : Prop := ∀ b o, H b = some o → ∃ o', H' b = some o' ∧ GrO o o'
theorem GrO.trans {a b c : HO} (h : GrO a b) (h2 : GrO b c) : GrO a c := by
  rcases h with rfl | ⟨ps, ps', rfl, rfl, t⟩
  · exact h2
  · rcases h2 with rfl | ⟨qs, qs', _, rfl, t2⟩
    · exact .inr ⟨ps, ps', rfl, rfl, t⟩
    · exact .inr ⟨ps, qs', rfl, rfl, t2⟩
theorem Gro.refl (H : Hp) : Gro H H := fun b o e => ⟨o, e, .inl rfl⟩
theorem Gro.trans {H H1 H2 : Hp} (h : Gro H H1) (h2 : Gro H1 H2) : Gro H H2 := fun b o e => by
  obtain ⟨o1, e1, g1⟩ := h b o e
  obtain ⟨o2, e2, g2⟩ := h2 b o1 e1
  exact ⟨o2, e2, g1.trans g2⟩
theorem Gro.of {H H' : Hp} (h : Same H H') : Gro H H' := fun b o e => ⟨o, h b o e, .inl rfl⟩
theorem Gro.tab {H H' : Hp} {P : Addr} (h : GxR.TabG H P) (t : GxR.Tabbed P H H') : Gro H H' := fun b o e => by
  obtain ⟨ps, hp, _⟩ := h
  obtain ⟨⟨ps', hp', t'⟩, r⟩ := t
  by_cases hb : b = P
  · rw [hb, hp] at e
    cases e
    exact ⟨_, by rw [hb]; exact hp', .inr ⟨ps, ps', rfl, rfl, t'⟩⟩
  · exact ⟨o, by rw [r b hb]; exact e, .inl rfl⟩
theorem Gro.at {H H' : Hp} (h : Gro H H') {b : Addr} {o : HO} (e : H b = some o) (n : ∀ ps, o ≠ .tbl ps := by intro _ z; cases z) : H' b = some o := by
  obtain ⟨o', e', g⟩ := h b o e
  rcases g with rfl | ⟨ps, _, rfl, _⟩
  · exact e'
  · exact absurd rfl (n ps)
theorem Gro.tg {H H' : Hp} {P : Addr} (h : Gro H H') (t : GxR.TabG H P) : GxR.TabG H' P := by
  obtain ⟨ps, hp, tr⟩ := t
  obtain ⟨o', e', g⟩ := h P _ hp
  rcases g with rfl | ⟨_, ps', _, rfl, t'⟩
  · exact ⟨ps, e', tr⟩
  · exact ⟨ps', e', t'⟩
theorem Gro.seq {K : PySem.W.Frag} {H H' : Hp} {a : Addr} {xs : List V} (e : Gro H H') (h : SqL K H a xs) : SqL K H' a xs := by
  rcases h with (h | ⟨o, h⟩) | h
  · exact .inl (.inl (e.at h))
  · exact .inl (.inr ⟨o, e.at h⟩)
  · exact .inr h
theorem Gro.tupS {K : PySem.W.Frag} {H H' : Hp} {a : Addr} {xs : List V} (e : Gro H H') (h : SqT K H a xs) : SqT K H' a xs := by
  rcases h with (h | ⟨o, h⟩) | h
  · exact .inl (.inl (e.at h))
  · exact .inl (.inr ⟨o, e.at h⟩)
  · exact .inr h
mutual
theorem Dp.gro {K : PySem.W.Frag} {H H' : Hp} (s : Gro H H') : ∀ (d : PyData) (v : V), Dp K H v d → Dp K H' v d
  | .none, _, h => by cases h; exact .non
  | .bool b, _, h => by cases h; exact .bl b
  | .int i, _, h => by cases h; exact .int i
  | .str x, _, h => by cases h; exact .str x
  | .list ds, _, h => by
    cases h with
    | lst h1 h2 => exact .lst (s.seq h1) (DpAll.gro s ds _ h2)
  | .tuple ds, _, h => by
    cases h with
    | tup h1 h2 => exact .tup (s.tupS h1) (DpAll.gro s ds _ h2)
  | .dict _, _, h => nomatch h
theorem DpAll.gro {K : PySem.W.Frag} {H H' : Hp} (s : Gro H H') : ∀ (ds : List PyData) (vs : List V), DpAll K H vs ds → DpAll K H' vs ds
  | [], _, h => by cases h; exact .nil
  | d :: ds, _, h => by
    cases h with
    | cons h1 h2 => exact .cons (Dp.gro s d _ h1) (DpAll.gro s ds _ h2)
end
/-- all but the object at a -/
def OffG (a : Addr) (H H' : Hp) : Prop := ∀ b o, b ≠ a → H b = some o → ∃ o', H' b = some o' ∧ GrO o o'
theorem OffG.refl (a : Addr) (H : Hp) : OffG a H H := fun b o _ e => ⟨o, e, .inl rfl⟩
theorem OffG.trans {a : Addr} {H H1 H2 : Hp} (h : OffG a H H1) (h2 : OffG a H1 H2) : OffG a H H2 := fun b o n e => by
  obtain ⟨o1, e1, g1⟩ := h b o n e
  obtain ⟨o2, e2, g2⟩ := h2 b o1 n e1
  exact ⟨o2, e2, g1.trans g2⟩
theorem OffG.of {a : Addr} {H H' : Hp} (h : Gro H H') : OffG a H H' := fun b o _ e => h b o e
theorem OffG.off {a : Addr} {H H' : Hp} (h : Off a H H') : OffG a H H' := fun b o n e => ⟨o, h b o n e, .inl rfl⟩
theorem OffG.at {a : Addr} {H H' : Hp} (h : OffG a H H') {b : Addr} {o : HO} (m : b ≠ a) (e : H b = some o) (n : ∀ ps, o ≠ .tbl ps := by intro _ z; cases z) : H' b = some o := by
  obtain ⟨o', e', g⟩ := h b o m e
  rcases g with rfl | ⟨ps, _, rfl, _⟩
  · exact e'
  · exact absurd rfl (n ps)
theorem OffG.tg {a : Addr} {H H' : Hp} {P : Addr} (h : OffG a H H') (m : P ≠ a) (t : GxR.TabG H P) : GxR.TabG H' P := by
  obtain ⟨ps, hp, tr⟩ := t
  obtain ⟨o', e', g⟩ := h P _ m hp
  rcases g with rfl | ⟨_, ps', _, rfl, t'⟩
  · exact ⟨ps, e', tr⟩
  · exact ⟨ps', e', t'⟩
theorem DeckAt.gro {H H' : Hp} {a : Addr} (h : DeckAt H a) (s : Gro H H') : DeckAt H' a := by
  obtain ⟨x, y, e, h0, h1⟩ := h
  exact ⟨x, y, s.at e, h0, h1⟩
theorem TabG.ne_deck {H : Hp} {a P : Addr} (t : GxR.TabG H P) (h : DeckAt H a) : P ≠ a := fun z => by
  obtain ⟨ps, e, _⟩ := t
  obtain ⟨x, y, e2, _⟩ := h
  rw [z, e2] at e
  cases e
/-! ### the end, for such laws -/
theorem walk_ofG {l : PySem.W.OpenLaw} {n k : Nat} {q : Program} {loose : List Str} {XP : (Str → Option Value) → Heap → Prop} {YP : World → Heap → Prop} {d : DefRec} {x : Str}
    (hn : l.most = some n) (hn2 : n ≤ sizeLine) (hdf : d.params.defaults = []) (hr : Room k callerA)
    (F : ∀ (w : World) (mg : Str → Option Value) (fa : Addr) (h : Heap), YP w h → h.Ns mainGlobals mg → mg d.name = some (.ref fa) →
      ∃ (K : PySem.W.Frag) (fd : FuncData) (cs : List (Addr × Addr)) (sp : Sp), K.In h ∧ (∀ c ∈ cs, h.get? c.2 = some emptyT) ∧ (∀ c ∈ cs, K.lookup c.2 = none) ∧ (∀ c ∈ cs, PySem.W.CodeHd h c.1 c.2) ∧ (∀ (s : Shared) (u : Value), BindsTo s fd ⟨[u], []⟩ [(x, u)]) ∧
        (∀ (H : Hp) (a : Addr) (ns : List Int), ns.length ≤ n → (∀ c ∈ cs, H c.2 = some (.tbl #[])) → SqL K H a (ns.map V.int) → sp [.ref a] H (fun v _ => v = .bl true) fun _ _ _ => False) ∧
        ∀ base : Heap, K.In base → base.Ns mainGlobals mg → (∀ c ∈ cs, GxR.TabB base mg c.1 c.2) → FnG l.prog w K mg base k fa fd [x] sp) :
    PySem.W.WalkO q loose XP YP l.row.toRowW d [] (fun f vs => PySem.call f vs) := by
  refine Att.attach_callB hn hdf fun w s₀ st mg mb fa o pm cd doc a vs ns G Y ho hd hcd hmg hobj hints hlen hbits hg => ?_
  obtain ⟨K, fd, cs, sp, KX, tab, out, heads, bind, want, hF⟩ := F w mg fa _ Y G.T.g hmg
  exact law_callG KX G.T.g G.T.b G.T.builtins G.T.nolimit hg tab out heads G.T.bmain hobj hints (Nat.le_trans hlen hn2) hr hF bind fun H hH hS => want H a ns hlen hH hS
end Ky
/-! ### words as naturals -/
namespace Ky
open PySem PySem.Spec PyProof.Rows L2
theorem or_eq : ∀ (k n m : Nat), n < 2 ^ k → m < 2 ^ k → n ||| m = (n ^^^ m) + (n &&& m)
  | 0, n, m, hn, hm => by
    have e1 : n = 0 := by simpa using hn
    have e2 : m = 0 := by simpa using hm
    subst e1 e2
    rfl
  | k + 1, n, m, hn, hm => by
    have ih := or_eq k (n / 2) (m / 2) (by rw [Nat.pow_succ] at hn; omega) (by rw [Nat.pow_succ] at hm; omega)
    rw [← Nat.or_div_two, ← Nat.xor_div_two, ← Nat.and_div_two] at ih
    have h1 : (n ||| m) % 2 = (n ^^^ m) % 2 + (n &&& m) % 2 := by
      have a1 := Nat.or_mod_two_pow (a := n) (b := m) (n := 1)
      have a2 := Nat.xor_mod_two_pow (a := n) (b := m) (n := 1)
      have a3 := Nat.and_mod_two_pow (a := n) (b := m) (n := 1)
      rw [Nat.pow_one] at a1 a2 a3
      rw [a1, a2, a3]
      rcases Nat.mod_two_eq_zero_or_one n with e | e <;> rcases Nat.mod_two_eq_zero_or_one m with f | f <;> rw [e, f] <;> rfl
    omega
theorem lt_pow_self2 (n m : Nat) : n < 2 ^ (n + m) ∧ m < 2 ^ (n + m) := by
  have h := Nat.lt_two_pow_self (n := n + m)
  omega
theorem bitXor_nat (n m : Nat) : Builtin.bitXor (n : Int) (m : Int) = ((n ^^^ m : Nat) : Int) := by
  have h := or_eq (n + m) n m (lt_pow_self2 n m).1 (lt_pow_self2 n m).2
  show Builtin.bitOr (n : Int) (m : Int) - Builtin.bitAnd (n : Int) (m : Int) = _
  have e2 : Builtin.bitAnd (n : Int) (m : Int) = ((n &&& m : Nat) : Int) := by
    have h1 : (0 : Int) ≤ (n : Int) := by omega
    have h2 : (0 : Int) ≤ (m : Int) := by omega
    unfold Builtin.bitAnd
    simp [h1, h2]
  rw [bitOr_nn (by omega) (by omega), e2, Int.toNat_natCast, Int.toNat_natCast, h]
  omega
/-- how many bits -/
def bl (n : Nat) : Nat := if n = 0 then 0 else n.log2 + 1
theorem bl_int (n : Nat) : Builtin.Int.intBits (n : Int) = bl n := by
  unfold Builtin.Int.intBits bl
  by_cases h : n = 0
  · subst h
    rfl
  · have h1 : ¬ ((n : Int) == 0) = true := by simpa using h
    rw [if_neg h1, if_neg h]
    rfl
theorem bl_le (n w : Nat) : bl n ≤ w ↔ n < 2 ^ w := by
  unfold bl
  by_cases h : n = 0
  · subst h
    rw [if_pos rfl]
    exact ⟨fun _ => Nat.pow_pos (by decide), fun _ => Nat.zero_le _⟩
  · rw [if_neg h]
    have := Nat.log2_lt (n := n) (k := w) h
    omega
/-- the width -/
def wid (n : Nat) : Nat := max 1 (bl n)
theorem wid_of {n f : Nat} (h1 : 1 ≤ f) (h : n < 2 ^ f) (h2 : f = 1 ∨ 2 ^ (f - 1) ≤ n) : f = wid n := by
  have a := (bl_le n f).mpr h
  unfold wid
  rcases h2 with e | e
  · omega
  · have b : ¬ bl n ≤ f - 1 := fun q => by
      have := (bl_le n (f - 1)).mp q
      omega
    omega
/-- the places of the bits below t -/
def plc (n t : Nat) : List Nat := (List.range t).filter fun k => n.testBit k
theorem plc_succ (n t : Nat) : plc n (t + 1) = plc n t ++ if n.testBit t = true then [t] else [] := by
  unfold plc
  rw [List.range_succ, List.filter_append]
  congr 1
  by_cases h : n.testBit t = true
  · rw [if_pos h]
    simp [h]
  · rw [if_neg h]
    simp [h]
theorem plc_more {n t : Nat} (h : n < 2 ^ t) : ∀ d, plc n (t + d) = plc n t
  | 0 => rfl
  | d + 1 => by
    have e : n.testBit (t + d) = false := Nat.testBit_lt_two_pow (Nat.lt_of_lt_of_le h (Nat.pow_le_pow_right (by decide) (Nat.le_add_right _ _)))
    rw [show t + (d + 1) = (t + d) + 1 from rfl, plc_succ, plc_more h d, if_neg (by rw [e]; decide), List.append_nil]
theorem plc_eq {n t s : Nat} (h : n < 2 ^ t) (h2 : n < 2 ^ s) : plc n t = plc n s := by
  rcases Nat.le_total t s with e | e
  · obtain ⟨d, rfl⟩ := Nat.le.dest e
    exact (plc_more h d).symm
  · obtain ⟨d, rfl⟩ := Nat.le.dest e
    exact plc_more h2 d
theorem plc_len (n t : Nat) : (plc n t).length ≤ t := by
  unfold plc
  exact Nat.le_trans (List.length_filter_le _ _) (by rw [List.length_range]; exact Nat.le_refl _)
theorem testBit_mod (n t : Nat) : n.testBit t = decide (n / 2 ^ t % 2 = 1) := Nat.testBit_eq_decide_div_mod_eq
/-- bits by halves -/
theorem low_succ (x t : Nat) : x % 2 ^ (t + 1) = x % 2 ^ t + 2 ^ t * (x / 2 ^ t % 2) := by
  rw [Nat.pow_succ, Nat.mod_mul]
theorem xor_bit (n m t : Nat) : (n ^^^ m) / 2 ^ t % 2 = if n / 2 ^ t % 2 = m / 2 ^ t % 2 then 0 else 1 := by
  have h : (n ^^^ m).testBit t = (n.testBit t ^^ m.testBit t) := Nat.testBit_xor ..
  rw [testBit_mod, testBit_mod, testBit_mod] at h
  rcases Nat.mod_two_eq_zero_or_one (n / 2 ^ t) with e | e <;> rcases Nat.mod_two_eq_zero_or_one (m / 2 ^ t) with f | f <;> rcases Nat.mod_two_eq_zero_or_one ((n ^^^ m) / 2 ^ t) with g | g <;> simp_all
theorem half_pow (n t : Nat) : n / 2 ^ t / 2 = n / 2 ^ (t + 1) := by
  rw [Nat.div_div_eq_div_mul, Nat.pow_succ]
theorem lt_of_div {n t : Nat} (h : n / 2 ^ t = 0) : n < 2 ^ t := by
  have := Nat.div_eq_zero_iff.mp h
  have p : 0 < 2 ^ t := Nat.pow_pos (by decide)
  omega
theorem nat_zero {a : Nat} (h : ¬ decide ((0 : Int) < (a : Int)) = true) : a = 0 := by
  have h1 : ¬ (0 : Int) < (a : Int) := fun e => h (decide_eq_true e)
  omega
theorem nat_pos {a : Nat} (h : decide ((0 : Int) < (a : Int)) = true) : a ≠ 0 := by
  have h1 : (0 : Int) < (a : Int) := of_decide_eq_true h
  omega
theorem cast_half (a : Nat) : (a : Int) / 2 = ((a / 2 : Nat) : Int) := by omega
theorem cast_mod2 (a : Nat) : (a : Int) % 2 = ((a % 2 : Nat) : Int) := by omega
theorem half_lt {a b : Nat} (h : ¬ (a = 0 ∧ b = 0)) : a / 2 + b / 2 < a + b := by omega
theorem half_lt1 {a : Nat} (h : a ≠ 0) : a / 2 < a := by omega
end Ky
/-! ### sums of words -/
namespace Ky
def xorAll (l : List Nat) : Nat := l.foldl (fun a b => a ^^^ b) 0
theorem xor_fold (l : List Nat) : ∀ a, l.foldl (fun a b => a ^^^ b) a = a ^^^ xorAll l := by
  induction l with
  | nil => intro a; show a = a ^^^ 0; rw [Nat.xor_zero]
  | cons x l ih =>
    intro a
    show l.foldl (fun a b => a ^^^ b) (a ^^^ x) = a ^^^ l.foldl (fun a b => a ^^^ b) (0 ^^^ x)
    rw [ih, ih, Nat.zero_xor, Nat.xor_assoc]
theorem xorAll_cons (x : Nat) (l : List Nat) : xorAll (x :: l) = x ^^^ xorAll l := by
  show l.foldl (fun a b => a ^^^ b) (0 ^^^ x) = _
  rw [xor_fold, Nat.zero_xor]
theorem xorAll_append (l m : List Nat) : xorAll (l ++ m) = xorAll l ^^^ xorAll m := by
  unfold xorAll
  rw [List.foldl_append, xor_fold m]
  rfl
theorem xorAll_perm {l m : List Nat} (h : l.Perm m) : xorAll l = xorAll m := by
  induction h with
  | nil => rfl
  | cons x _ ih => rw [xorAll_cons, xorAll_cons, ih]
  | swap x y l => rw [xorAll_cons, xorAll_cons, xorAll_cons, xorAll_cons, ← Nat.xor_assoc, ← Nat.xor_assoc, Nat.xor_comm y x]
  | trans _ _ h1 h2 => rw [h1, h2]
theorem xorAll_lt {k : Nat} : ∀ {l : List Nat}, (∀ n ∈ l, n < 2 ^ k) → xorAll l < 2 ^ k
  | [], _ => Nat.pow_pos (by decide)
  | x :: l, h => by
    rw [xorAll_cons]
    exact Nat.xor_lt_two_pow (h x List.mem_cons_self) (xorAll_lt fun n hn => h n (List.mem_cons_of_mem _ hn))
theorem xorAll_take {l : List Nat} {i n : Nat} (e : l[i]? = some n) : xorAll (l.take (i + 1)) = xorAll (l.take i) ^^^ n := by
  rw [List.take_add_one, e, xorAll_append]
  show _ ^^^ xorAll [n] = _
  rw [xorAll_cons]
  show _ ^^^ (n ^^^ 0) = _
  rw [Nat.xor_zero]
theorem xor_div (a b i : Nat) : (a ^^^ b) / 2 ^ i = (a / 2 ^ i) ^^^ (b / 2 ^ i) := by
  rw [← Nat.shiftRight_eq_div_pow, ← Nat.shiftRight_eq_div_pow, ← Nat.shiftRight_eq_div_pow, Nat.shiftRight_xor_distrib]
theorem xor_mod2 (a b : Nat) : (a ^^^ b) % 2 = (a % 2 + b % 2) % 2 := by
  have z := Nat.xor_mod_two_pow (a := a) (b := b) (n := 1)
  rw [Nat.pow_one] at z
  rw [z]
  rcases Nat.mod_two_eq_zero_or_one a with e | e <;> rcases Nat.mod_two_eq_zero_or_one b with f | f <;> rw [e, f] <;> rfl
theorem sum_bits (i : Nat) : ∀ l : List Nat, (l.map fun n => n / 2 ^ i % 2).sum % 2 = xorAll l / 2 ^ i % 2
  | [] => by
    show 0 % 2 = 0 / 2 ^ i % 2
    rw [Nat.zero_div]
  | x :: l => by
    have ih := sum_bits i l
    rw [xorAll_cons, xor_div, xor_mod2, ← ih, List.map_cons, List.sum_cons]
    omega
theorem half_step (n i : Nat) : n / 2 ^ i / 2 = n / 2 ^ (i + 1) := by
  rw [Nat.div_div_eq_div_mul, Nat.pow_succ]
theorem plc_bl {n t : Nat} (h : n < 2 ^ t) : plc n (bl n) = plc n t := by
  have h1 := (bl_le n t).mpr h
  have h2 := (bl_le n (bl n)).mp (Nat.le_refl _)
  have e := plc_more h2 (t - bl n)
  rw [show bl n + (t - bl n) = t by omega] at e
  exact e.symm
end Ky
/-! ### the promises of the words' functions -/
namespace Ky
open PySem PySem.Spec PyProof.Rows L2
def isIntD : PyData → Int → Bool
  | .int i, l => decide (l ≤ i)
  | _, _ => false
def spIsInt (K : PySem.W.Frag) : Sp := fun vs H Q _ => ∃ (x : V) (d : PyData) (l : Int), vs = [x, .int l] ∧ Dp K H x d ∧ Q (.bl (isIntD d l)) H
def spCheckWord : Sp := fun vs H Q _ => ∃ n : Nat, vs = [.int (n : Int)] ∧ Q .non H
def spAdded : Sp := fun vs H Q _ => ∃ n m : Nat, vs = [.int (n : Int), .int (m : Int)] ∧ Q (.int ((n ^^^ m : Nat) : Int)) H
def intsV (l : List Nat) : List V := l.map fun (k : Nat) => V.int (k : Int)
def spBits : Sp := fun vs H Q _ => ∃ n : Nat, vs = [.int (n : Int)] ∧ bl n ≤ 100000 ∧ ∀ (H' : Hp) (p : Addr), Same H H' → H' p = some (.tup (intsV (plc n (bl n)))) → Q (.ref p) H'
def spWidth : Sp := fun vs H Q _ => ∃ n : Nat, vs = [.int (n : Int)] ∧ Q (.int (wid n : Int)) H
def isWordD : PyData → Nat → Bool
  | .int i, w => decide (0 ≤ i) && decide (i < 2 ^ w)
  | _, _ => false
def spIsWord (K : PySem.W.Frag) : Sp := fun vs H Q _ => ∃ (x : V) (d : PyData) (w : Nat), vs = [.int (w : Int), x] ∧ 1 ≤ w ∧ Dp K H x d ∧ Q (.bl (isWordD d w)) H
/-- a drawn word -/
def spWord : Sp := fun vs H Q _ => ∃ (a : Addr) (most : Nat), vs = [.ref a, .int (most : Int)] ∧ DeckAt H a ∧ most ≤ 1000 ∧ ∀ (n : Nat) (H' : Hp), n < 2 ^ (most + 2) → Off a H H' → DeckAt H' a → Q (.int (n : Int)) H'
def spSum : Sp := fun vs H Q _ => ∃ n m : Nat, vs = [.int (n : Int), .int (m : Int)] ∧ n < 2 ^ 1100 ∧ m < 2 ^ 1100 ∧ ∀ H', Same H H' → Q (.int ((n ^^^ m : Nat) : Int)) H'
def spPower : Sp := fun vs H Q _ => ∃ n : Nat, vs = [.int (n : Int)] ∧ n ≤ 100000 ∧ Q (.int ((2 ^ n : Nat) : Int)) H
def spPlaces : Sp := fun vs H Q _ => ∃ n : Nat, vs = [.int (n : Int)] ∧ bl n ≤ 100000 ∧ ∀ (H' : Hp) (p : Addr), Same H H' → H' p = some (.tup (intsV (plc n (bl n)))) → Q (.ref p) H'
def spWidthL : Sp := fun vs H Q _ => ∃ n : Nat, vs = [.int (n : Int)] ∧ bl n ≤ 100000 ∧ ∀ H', Same H H' → Q (.int (wid n : Int)) H'
def spRight : Sp := fun vs H Q _ => ∃ a : Addr, vs = [.ref a] ∧ DeckAt H a ∧ ∀ H', Off a H H' → Q (.bl true) H'
theorem cmulx {n m a b : Nat} (h1 : n < 2 ^ a) (h2 : m < 2 ^ b) (h : a + b ≤ 134217728) : CMulX (n : Int) (m : Int) := mulx_ok (a := a) (b := b) (by simpa using h1) (by simpa using h2) h
theorem cast_pow (t : Nat) : ((2 ^ t : Nat) : Int) = (2 : Int) ^ t := by
  rw [Int.natCast_pow]
  rfl
theorem bl_pow_le {n w : Nat} (h : n < 2 ^ w) : bl n ≤ w := (bl_le n w).mpr h
theorem intsV_map (l : List Nat) : intsV l = (l.map fun k : Nat => (k : Int)).map V.int := by
  unfold intsV
  rw [List.map_map]
  rfl
/-- two tuples of naturals -/
theorem dpT {K : PySem.W.Frag} {H : Hp} {p : Addr} (l : List Nat) (h : H p = some (.tup (intsV l))) : Dp K H (.ref p) (.tuple ((l.map fun k : Nat => (k : Int)).map PyData.int)) := by
  rw [intsV_map] at h
  exact .tup (SqT.of h) (dpI _)
theorem wid_pos (n : Nat) : 1 ≤ wid n := by
  unfold wid
  omega
theorem wid_lt (n : Nat) : n < 2 ^ wid n := (bl_le n (wid n)).mp (by unfold wid; omega)
theorem wid_le {n w : Nat} (hw : 1 ≤ w) : n < 2 ^ w ↔ wid n ≤ w := by
  have := bl_le n w
  unfold wid
  omega
theorem isWord_nat (n w : Nat) : isWordD (.int (n : Int)) w = decide (n < 2 ^ w) := by
  show (decide (0 ≤ (n : Int)) && decide ((n : Int) < 2 ^ w)) = _
  rw [decide_eq_true (by omega : 0 ≤ (n : Int)), Bool.true_and, ← cast_pow]
  by_cases h : n < 2 ^ w
  · rw [decide_eq_true h, decide_eq_true (Int.ofNat_lt.mpr h)]
  · rw [decide_eq_false h, decide_eq_false (fun e => h (Int.ofNat_lt.mp e))]
theorem isWord_3 (n low : Nat) (h : 1 ≤ low) : [isWordD (.int (n : Int)) (wid n), isWordD (.int (n : Int)) low, isWordD (.int (n : Int)) (wid n + 1)] = [true, decide ((wid n : Int) ≤ (low : Int)), true] := by
  have h1 := wid_lt n
  have h2 : n < 2 ^ (wid n + 1) := Nat.lt_trans h1 (Nat.pow_lt_pow_right (by decide) (by omega))
  rw [isWord_nat, isWord_nat, isWord_nat, decide_eq_true h1, decide_eq_true h2]
  have h3 := wid_le (n := n) h
  by_cases h4 : n < 2 ^ low
  · rw [decide_eq_true h4, decide_eq_true (Int.ofNat_le.mpr (h3.mp h4))]
  · rw [decide_eq_false h4, decide_eq_false (fun e => h4 (h3.mpr (Int.ofNat_le.mp e)))]
theorem isWord_less {n : Nat} (h : 1 < wid n) : isWordD (.int (n : Int)) (wid n - 1) = false := by
  rw [isWord_nat]
  refine decide_eq_false fun e => ?_
  have := (wid_le (n := n) (w := wid n - 1) (by omega)).mp e
  omega
theorem isWord_pow (low : Nat) : [isWordD (.int ((2 ^ low : Nat) : Int)) low, isWordD (.int (((2 ^ low : Nat) : Int) - 1)) low] = [false, true] := by
  have hp : 0 < 2 ^ low := Nat.pow_pos (by decide)
  rw [show (((2 ^ low : Nat) : Int) - 1) = ((2 ^ low - 1 : Nat) : Int) by omega, isWord_nat, isWord_nat, decide_eq_false (Nat.lt_irrefl _), decide_eq_true (by omega)]
theorem isWord_neg {i : Int} (h : i < 0) (w : Nat) : isWordD (.int i) w = false := by
  show (decide (0 ≤ i) && _) = false
  rw [decide_eq_false (by omega), Bool.false_and]
def spCheckNum : Sp := fun vs H Q _ => ∃ n l : Nat, vs = [.int (n : Int), .int (l : Int)] ∧ l ≤ n ∧ Q .non H
def isBelowD : PyData → Int → Bool
  | .int i, t => decide (0 ≤ i) && decide (i < t)
  | _, _ => false
def spIsBelow (K : PySem.W.Frag) : Sp := fun vs H Q _ => ∃ (x : V) (d : PyData) (t : Int), vs = [x, .int t] ∧ Dp K H x d ∧ Q (.bl (isBelowD d t)) H
theorem isBelow_no {d : PyData} {t : Int} (h : ¬ isIntD d 0 = true) : isBelowD d t = isIntD d 0 := by
  cases d with
  | int i =>
    have e : isIntD (.int i) 0 = false := Bool.not_eq_true _ ▸ h
    rw [e]
    show (decide (0 ≤ i) && decide (i < t)) = false
    have e2 : decide (0 ≤ i) = false := e
    rw [e2, Bool.false_and]
  | _ => rfl
theorem isBelow_nat {k t : Nat} (h : k < t) : isBelowD (.int (k : Int)) (t : Int) = true := by
  show (decide (0 ≤ (k : Int)) && decide ((k : Int) < (t : Int))) = true
  rw [decide_eq_true (Int.natCast_nonneg k), decide_eq_true (Int.ofNat_lt.mpr h)]
  rfl
end Ky
/-! ### all(..) over a list or a tuple of data; the bundles that laws with tables need -/
namespace Ky
open PySem PySem.Spec PyProof.Rows L2
/-- a list or a tuple walked -/
def iSeq (K : PySem.W.Frag) (tl : TE) : TI := fun σ H R => tl σ H fun x H1 => ∃ a, x = .ref a ∧ (((∃ xs, SqL K H1 a xs) ∧ R (Itl K a) H1) ∨ ((∃ xs, SqT K H1 a xs) ∧ R (Itt K a) H1))
theorem pi_seq {X : Cx} {tg l : Expr} {tl : TE} (hl : PE X l tl) : PI X tg l (iSeq X.K tl) := by
  refine ⟨fun pins s σ H R I h => thn (hl.run pins s σ H _ I h) fun v s1 ⟨x, H1, I1, r1, a, ex, q⟩ => ?_⟩
  subst ex
  have ev : v = Value.ref a := r1
  subst ev
  have fp : ∀ b ∈ [s1.heap.objs.size], FpOk X pins H1 b := fun b hb => by
    rw [List.mem_singleton.mp hb]
    exact I1.fpOk (Nat.le_refl _) (I1.hok.fresh (Nat.le_refl _))
  have kept : ∀ o : Obj, Inv X pins σ H1 { s1 with heap := s1.heap.push o } := fun o => I1.kept (t' := s1.toks) fun b u z => Heap.get?_push_of_some _ z
  rcases q with ⟨⟨xs, sq⟩, q⟩ | ⟨⟨xs, sq⟩, q⟩
  · obtain ⟨its, rv, p, _⟩ := I1.list sq
    exact wpAny_pyIter_list p.isList ⟨s1.heap.objs.size, [s1.heap.objs.size], _, _, H1, rfl, kept _, turn_list a _, ⟨_, Heap.get?_push_size _ rfl, rfl, rfl⟩, fp, q⟩
  · obtain ⟨its, rv, p, _⟩ := I1.tuple sq
    exact wpAny_pyIter_tuple (show s1.heap.IsTuple a its.toArray from p) ⟨s1.heap.objs.size, [s1.heap.objs.size], _, _, H1, rfl, kept _, turn_tuple a _, ⟨_, Heap.get?_push_size _ rfl, rfl, rfl⟩, fp, q⟩
/-- all(te for x in xs), each item's answer known -/
theorem asks_of {J : It} {xs : List V} {f : Nat → Bool} {σ : L2.St} {vs : List Nat} {i : Nat} {te : TE} {Q : VK} {H0 H2 : Hp} (g : Gro H0 H2)
    (hgo : ∀ k H, k < xs.length → Gro H0 H → J.go k H) (hy : ∀ k H x H', Gro H0 H → J.yld k H x H' → H' = H ∧ xs[k]? = some x) (hs : ∀ H, Gro H0 H → J.stop xs.length H)
    (hw : ∀ v, wipe ((wipe σ vs).set i (some v)) vs = wipe σ vs)
    (el : ∀ k v H, xs[k]? = some v → Gro H0 H → te ((wipe σ vs).set i (some v)) H fun y H4 => y = .bl (f k) ∧ Gro H0 H4)
    (q : ∀ H, Gro H0 H → Q (.bl ((List.range xs.length).all f)) H) : Gx.Asks σ Q i te vs J H2 := by
  refine ⟨xs.length, f, fun k H => Gro H0 H ∧ ∀ j, j < k → f j = true, fun k H => k < xs.length ∧ Gro H0 H ∧ ∀ j, j < k → f j = true, ⟨g, fun j hj => absurd hj (Nat.not_lt_zero _)⟩, fun k H hk hP => ⟨hgo k H hk hP.1, fun x H' hyl => ?_⟩, fun k H hN hb => ⟨hN.2.1, fun j hj => ?_⟩, fun k H hN hb => ?_, fun H hP => ⟨hs H hP.1, ?_⟩⟩
  · obtain ⟨rfl, hx⟩ := hy k H x H' hP.1 hyl
    refine ⟨hw x, ?_⟩
    have z := el k x H' hx hP.1
    have e : (fun (y : V) H4 => y = .bl (f k) ∧ k < xs.length ∧ Gro H0 H4 ∧ ∀ j, j < k → f j = true) = fun (y : V) H4 => y = .bl (f k) ∧ Gro H0 H4 := by
      funext y H4
      exact propext ⟨fun z => ⟨z.1, z.2.2.1⟩, fun z => ⟨z.1, hk, z.2, hP.2⟩⟩
    show te ((wipe σ vs).set i (some x)) H' fun y H4 => y = .bl (f k) ∧ k < xs.length ∧ Gro H0 H4 ∧ ∀ j, j < k → f j = true
    rw [e]
    exact z
  · rcases Nat.lt_succ_iff_lt_or_eq.mp hj with h | rfl
    · exact hN.2.2 j h
    · exact hb
  · have e : (List.range xs.length).all f = false := by
      rw [← Bool.not_eq_true, List.all_eq_true]
      intro z
      rw [z k (List.mem_range.mpr hN.1)] at hb
      cases hb
    have z := q H hN.2.1
    rwa [e] at z
  · have e : (List.range xs.length).all f = true := List.all_eq_true.mpr fun j hj => hP.2 j (List.mem_range.mp hj)
    have z := q H hP.1
    rwa [e] at z
theorem all_get {α : Type} (l : List α) (p : α → Bool) (f : Nat → Bool) (h : ∀ k x, l[k]? = some x → f k = p x) : (List.range l.length).all f = l.all p := by
  rw [Bool.eq_iff_iff, List.all_eq_true, List.all_eq_true]
  constructor
  · intro z x hx
    obtain ⟨k, hk, rfl⟩ := List.getElem_of_mem hx
    rw [← h k _ (List.getElem?_eq_getElem hk)]
    exact z k (List.mem_range.mpr hk)
  · intro z k hk
    have hk := List.mem_range.mp hk
    rw [h k _ (List.getElem?_eq_getElem hk)]
    exact z _ (List.getElem_mem hk)
/-- .. over data -/
theorem asks_data {J : It} {K : PySem.W.Frag} {xs : List V} {ds : List PyData} (p : PyData → Bool) {σ : L2.St} {vs : List Nat} {i : Nat} {te : TE} {Q : VK} {H0 H2 : Hp} (g : Gro H0 H2) (hd : DpAll K H0 xs ds)
    (hgo : ∀ k H, k < xs.length → Gro H0 H → J.go k H) (hy : ∀ k H x H', Gro H0 H → J.yld k H x H' → H' = H ∧ xs[k]? = some x) (hs : ∀ H, Gro H0 H → J.stop xs.length H)
    (hw : ∀ v, wipe ((wipe σ vs).set i (some v)) vs = wipe σ vs)
    (el : ∀ v d H, d ∈ ds → Dp K H v d → Gro H0 H → te ((wipe σ vs).set i (some v)) H fun y H4 => y = .bl (p d) ∧ Gro H0 H4)
    (q : ∀ H, Gro H0 H → Q (.bl (ds.all p)) H) : Gx.Asks σ Q i te vs J H2 := by
  have hl := DpAll.length _ hd
  refine asks_of (xs := xs) (f := fun k => match ds[k]? with | some d => p d | none => true) g hgo hy hs hw (fun k v H hk hg => ?_) fun H hg => ?_
  · have hlt : k < ds.length := by
      rw [← hl]
      exact (List.getElem?_eq_some_iff.mp hk).1
    obtain ⟨v', hv, hdv⟩ := DpAll.get _ hd (List.getElem?_eq_getElem hlt)
    rw [hk] at hv
    cases hv
    have z := el v _ H (List.getElem_mem hlt) (Dp.gro hg _ _ hdv) hg
    simpa only [List.getElem?_eq_getElem hlt] using z
  · rw [hl, all_get ds p _ (fun k x e => by simp only [e])]
    exact q H hg
theorem go_l {K : PySem.W.Frag} {a : Addr} {xs : List V} {H0 : Hp} (h : SqL K H0 a xs) : ∀ k H, k < xs.length → Gro H0 H → (Itl K a).go k H := fun k H hk g => ⟨xs, _, g.seq h, List.getElem?_eq_getElem hk⟩
theorem yl_l {K : PySem.W.Frag} {a : Addr} {xs : List V} {H0 : Hp} (h : SqL K H0 a xs) : ∀ k H x H', Gro H0 H → (Itl K a).yld k H x H' → H' = H ∧ xs[k]? = some x := fun k H x H' g z => ⟨z.1, z.2 xs (g.seq h)⟩
theorem st_l {K : PySem.W.Frag} {a : Addr} {xs : List V} {H0 : Hp} (h : SqL K H0 a xs) : ∀ H, Gro H0 H → (Itl K a).stop xs.length H := fun H g => ⟨xs, g.seq h, Nat.le_refl _⟩
theorem go_t {K : PySem.W.Frag} {a : Addr} {xs : List V} {H0 : Hp} (h : SqT K H0 a xs) : ∀ k H, k < xs.length → Gro H0 H → (Itt K a).go k H := fun k H hk g => ⟨xs, _, g.tupS h, List.getElem?_eq_getElem hk⟩
theorem yl_t {K : PySem.W.Frag} {a : Addr} {xs : List V} {H0 : Hp} (h : SqT K H0 a xs) : ∀ k H x H', Gro H0 H → (Itt K a).yld k H x H' → H' = H ∧ xs[k]? = some x := fun k H x H' g z => ⟨z.1, z.2 xs (g.tupS h)⟩
theorem st_t {K : PySem.W.Frag} {a : Addr} {xs : List V} {H0 : Hp} (h : SqT K H0 a xs) : ∀ H, Gro H0 H → (Itt K a).stop xs.length H := fun H g => ⟨xs, g.tupS h, Nat.le_refl _⟩
/-- a generator expression's scope within a def's -/
theorem genS_by {env : Env} {sc scope : Scope} {x : Str} {n : Nat} (hc : env.cells = cellsFrom n sc.names []) (h1 : scope.kind = .function) (h2 : scope.isCoroutine = false) (h3 : ∀ y ∈ scope.names, y.2 ≠ .cell) (h4 : scope.names.lookup (".0" : Str) = some NameKind.local)
    (h5 : scope.names.lookup x = some .local) (h6 : ∀ y ∈ scope.names, y.2 = .free → sc.names.lookup y.1 = some .cell) : GxR.GenS env scope x := by
  refine ⟨h1, h2, h3, h4, h5, fun y hy hf => ?_⟩
  obtain ⟨c, e⟩ := cell_has (n := n) (h6 y hy hf)
  exact ⟨c, by rw [hc]; exact e⟩
/-- a def's code object, its table -/
abbrev cA (K : PySem.W.Frag) (x : Str) : Addr := (He.cT K (x, none)).1
abbrev tA (K : PySem.W.Frag) (x : Str) : Addr := (He.cT K (x, none)).2
theorem hereT_mk {fa : List He.Fa} {fn : List He.DefD} {K : PySem.W.Frag} {h : Heap} {mg : Str → Option Value} (X : K.In h) (G : h.Ns mainGlobals mg) (c : He.SaysD fa fn K) (i j : Nat) {x : Str} {st : Stmt}
    (hi : fn[i]? = some ⟨(x, none), x, x, defArgs st, defBody st, defScope st, [], []⟩) (hj : fa[j]? = some (.glo x)) : HereT K mg x st (cA K x) := by
  obtain ⟨fd, F⟩ := c.def_ i hi
  have F2 := F
  obtain ⟨_, _, _, _, _, _, _, cdv, _, _, rfl, look, code, _, _⟩ := F2.ex
  obtain ⟨cc, e⟩ := He.codeIn_ref code
  refine ⟨_, _, F, He.glo_ok X G (c.fact j hj), ?_⟩
  have z := He.codeOf_eq look (c := cc) e
  show cdv = Value.ref (He.codeOf K (x, none))
  rw [z]
  exact e
/-- a law over the script's list, the tables of the defs tf at hand -/
def spLawT (K : PySem.W.Frag) (tf : List Str) : Sp := fun vs H Q _ => ∃ (s : Addr) (ns : List Int), vs = [.ref s] ∧ SqL K H s (ns.map V.int) ∧ ns.length ≤ 63 ∧ (∀ x ∈ tf, GxR.TabG H (tA K x)) ∧ ∀ H', Q (.bl true) H'
theorem law_finG {P : Program} {w : World} {K : PySem.W.Frag} {h : Heap} {mg : Str → Option Value} {fa : Addr} {k : Nat} {st : Stmt} {fs : List He.Fa} {fn : List He.DefD} {ts : List He.Tab} {ex : PySem.W.Frag → Bool} {tf : List Str} (X : K.In h) (G : h.Ns mainGlobals mg)
    (c : He.SaysX fs fn ts (tf.map fun x => (x, none)) ex w h K) (hmg : mg ("law" : Str) = some (.ref fa)) (D : Here K mg "law" st)
    (hb : ∀ (kV doc pm : Value) (an : Option Addr) (cdv ct : Value) (us : List Value), us.length = (["script"] : List Str).length → bindArgs (PySem.W.fnOf "law" "law" (defArgs st) (defBody st) (defScope st) .none kV doc pm an cdv ct) ⟨us, []⟩ = pure ((["script"] : List Str).zip us))
    (C : ∀ base : Heap, (∀ x ∈ tf, GxR.TabB base mg (cA K x) (tA K x)) → CalG P w K mg base k "law" st ["script"] (spLawT K tf)) :
    ∃ (K : PySem.W.Frag) (fd : FuncData) (cs : List (Addr × Addr)) (sp : Sp), K.In h ∧ (∀ c ∈ cs, h.get? c.2 = some emptyT) ∧ (∀ c ∈ cs, K.lookup c.2 = none) ∧ (∀ c ∈ cs, PySem.W.CodeHd h c.1 c.2) ∧ (∀ (s : Shared) (u : Value), BindsTo s fd ⟨[u], []⟩ [(("script" : Str), u)]) ∧
      (∀ (H : Hp) (a : Addr) (ns : List Int), ns.length ≤ 63 → (∀ c ∈ cs, H c.2 = some (.tbl #[])) → SqL K H a (ns.map V.int) → sp [.ref a] H (fun v _ => v = .bl true) fun _ _ _ => False) ∧
      ∀ base : Heap, K.In base → base.Ns mainGlobals mg → (∀ c ∈ cs, GxR.TabB base mg c.1 c.2) → FnG P w K mg base k fa fd ["script"] sp := by
  obtain ⟨f, fd, F, g⟩ := D.ex
  have e := hmg.symm.trans g
  cases e
  have b := FunD.bindsA (ps := ["script"]) F hb
  have mem : ∀ q ∈ (tf.map fun x => ((x, none) : He.Defn)).map (He.cT K), ∃ x ∈ tf, q = He.cT K (x, none) := fun q hq => by
    obtain ⟨d, hd, rfl⟩ := List.mem_map.mp hq
    obtain ⟨x, hx, rfl⟩ := List.mem_map.mp hd
    exact ⟨x, hx, rfl⟩
  have back : ∀ x ∈ tf, ((x, none) : He.Defn) ∈ tf.map fun x => ((x, none) : He.Defn) := fun x hx => List.mem_map.mpr ⟨x, hx, rfl⟩
  refine ⟨K, fd, (tf.map fun x => ((x, none) : He.Defn)).map (He.cT K), spLawT K tf, X, fun q hq => ?_, fun q hq => ?_, fun q hq => ?_, fun s v => b s [v] rfl, fun H a ns hl hT hS => ⟨a, ns, rfl, hS, hl, fun x hx => ⟨#[], hT _ (List.mem_map.mpr ⟨_, back x hx, rfl⟩), ?_⟩, fun _ => rfl⟩, fun base _ _ hB => ?_⟩
  · obtain ⟨x, hx, rfl⟩ := mem q hq
    exact c.empty _ (back x hx)
  · obtain ⟨x, hx, rfl⟩ := mem q hq
    exact c.out _ (back x hx)
  · obtain ⟨x, hx, rfl⟩ := mem q hq
    exact PySem.W.codeHd_of_K X (c.hd _ (back x hx))
  · trivial
  obtain ⟨f2, fd2, F2, D2, g2, _⟩ := (C base fun x hx => hB _ (List.mem_map.mpr ⟨_, back x hx, rfl⟩)).ex
  have e2 := g.symm.trans g2
  cases e2
  have e3 : fd = fd2 := by
    obtain ⟨_, _, _, _, _, _, _, _, _, _, _, l1, _⟩ := F.ex
    obtain ⟨_, _, _, _, _, _, _, _, _, _, _, l2, _⟩ := D2.ex
    have l3 := l1.symm.trans l2
    injection l3 with l4
    injection l4 with _ _ l5
    injection l5
  rw [e3]
  exact F2
section
variable {X : Cx}
theorem op_neD_at (K : PySem.W.Frag) (e : X.K = K) (hu : X.A.units + 64 < cLine) : OpR X (compareOp .NotEq) (rNeD K) := by subst e; exact op_neD hu
theorem op_eqD_at (K : PySem.W.Frag) (e : X.K = K) (hu : X.A.units + 64 < cLine) : OpR X (compareOp .Eq) (rEqD K) := by subst e; exact op_eqD hu
theorem call_tuple_of_at (K : PySem.W.Frag) (e : X.K = K) : CallR X (.type "tuple") (fun xs H Q => ∃ p ys, xs = [.ref p] ∧ ((SqL K H p ys ∧ ∀ l, H l = none → Q (.ref l) (upd H l (.tup ys))) ∨ (SqT K H p ys ∧ Q (.ref p) H))) := by subst e; exact call_tuple_of
end
end Ky
/-! ### promises of what the words' and the books' functions share -/
namespace Ky
open PySem PySem.Spec PyProof.Rows L2
def areIntsD : PyData → Int → Bool
  | .list ds, l => ds.all fun d => isIntD d l
  | .tuple ds, l => ds.all fun d => isIntD d l
  | _, _ => false
def spAreInts (K : PySem.W.Frag) : Sp := fun vs H Q _ => ∃ (x : V) (d : PyData) (l : Int), vs = [x, .int l] ∧ Dp K H x d ∧ GxR.TabG H (tA K "are_integers") ∧ ∀ H', Gro H H' → Q (.bl (areIntsD d l)) H'
/-- a list or a tuple of words -/
def WordsAt (K : PySem.W.Frag) (H : Hp) (a : Addr) (l : List Nat) : Prop := SqL K H a (intsV l) ∨ SqT K H a (intsV l)
theorem WordsAt.gro {K : PySem.W.Frag} {H H' : Hp} {a : Addr} {l : List Nat} (h : WordsAt K H a l) (g : Gro H H') : WordsAt K H' a l := h.imp g.seq g.tupS
def spAddedAll (K : PySem.W.Frag) : Sp := fun vs H Q _ => ∃ (a : Addr) (l : List Nat), vs = [.ref a] ∧ WordsAt K H a l ∧ GxR.TabG H (tA K "are_integers") ∧ ∀ H', Gro H H' → Q (.int (xorAll l : Int)) H'
/-- what repr asks of a list of ints -/
theorem ints_show : ∀ l : List Int, (∀ i ∈ l, i.natAbs.log2 < 1900) → PyData.showableAll (l.map PyData.int) = true ∧ PyData.hasDictAll (l.map PyData.int) = false ∧ PyData.depthAll (l.map PyData.int) = 0 ∧ PyData.leavesShortAll 1921 (l.map PyData.int) = true ∧ PyData.bulkAll (l.map PyData.int) = l.length ∧ PyData.canLayAll0 (l.map PyData.int) = true
  | [], _ => ⟨rfl, rfl, rfl, rfl, rfl, rfl⟩
  | i :: l, h => by
    obtain ⟨h1, h2, h3, h4, h5, h6⟩ := ints_show l fun j hj => h j (List.mem_cons_of_mem _ hj)
    have hi := h i List.mem_cons_self
    have z : i.natAbs.log2 < 1920 := by omega
    have len : (PyData.shown (.int i)).length ≤ 1921 := PyProof.Rows.int_text_len_1921 z
    refine ⟨?_, ?_, ?_, ?_, ?_, ?_⟩
    · show (decide (i.natAbs.log2 < 1920) && PyData.showableAll (l.map PyData.int)) = true
      rw [h1, decide_eq_true z] <;> rfl
    · show (false || PyData.hasDictAll (l.map PyData.int)) = false
      rw [h2] <;> rfl
    · show max 0 (PyData.depthAll (l.map PyData.int)) = 0
      rw [h3] <;> rfl
    · show (decide ((PyData.shown (.int i)).length ≤ 1921) && PyData.leavesShortAll 1921 (l.map PyData.int)) = true
      rw [h4, decide_eq_true len] <;> rfl
    · show 0 + 1 + PyData.bulkAll (l.map PyData.int) = l.length + 1
      rw [h5]
      omega
    · show (PyData.canLay0 (.int i) && PyData.canLayAll0 (l.map PyData.int)) = true
      rw [h6] <;> rfl
theorem list_show {l : List Int} (h : ∀ i ∈ l, i.natAbs.log2 < 1900) (hl : l.length ≤ 1000) : (PyData.list (l.map PyData.int)).showable = true ∧ (PyData.list (l.map PyData.int)).hasDict = false ∧ (PyData.list (l.map PyData.int)).depth < 100 ∧ (PyData.list (l.map PyData.int)).shown.length ≤ sizeLine ∧ SeqAt.shaped (.list (l.map PyData.int)) = true := by
  obtain ⟨h1, h2, h3, h4, h5, h6⟩ := ints_show l h
  have d : (PyData.list (l.map PyData.int)).depth = 1 := by
    show PyData.depthAll (l.map PyData.int) + 1 = 1
    rw [h3]
  refine ⟨h1, h2, by rw [d]; decide, ?_, ?_⟩
  · have z := PyData.shown_le_bulk 1921 (by decide) (.list (l.map PyData.int)) h4
    have e : (PyData.list (l.map PyData.int)).bulk = l.length := h5
    rw [e] at z
    have e2 : sizeLine = 16777216 := by decide
    omega
  · unfold SeqAt.shaped
    rw [d]
    show (PyData.canLayAll0 (l.map PyData.int) && _) = true
    rw [h6] <;> rfl
/-! ### decks, once more -/
theorem pick_l {K : PySem.W.Frag} {H : Hp} {a p : Addr} (xs : List V) (x y : Int) (hD : DeckAt H a) (hp : H p = none) :
    SqL K (upd (upd H p (.lst xs)) a (.lst [.int x, .int y])) p xs ∧ Off a H (upd (upd H p (.lst xs)) a (.lst [.int x, .int y])) := by
  have n : a ≠ p := by
    obtain ⟨_, _, e, _⟩ := hD
    exact ne_of_none e hp
  exact ⟨SqL.of (by rw [upd_ne n.symm, upd_same]), (Off.of (same_upd hp)).trans (Off.upd _ _ _)⟩
/-- what a law's turn asks: its deck, tables; the deck alone turns -/
def spTurn (K : PySem.W.Frag) (tf : List Str) : Sp := fun vs H Q _ => ∃ a : Addr, vs = [.ref a] ∧ DeckAt H a ∧ (∀ x ∈ tf, GxR.TabG H (tA K x)) ∧ ∀ H', OffG a H H' → Q (.bl true) H'
theorem OffG.gro {a : Addr} {H H1 H2 : Hp} (g : Gro H H1) (n : H a = none) (o : OffG a H1 H2) : Gro H H2 := fun b u e => by
  obtain ⟨u1, e1, g1⟩ := g b u e
  obtain ⟨u2, e2, g2⟩ := o b u1 (ne_of_none e n) e1
  exact ⟨u2, e2, g1.trans g2⟩
/-- the words' list and the deck within a heap that has gone on -/
structure WD (K : PySem.W.Frag) (tf : List Str) (a p : Addr) (l : List Nat) (H H' : Hp) : Prop where
  off : OffG a H H'
  deck : DeckAt H' a
  tabs : ∀ x ∈ tf, GxR.TabG H' (tA K x)
  ne : p ≠ a
  new : H p = none
  list : H' p = some (.lst (intsV l))
section
variable {K : PySem.W.Frag} {tf : List Str} {a p : Addr} {l : List Nat} {H H1 H2 : Hp}
theorem WD.gro (w : WD K tf a p l H H1) (g : Gro H1 H2) : WD K tf a p l H H2 :=
  ⟨w.off.trans (.of g), w.deck.gro g, fun x hx => g.tg (w.tabs x hx), w.ne, w.new, g.at w.list⟩
theorem WD.turn (w : WD K tf a p l H H1) (o : OffG a H1 H2) (d : DeckAt H2 a) : WD K tf a p l H H2 :=
  ⟨w.off.trans o, d, fun x hx => o.tg (TabG.ne_deck (w.tabs x hx) w.deck) (w.tabs x hx), w.ne, w.new, o.at w.ne w.list⟩
theorem WD.put (w : WD K tf a p l H H1) (l' : List Nat) : WD K tf a p l' H (upd H1 p (.lst (intsV l'))) := by
  obtain ⟨x, y, e, h0, h1⟩ := w.deck
  refine ⟨fun b o n e => ?_, ⟨x, y, by rw [upd_ne w.ne.symm]; exact e, h0, h1⟩, fun x hx => ?_, w.ne, w.new, upd_same⟩
  · rw [upd_ne (ne_of_none e w.new)]
    exact w.off b o n e
  · obtain ⟨ps, e, t⟩ := w.tabs x hx
    refine ⟨ps, ?_, t⟩
    rw [upd_ne (fun z => by rw [z, w.list] at e; cases e)]
    exact e
theorem WD.sq (w : WD K tf a p l H H1) : SqL K H1 p (intsV l) := SqL.of w.list
end
theorem intsV_len (l : List Nat) : (intsV l).length = l.length := List.length_map _
theorem intsV_get {l : List Nat} {i : Nat} (h : i < l.length) : (intsV l)[i]? = some (.int (l[i] : Int)) := by
  unfold intsV
  rw [List.getElem?_map, List.getElem?_eq_getElem h]
  rfl
theorem intsV_at {l : List Nat} {i : Nat} {v : V} (e : (intsV l)[i]? = some v) : ∃ n, l[i]? = some n ∧ v = .int (n : Int) := by
  unfold intsV at e
  rw [List.getElem?_map] at e
  cases h : l[i]? with
  | none => rw [h] at e; cases e
  | some n => rw [h] at e; exact ⟨n, rfl, (Option.some.inj e).symm⟩
theorem dpW {K : PySem.W.Frag} {H : Hp} {p : Addr} (l : List Nat) (h : SqL K H p (intsV l)) : Dp K H (.ref p) (.list ((l.map fun k : Nat => (k : Int)).map PyData.int)) := by
  rw [intsV_map] at h
  exact .lst h (dpI _)
theorem words_show {l : List Nat} (h : ∀ n ∈ l, n < 2 ^ 1000) (hl : l.length ≤ 1000) : ∀ i ∈ l.map fun k : Nat => (k : Int), i.natAbs.log2 < 1900 := fun i hi => by
  obtain ⟨n, hn, rfl⟩ := List.mem_map.mp hi
  have h1 := h n hn
  rw [Int.natAbs_natCast]
  by_cases z : n = 0
  · rw [z]; decide
  · have := (Nat.log2_lt z).mpr h1
    omega
theorem sorted_nats {l : List Nat} {ns' : List Int} (h : ns'.Perm (l.map fun k : Nat => (k : Int))) : ∃ l' : List Nat, ns'.map V.int = intsV l' ∧ l'.Perm l := by
  refine ⟨ns'.map Int.toNat, ?_, ?_⟩
  · have key : (ns'.map Int.toNat).map (fun k : Nat => (k : Int)) = ns' := by
      rw [List.map_map]
      refine (List.map_congr_left (g := id) fun i hi => ?_).trans (List.map_id _)
      obtain ⟨k, _, rfl⟩ := List.mem_map.mp (h.mem_iff.mp hi)
      rfl
    rw [intsV_map, key]
  · have z := h.map Int.toNat
    rw [List.map_map] at z
    have e : l.map (Int.toNat ∘ fun k : Nat => (k : Int)) = l := (List.map_congr_left (g := id) fun i _ => rfl).trans (List.map_id _)
    rwa [e] at z
theorem intsV_app (l m : List Nat) : intsV l ++ intsV m = intsV (l ++ m) := by
  unfold intsV
  rw [List.map_append]
theorem intsV_one (n : Nat) : [V.int (n : Int)] = intsV [n] := rfl
/-! ### comprehensions whose elements only read -/
theorem lc_map {K : PySem.W.Frag} {a : Addr} {xs : List V} (f : V → V) {i : Nat} {te : TE} {vs : List Nat} {σ : L2.St} {H1 : Hp} {D : Addr} {Qd : Hp → Prop} (sq : SqL K H1 a xs) (hD : H1 D = none) (hn : xs.length ≤ 1000000)
    (hw : ∀ v, wipe ((wipe σ vs).set i (some v)) vs = wipe σ vs) (el : ∀ x ∈ xs, ∀ H (Q : VK), Q (f x) H → te ((wipe σ vs).set i (some x)) H Q) (hd : Qd (upd H1 D (.lst (xs.map f)))) :
    ∃ W : Nat → Nat → Hp → Prop, (∃ m, W 0 m (upd H1 D (.lst []))) ∧ ∀ i' m H, W i' m H →
      ((Itl K a).stop i' H ∧ Qd H) ∨ ((Itl K a).go i' H ∧ ∃ Nx : Hp → Prop, (∀ H', Nx H' → ∃ m', m' < m ∧ W (i' + 1) m' H') ∧ ∀ x H', (Itl K a).yld i' H x H' → gName i x (wipe σ vs) H' fun σ2 H2 => wipe σ2 vs = wipe σ vs ∧ tYes σ2 H2 fun b H3 =>
        if b = true then te σ2 H3 fun y H4 => ∃ acc, H4 D = some (.lst acc) ∧ acc.length < sizeLine ∧ Nx (upd H4 D (.lst (acc ++ [y]))) else Nx H3) := by
  refine lc_list (fun k H => H = upd H1 D (.lst ((xs.take k).map f))) rfl (fun k H _ e => by rw [e]; exact Same.seq (same_upd hD) sq) (fun k x H e hP => ⟨hw x, ?_⟩) (fun H hP => ?_)
  · subst hP
    refine el x (List.mem_of_getElem? e) _ _ ⟨_, upd_same, ?_, ?_⟩
    · rw [List.length_map, List.length_take]
      exact Nat.lt_of_le_of_lt (Nat.le_trans (Nat.min_le_right _ _) hn) (by decide)
    · rw [upd_upd, List.take_add_one, e, List.map_append]
      rfl
  · rw [hP, List.take_length]
    exact hd
end Ky
/-! ### promises of the books' functions -/
namespace Ky
open PySem PySem.Spec PyProof.Rows L2
def ascFrom (top : Int) : Int → List PyData → Bool
  | _, [] => true
  | l, d :: ds => match d with
    | .int i => decide (l ≤ i) && (decide (i < top) && ascFrom top (i + 1) ds)
    | _ => false
def isAscD : PyData → Int → Bool
  | .tuple ds, top => ascFrom top 0 ds
  | _, _ => false
def spIsAsc (K : PySem.W.Frag) : Sp := fun vs H Q _ => ∃ (x : V) (d : PyData) (top : Int), vs = [x, .int top] ∧ Dp K H x d ∧ Q (.bl (isAscD d top)) H
def rowOk (m : Int) (d : PyData) : Bool := !PyData.eqv d (.tuple []) && isAscD d m
def isBookM : PyData → PyData → Bool
  | .int m, .tuple ds => decide (1 ≤ m) && ds.all (rowOk m)
  | _, _ => false
def isBookD : PyData → Bool
  | .tuple ds => (match ds with
    | [dm, dr] => isBookM dm dr
    | _ => false)
  | _ => false
theorem isBookD_len {ds : List PyData} (h : ds.length ≠ 2) : isBookD (.tuple ds) = false := by
  cases ds with
  | nil => rfl
  | cons d ds => cases ds with
    | nil => rfl
    | cons e ds => cases ds with
      | nil => exact absurd rfl h
      | cons f ds => rfl
def isTup : PyData → Bool
  | .tuple _ => true
  | _ => false
theorem kit_tup (d : PyData) : kitB (tyD d) "tuple" = some (isTup d) := by
  cases d with
  | none => exact (by decide +kernel : kitB "NoneType" "tuple" = some false)
  | bool b => exact (by decide +kernel : kitB "bool" "tuple" = some false)
  | int b => exact (by decide +kernel : kitB "int" "tuple" = some false)
  | str b => exact (by decide +kernel : kitB "str" "tuple" = some false)
  | list b => exact (by decide +kernel : kitB "list" "tuple" = some false)
  | tuple b => exact (by decide +kernel : kitB "tuple" "tuple" = some true)
  | dict b => exact (by decide +kernel : kitB "dict" "tuple" = some false)
def spIsBook (K : PySem.W.Frag) : Sp := fun vs H Q _ => ∃ (x : V) (d : PyData), vs = [x] ∧ Dp K H x d ∧ SeqAt.shaped d = true ∧ GxR.TabG H (tA K "is_book") ∧ ∀ H', Gro H H' → Q (.bl (isBookD d)) H'
def spCheckBook (K : PySem.W.Frag) : Sp := fun vs H Q _ => ∃ (x : V) (d : PyData), vs = [x] ∧ Dp K H x d ∧ SeqAt.shaped d = true ∧ isBookD d = true ∧ GxR.TabG H (tA K "is_book") ∧ ∀ H', Gro H H' → Q .non H'
theorem shaped_in : ∀ {ds : List PyData} {n : Nat}, PyData.canLayAll0 ds = true → PyData.depthAll ds ≤ n → ∀ d ∈ ds, PyData.canLay0 d = true ∧ PyData.depth d ≤ n
  | [], _, _, _, _, hd => by cases hd
  | e :: es, n, h1, h2, d, hd => by
    obtain ⟨c1, c2⟩ := Bool.and_eq_true_iff.mp (show (PyData.canLay0 e && PyData.canLayAll0 es) = true from h1)
    have h3 : max (PyData.depth e) (PyData.depthAll es) ≤ n := h2
    rcases List.mem_cons.mp hd with rfl | hd
    · exact ⟨c1, by omega⟩
    · exact shaped_in c2 (by omega) d hd
theorem shaped_all {ds : List PyData} (h : SeqAt.shaped (.tuple ds) = true) (d : PyData) (hd : d ∈ ds) : SeqAt.shaped d = true := by
  unfold SeqAt.shaped at h
  obtain ⟨h1, h2⟩ := Bool.and_eq_true_iff.mp h
  have h3 : PyData.depthAll ds + 1 ≤ 64 := of_decide_eq_true h2
  obtain ⟨c1, c2⟩ := shaped_in (n := 63) (show PyData.canLayAll0 ds = true from h1) (by omega) d hd
  unfold SeqAt.shaped
  rw [c1, decide_eq_true (by omega)] <;> rfl
/-! ### pages as data -/
abbrev natsD (l : List Nat) : List PyData := (l.map fun k : Nat => (k : Int)).map PyData.int
def rowD (r : List Nat) : PyData := .tuple (natsD r)
def pageD (m : Nat) (rows : List (List Nat)) : PyData := .tuple [.int (m : Int), .tuple (rows.map rowD)]
/-- ascending, below m -/
def Asc (m : Nat) (r : List Nat) : Prop := r.Pairwise (· < ·) ∧ ∀ k ∈ r, k < m
structure Good (m : Nat) (rows : List (List Nat)) : Prop where
  pos : 1 ≤ m
  few : m ≤ 1000
  many : rows.length ≤ 1000
  row : ∀ r ∈ rows, r ≠ [] ∧ Asc m r
theorem natsD_len (l : List Nat) : (natsD l).length = l.length := (List.length_map _).trans (List.length_map _)
theorem asc_from (top : Nat) : ∀ (r : List Nat) (l : Nat), r.Pairwise (· < ·) → (∀ k ∈ r, l ≤ k ∧ k < top) → ascFrom (top : Int) (l : Int) (natsD r) = true
  | [], _, _, _ => rfl
  | k :: r, l, h, hb => by
    have hk := hb k List.mem_cons_self
    have h1 := List.pairwise_cons.mp h
    have ih := asc_from top r (k + 1) h1.2 fun j hj => ⟨h1.1 j hj, (hb j (List.mem_cons_of_mem _ hj)).2⟩
    show (decide ((l : Int) ≤ (k : Int)) && (decide ((k : Int) < (top : Int)) && ascFrom (top : Int) ((k : Int) + 1) (natsD r))) = true
    rw [decide_eq_true (by omega), decide_eq_true (by omega), show ((k : Int) + 1) = ((k + 1 : Nat) : Int) by omega, ih]
    rfl
theorem isAsc_of {m : Nat} {r : List Nat} (h : Asc m r) : isAscD (.tuple (natsD r)) (m : Int) = true := asc_from m r 0 h.1 fun k hk => ⟨Nat.zero_le _, h.2 k hk⟩
theorem Good.book {m : Nat} {rows : List (List Nat)} (g : Good m rows) : isBookD (pageD m rows) = true := by
  show (decide ((1 : Int) ≤ (m : Int)) && (rows.map rowD).all (rowOk (m : Int))) = true
  have h1 := g.pos
  rw [decide_eq_true (by omega), Bool.true_and, List.all_map]
  refine List.all_eq_true.mpr fun r hr => ?_
  obtain ⟨h1, h2⟩ := g.row r hr
  show (!PyData.eqv (.tuple (natsD r)) (.tuple []) && isAscD (.tuple (natsD r)) (m : Int)) = true
  rw [isAsc_of h2]
  cases r with
  | nil => exact absurd rfl h1
  | cons k r => rfl
theorem canLay_nats : ∀ r : List Nat, PyData.canLayAll0 (natsD r) = true
  | [] => rfl
  | k :: r => canLay_nats r
theorem depth_nats : ∀ r : List Nat, PyData.depthAll (natsD r) = 0
  | [] => rfl
  | k :: r => by
    show max 0 (PyData.depthAll (natsD r)) = 0
    rw [depth_nats r] <;> rfl
theorem rows_lay : ∀ rows : List (List Nat), PyData.canLayAll0 (rows.map rowD) = true ∧ PyData.depthAll (rows.map rowD) ≤ 1
  | [] => ⟨rfl, Nat.zero_le _⟩
  | r :: rows => by
    obtain ⟨h1, h2⟩ := rows_lay rows
    constructor
    · show (PyData.canLayAll0 (natsD r) && PyData.canLayAll0 (rows.map rowD)) = true
      rw [h1, canLay_nats] <;> rfl
    · show max (PyData.depthAll (natsD r) + 1) (PyData.depthAll (rows.map rowD)) ≤ 1
      rw [depth_nats]
      omega
theorem page_shaped (m : Nat) (rows : List (List Nat)) : SeqAt.shaped (pageD m rows) = true := by
  obtain ⟨h1, h2⟩ := rows_lay rows
  unfold SeqAt.shaped
  show ((true && (PyData.canLayAll0 (rows.map rowD) && true)) && decide (max 0 (max (PyData.depthAll (rows.map rowD) + 1) 0) + 1 ≤ 64)) = true
  rw [h1, decide_eq_true (by omega)] <;> rfl
/-! ### tuples put together and cut -/
theorem cat_of {K : PySem.W.Frag} {H : Hp} {Q : VK} {a b : Addr} {xs ys : List V} (ha : SqT K H a xs) (hb : SqT K H b ys) (hz : xs.length + ys.length ≤ sizeLine) (q : ∀ p H', Gro H H' → SqT K H' p (xs ++ ys) → Q (.ref p) H') : rCatA K (.ref a) (.ref b) H Q := by
  refine ⟨a, b, xs, ys, rfl, rfl, ha, hb, hz, fun e => q b H (Gro.refl H) ?_, fun _ e => q a H (Gro.refl H) ?_, fun _ _ p hp => q p _ (.of (same_upd hp)) (SqT.of upd_same)⟩
  · rw [e]; exact hb
  · rw [e, List.append_nil]; exact ha
theorem cut_all {xs : List V} {lo hi : Option Int} (h : HT.sIx xs.length 0 lo = 0 ∧ HT.sIx xs.length xs.length hi = xs.length) : cutV xs lo hi = xs := by
  unfold cutV
  rw [h.1, h.2]
  simp
theorem sl_of {K : PySem.W.Frag} {H : Hp} {Q : VK} {a : Addr} {xs : List V} {lo hi : Option Int} (ha : SqT K H a xs) (q : ∀ p H', Gro H H' → SqT K H' p (cutV xs lo hi) → Q (.ref p) H') : rSlA K (.ref a) lo hi H Q :=
  ⟨a, xs, rfl, ha, fun e => q a H (Gro.refl H) (by rw [cut_all e]; exact ha), fun _ p hp => q p _ (.of (same_upd hp)) (SqT.of upd_same)⟩
theorem cut_to {xs : List V} {k : Nat} (h : k ≤ xs.length) : cutV xs none (some (k : Int)) = xs.take k := by
  unfold cutV
  rw [HT.sIx_none, HT.sIx_nat, Nat.min_eq_left h, List.drop_zero, Nat.sub_zero]
theorem cut_from {xs : List V} {k : Nat} (h : k ≤ xs.length) : cutV xs (some (k : Int)) none = xs.drop k := by
  unfold cutV
  rw [HT.sIx_none, HT.sIx_nat, Nat.min_eq_left h]
  exact List.take_of_length_le (by rw [List.length_drop]; exact Nat.le_refl _)
theorem DpAll.app {K : PySem.W.Frag} {H : Hp} {ys : List V} {es : List PyData} (h2 : DpAll K H ys es) : ∀ {xs : List V} {ds : List PyData}, DpAll K H xs ds → DpAll K H (xs ++ ys) (ds ++ es)
  | _, _, .nil => h2
  | _, _, .cons h t => .cons h (DpAll.app h2 t)
theorem DpAll.take {K : PySem.W.Frag} {H : Hp} : ∀ (k : Nat) {xs : List V} {ds : List PyData}, DpAll K H xs ds → DpAll K H (xs.take k) (ds.take k)
  | 0, _, _, _ => .nil
  | _ + 1, _, _, .nil => .nil
  | k + 1, _, _, .cons h t => .cons h (DpAll.take k t)
theorem DpAll.drop {K : PySem.W.Frag} {H : Hp} : ∀ (k : Nat) {xs : List V} {ds : List PyData}, DpAll K H xs ds → DpAll K H (xs.drop k) (ds.drop k)
  | 0, _, _, h => h
  | _ + 1, _, _, .nil => .nil
  | k + 1, _, _, .cons _ t => DpAll.drop k t
/-- a page's parts -/
theorem page_inv {K : PySem.W.Frag} {H : Hp} {x : V} {m : Nat} {rows : List (List Nat)} (h : Dp K H x (pageD m rows)) : ∃ (a b : Addr) (xs : List V), x = .ref a ∧ SqT K H a [.int (m : Int), .ref b] ∧ SqT K H b xs ∧ DpAll K H xs (rows.map rowD) := by
  cases h with
  | tup h1 h2 =>
    cases h2 with
    | cons h3 h4 => cases h4 with
      | cons h5 h6 =>
        cases h6
        cases h3
        cases h5 with
        | tup h7 h8 => exact ⟨_, _, _, rfl, h1, h7, h8⟩
theorem page_mk {K : PySem.W.Frag} {H : Hp} {a b : Addr} {xs : List V} {m : Nat} {rows : List (List Nat)} (h1 : SqT K H a [.int (m : Int), .ref b]) (h2 : SqT K H b xs) (h3 : DpAll K H xs (rows.map rowD)) : Dp K H (.ref a) (pageD m rows) :=
  .tup h1 (.cons (.int _) (.cons (.tup h2 h3) .nil))
/-- a row's items -/
theorem row_inv {K : PySem.W.Frag} {H : Hp} {x : V} {r : List Nat} (h : Dp K H x (rowD r)) : ∃ a, x = .ref a ∧ SqT K H a (intsV r) := by
  have h' : Dp K H x (.tuple (natsD r)) := h
  cases h' with
  | tup h1 h2 =>
    refine ⟨_, rfl, ?_⟩
    have e : ∀ (r : List Nat) (xs : List V), DpAll K H xs (natsD r) → xs = intsV r := by
      intro r
      induction r with
      | nil => intro xs h; cases h; rfl
      | cons k r ih =>
        intro xs h
        have h' : DpAll K H xs (.int (k : Int) :: natsD r) := h
        cases h' with
        | cons h3 h4 =>
          cases h3
          rw [ih _ h4]
          rfl
    rw [← e _ _ h2]
    exact h1
theorem row_mk {K : PySem.W.Frag} {H : Hp} {a : Addr} {r : List Nat} (h : SqT K H a (intsV r)) : Dp K H (.ref a) (rowD r) := by
  rw [intsV_map] at h
  exact .tup h (dpI _)
/-! ### promises -/
def spCheckCell (K : PySem.W.Frag) : Sp := fun vs H Q _ => ∃ (x : V) (m : Nat) (rows : List (List Nat)) (k : Nat), vs = [x, .int (k : Int)] ∧ Dp K H x (pageD m rows) ∧ k < m ∧ Q .non H
def spCheckKey (K : PySem.W.Frag) : Sp := fun vs H Q _ => ∃ (x : V) (m : Nat) (rows : List (List Nat)) (k : Nat), vs = [x, .int (k : Int)] ∧ Dp K H x (pageD m rows) ∧ k < rows.length ∧ Q .non H
def spCheckLot (K : PySem.W.Frag) : Sp := fun vs H Q _ => ∃ (x y : V) (m : Nat) (rows : List (List Nat)) (lot : List Nat), vs = [x, y] ∧ Dp K H x (pageD m rows) ∧ Dp K H y (rowD lot) ∧ Asc rows.length lot ∧ Q .non H
/-- the cells told, once each, ascending -/
def IsRow (cells r : List Nat) : Prop := r.Pairwise (· < ·) ∧ ∀ k, k ∈ r ↔ k ∈ cells
structure Told (m : Nat) (cells : List Nat) : Prop where
  some_ : cells ≠ []
  low : ∀ c ∈ cells, c < m
  few : cells.length ≤ 63
def spRowOf (K : PySem.W.Frag) : Sp := fun vs H Q _ => ∃ (y : Addr) (m : Nat) (cells : List Nat), vs = [.int (m : Int), .ref y] ∧ WordsAt K H y cells ∧ Told m cells ∧ GxR.TabG H (tA K "are_integers") ∧
  ∀ H' p r, Gro H H' → IsRow cells r → SqT K H' p (intsV r) → Q (.ref p) H'
def spWithKey (K : PySem.W.Frag) : Sp := fun vs H Q _ => ∃ (x : V) (y : Addr) (m : Nat) (rows : List (List Nat)) (cells : List Nat), vs = [x, .ref y] ∧ Dp K H x (pageD m rows) ∧ Good m rows ∧ WordsAt K H y cells ∧ Told m cells ∧
  GxR.TabG H (tA K "are_integers") ∧ GxR.TabG H (tA K "is_book") ∧ ∀ H' p r, Gro H H' → IsRow cells r → Dp K H' (.ref p) (pageD m (rows ++ [r])) → Q (.ref p) H'
def spWithoutKey (K : PySem.W.Frag) : Sp := fun vs H Q _ => ∃ (x : V) (m : Nat) (rows : List (List Nat)) (k : Nat), vs = [x, .int (k : Int)] ∧ Dp K H x (pageD m rows) ∧ Good m rows ∧ k < rows.length ∧
  GxR.TabG H (tA K "is_book") ∧ ∀ H' p, Gro H H' → Dp K H' (.ref p) (pageD m (rows.take k ++ rows.drop (k + 1))) → Q (.ref p) H'
/-- the rows at a lot's keys -/
def pick (rows : List (List Nat)) (lot : List Nat) : List (List Nat) := lot.map fun k => rows.getD k []
def spPart (K : PySem.W.Frag) : Sp := fun vs H Q _ => ∃ (x y : V) (m : Nat) (rows : List (List Nat)) (lot : List Nat), vs = [x, y] ∧ Dp K H x (pageD m rows) ∧ Good m rows ∧ Dp K H y (rowD lot) ∧ Asc rows.length lot ∧
  GxR.TabG H (tA K "is_book") ∧ ∀ H' p, Gro H H' → Dp K H' (.ref p) (pageD m (pick rows lot)) → Q (.ref p) H'
theorem asc_from_len : ∀ (r : List Nat) (l m : Nat), r.Pairwise (· < ·) → (∀ k ∈ r, l ≤ k ∧ k < m) → r.length ≤ m - l
  | [], _, _, _, _ => Nat.zero_le _
  | k :: r, l, m, h, hb => by
    obtain ⟨h1, h2⟩ := List.pairwise_cons.mp h
    have hk := hb k List.mem_cons_self
    have ih := asc_from_len r (k + 1) m h2 fun j hj => ⟨h1 j hj, (hb j (List.mem_cons_of_mem _ hj)).2⟩
    rw [List.length_cons]
    omega
theorem asc_len {m : Nat} {r : List Nat} (h : Asc m r) : r.length ≤ m := by
  have := asc_from_len r 0 m h.1 fun k hk => ⟨Nat.zero_le _, h.2 k hk⟩
  omega
theorem lc_mapT {K : PySem.W.Frag} {a : Addr} {xs : List V} (f : V → V) {i : Nat} {te : TE} {vs : List Nat} {σ : L2.St} {H1 : Hp} {D : Addr} {Qd : Hp → Prop} (sq : SqT K H1 a xs) (hD : H1 D = none) (hn : xs.length ≤ 1000000)
    (hw : ∀ v, wipe ((wipe σ vs).set i (some v)) vs = wipe σ vs) (el : ∀ x ∈ xs, ∀ H (Q : VK), Same H1 H → Q (f x) H → te ((wipe σ vs).set i (some x)) H Q) (hd : Qd (upd H1 D (.lst (xs.map f)))) :
    ∃ W : Nat → Nat → Hp → Prop, (∃ m, W 0 m (upd H1 D (.lst []))) ∧ ∀ i' m H, W i' m H →
      ((Itt K a).stop i' H ∧ Qd H) ∨ ((Itt K a).go i' H ∧ ∃ Nx : Hp → Prop, (∀ H', Nx H' → ∃ m', m' < m ∧ W (i' + 1) m' H') ∧ ∀ x H', (Itt K a).yld i' H x H' → gName i x (wipe σ vs) H' fun σ2 H2 => wipe σ2 vs = wipe σ vs ∧ tYes σ2 H2 fun b H3 =>
        if b = true then te σ2 H3 fun y H4 => ∃ acc, H4 D = some (.lst acc) ∧ acc.length < sizeLine ∧ Nx (upd H4 D (.lst (acc ++ [y]))) else Nx H3) := by
  refine lc_tup (fun k H => H = upd H1 D (.lst ((xs.take k).map f))) rfl (fun k H _ e => by rw [e]; exact Same.tupS (same_upd hD) sq) (fun k x H e hP => ⟨hw x, ?_⟩) (fun H hP => ?_)
  · subst hP
    refine el x (List.mem_of_getElem? e) _ _ (same_upd hD) ⟨_, upd_same, ?_, ?_⟩
    · rw [List.length_map, List.length_take]
      exact Nat.lt_of_le_of_lt (Nat.le_trans (Nat.min_le_right _ _) hn) (by decide)
    · rw [upd_upd, List.take_add_one, e, List.map_append]
      rfl
  · rw [hP, List.take_length]
    exact hd
theorem nats_back {ns : List Int} (h : ∀ i ∈ ns, 0 ≤ i) : ns.map V.int = intsV (ns.map Int.toNat) := by
  unfold intsV
  rw [List.map_map]
  refine List.map_congr_left fun i hi => ?_
  show V.int i = V.int ((i.toNat : Nat) : Int)
  rw [Int.toNat_of_nonneg (h i hi)]
theorem isRow_of {cells : List Nat} {ns : List Int} (h1 : ns.Pairwise (· < ·)) (h2 : ∀ k : Int, k ∈ ns ↔ k ∈ cells.map fun k : Nat => (k : Int)) : IsRow cells (ns.map Int.toNat) ∧ ∀ i ∈ ns, 0 ≤ i := by
  have pos : ∀ i ∈ ns, 0 ≤ i := fun i hi => by
    obtain ⟨k, _, rfl⟩ := List.mem_map.mp ((h2 i).mp hi)
    exact Int.natCast_nonneg k
  refine ⟨⟨?_, fun k => ⟨fun hk => ?_, fun hk => ?_⟩⟩, pos⟩
  · rw [List.pairwise_map]
    refine h1.imp_of_mem fun {a b} ha hb hlt => ?_
    have := pos a ha
    have := pos b hb
    omega
  · obtain ⟨i, hi, rfl⟩ := List.mem_map.mp hk
    obtain ⟨j, hj, rfl⟩ := List.mem_map.mp ((h2 i).mp hi)
    exact hj
  · exact List.mem_map.mpr ⟨(k : Int), (h2 k).mpr (List.mem_map.mpr ⟨k, hk, rfl⟩), rfl⟩
/-- the same row -/
theorem isRow_uniq : ∀ {r r' : List Nat}, r.Pairwise (· < ·) → r'.Pairwise (· < ·) → (∀ k, k ∈ r ↔ k ∈ r') → r = r'
  | [], [], _, _, _ => rfl
  | [], b :: r', _, _, h => absurd ((h b).mpr List.mem_cons_self) List.not_mem_nil
  | a :: r, [], _, _, h => absurd ((h a).mp List.mem_cons_self) List.not_mem_nil
  | a :: r, b :: r', h1, h2, h => by
    obtain ⟨p1, p2⟩ := List.pairwise_cons.mp h1
    obtain ⟨q1, q2⟩ := List.pairwise_cons.mp h2
    have e : a = b := by
      rcases List.mem_cons.mp ((h a).mp List.mem_cons_self) with e | e
      · exact e
      · rcases List.mem_cons.mp ((h b).mpr List.mem_cons_self) with f | f
        · exact f.symm
        · have := q1 a e
          have := p1 b f
          omega
    subst e
    congr 1
    refine isRow_uniq p2 q2 fun k => ⟨fun hk => ?_, fun hk => ?_⟩
    · rcases List.mem_cons.mp ((h k).mp (List.mem_cons_of_mem _ hk)) with e | e
      · have := p1 k hk
        omega
      · exact e
    · rcases List.mem_cons.mp ((h k).mpr (List.mem_cons_of_mem _ hk)) with e | e
      · have := q1 k hk
        omega
      · exact e
end Ky
/-! ### set(xs), max(xs) of a list or a tuple of ints -/
namespace Ky
open PySem PySem.Spec PyProof.Rows L2
/-- a set that was just made -/
abbrev bareSet (w : World) : Obj := { cls := .type "set", dict := none, data := .set #[] 0 (.fresh 0 0 (!w.params.followText "set-order")) }
section
variable {P : Program} {w : World} {A : Around} {E : Value → Shared → Prop} {s : Shared}
theorem set_of_list {src : Addr} {elems : Array Value} (nums : List Int) {Goal : Value → Shared → Prop} (calm : A.handled = none) (isL : s.heap.IsList src elems) (vals : IntsAre elems.toList nums) (room : nums.length + 1 < scanBound)
    (then_ : ∀ (hp : Heap) (tk c : Nat), SetR w hp s.heap.objs.size (fun j => decide (j ∈ nums)) c → c ≤ nums.length → (∀ b o, s.heap.get? b = some o → hp.get? b = some o) → Goal (.ref s.heap.objs.size) { s with heap := hp, toks := tk }) :
    wpAny (model P w) A (call (.type "set") [.ref src]) Goal E s := by
  have many : elems.size = nums.length := (Array.length_toList (xs := elems)).symm.trans vals.length
  obtain ⟨c0, tl0, order⟩ := F.called_set.mro
  have f1 := F.called_set.made
  have f2 := F.called_set.sub
  refine wpAny_call (codeAny_of_tree ?_)
  show wpAny _ _ (callAny (.type "set") _) _ _ _
  refine wpAny_pure ⟨Code.quiet_builtin _ (by decide +kernel), codeAny_builtin F.entry_type_call ?_⟩
  rw [Around.under_plain (weight_type_call_type "set" [.ref src] []) rfl]
  have f3 := F.called_set.notType
  have f4 := F.called_set.canCreate
  have f5 := F.typeCall_set_1 (.ref src)
  repeat (any_goals (first | assumption | wp_step))
  refine codeAny_mono (code_set_led1 (.ref src) (E := E) (Q₁ := fun made st => made = .ref s.heap.objs.size ∧ st = { s with heap := s.heap.push (bareSet w) }) ⟨rfl, rfl⟩) fun r st z => ?_
  cases r with
  | error e => exact z
  | ok fl =>
    cases fl with
    | ret made =>
      obtain ⟨rfl, rfl⟩ := z
      have own : (s.heap.push (bareSet w)).get? s.heap.objs.size = some (bareSet w) := Heap.get?_push_size _ rfl
      have ty : Shared.TypeIs { s with heap := s.heap.push (bareSet w) } (.ref s.heap.objs.size) "set" := ⟨_, own, rfl⟩
      have f6 := F.called_set.init.lookup
      have f7 := F.called_set.init.bind (.ref s.heap.objs.size)
      repeat (any_goals (first | assumption | wp_step))
      refine codeAny_mono (codeAny_call_builtin (R := wants (fun r st => r = .none ∧ ∃ hp tk c, st = { s with heap := hp, toks := tk } ∧ SetR w hp s.heap.objs.size (fun j => decide (j ∈ nums)) c ∧ c ≤ nums.length ∧
          (∀ b o, s.heap.get? b = some o → hp.get? b = some o)) E) F.called_set.init.plain F.entry_set_init (check_set_init_1 ty ?_)) fun r2 st2 z2 => ?_
      · obtain ⟨ob, gob, cob, mob, dob⟩ := isL
        obtain ⟨cls0, dict0, data0, slots0⟩ := ob
        simp only at cob mob dob
        subst cob
        have gob' : (s.heap.push (bareSet w)).get? src = some _ := Heap.get?_push_of_some _ gob
        have g1 := F.sub_list_set
        have g2 := F.sub_list_frozenset
        have g3 : (Value.type "list" == Value.type "dict") = false := by decide
        have isL2 : (s.heap.push (bareSet w)).IsList src elems := ⟨_, gob', rfl, mob, dob⟩
        unfold Builtin.«set.__init__» noKeywords Builtin.Frozenset.updateFrom
        generalize hIt : pyIter = IT
        wp_walk
        subst hIt
        refine wpAny_pyIter_list isL2 (wpAny_bind (wpAny_runValue ?_))
        have below : src < s.heap.objs.size := Heap.lt_size gob
        have size1 : (s.heap.push (bareSet w)).objs.size = s.heap.objs.size + 1 := Heap.size_push ..
        have calm3 : A.in1.in1.in1.handled = none := by simp [calm]
        have apart : src ≠ (s.heap.push (bareSet w)).objs.size := by
          rw [size1]
          exact Nat.ne_of_lt (Nat.lt_succ_of_lt below)
        have outside : s.heap.objs.size ∉ [(s.heap.push (bareSet w)).objs.size, src] := fun m => by
          rcases List.mem_cons.mp m with z | z
          · rw [size1] at z
            exact Nat.ne_of_lt (Nat.lt_succ_self _) z
          · exact Nat.ne_of_gt below (List.mem_singleton.mp z)
        have each : ∀ (i : Nat) (v : Value), elems[i]? = some v → ∃ k t, nums[i]? = some k ∧ v = .int k t := fun i v e => by
          have lt : i < nums.length := many ▸ (Array.getElem?_eq_some_iff.mp e).1
          obtain ⟨t, z⟩ := PyProof.Rows.IntsAre.int_at vals i v (by rw [Array.getElem?_toList]; exact e)
          refine ⟨nums[i], t, List.getElem?_eq_getElem lt, z.trans ?_⟩
          rw [List.getD_eq_getElem?_getD, List.getElem?_eq_getElem lt] <;> rfl
        refine set_update_ints ((Walks.list calm3 _ src apart elems).toS) s.heap.objs.size outside nums many room each (elems.size - 0) 0 _ (by omega) (Nat.zero_le _) ⟨⟨_, Heap.get?_push_size _ rfl, rfl, rfl⟩, isL2.push _⟩ ?first ?last
        case first =>
          have there : ((s.heap.push (bareSet w)).push { cls := .type "list_iterator", data := .fields #[.ref src, .int 0 0] }).get? s.heap.objs.size = some (bareSet w) := Heap.get?_push_of_some _ own
          exact ⟨0, Nat.le_refl 0, setR_new_at there⟩
        case last =>
          intro sl c moved le R
          obtain ⟨hp, g, d, tk, os⟩ := sl
          have eg : g = s.gens := moved.gens
          have ed : d = s.drawn := moved.drawn
          have eo : os = s.os := moved.os
          subst eg ed eo
          show wpAny _ _ _ _ _ _
          refine wpAny_pure ?_
          show wpAny _ _ (ret Value.none) _ _ _
          rw [many] at le
          refine wpAny_pure ⟨rfl, hp, tk, c, rfl, R, le, fun b o e => ?_⟩
          have lt := Heap.lt_size e
          refine moved.heap b o (fun m => ?_) (Heap.get?_push_of_some _ (Heap.get?_push_of_some _ e))
          rcases List.mem_cons.mp m with z | z
          · exact Nat.ne_of_lt lt z
          · have z2 := List.mem_singleton.mp z
            rw [size1] at z2
            exact Nat.ne_of_lt (Nat.lt_succ_of_lt lt) z2
      · cases r2 with
        | error e => exact z2
        | ok fl2 =>
          cases fl2 with
          | ret r =>
            obtain ⟨rfl, hp, tk, c, rfl, q1, q2, q3⟩ := z2
            repeat (any_goals (first | assumption | wp_step))
            exact then_ _ _ _ q1 q2 q3
          | _ => exact z2.elim
    | _ => exact z.elim
end
/-- set(xs) -/
def rSetNums (K : PySem.W.Frag) (w : World) : List V → Hp → VK → Prop := fun vs H Q => ∃ (a : Addr) (ns : List Int), vs = [V.ref a] ∧ (SqL K H a (ns.map V.int) ∨ SqT K H a (ns.map V.int)) ∧ ns.length ≤ 1000 ∧
  ∀ (p : Addr) (c : Nat), c ≤ ns.length → H p = none → Q (.ref p) (upd H p (SetO w p (fun j => decide (j ∈ ns)) c))
theorem call_setNums {X : Cx} (hc : X.calm = true) : CallR X (.type "set") (rSetNums X.K X.w) := by
  intro pins s σ H xs us Q I r h
  obtain ⟨a, ns, rfl, sq, few, q⟩ := h
  have sb : ns.length + 1 < scanBound := Nat.lt_of_le_of_lt (Nat.succ_le_succ few) (by decide)
  rw [Vals.ref1 r]
  have fin : ∀ (hp : Heap) (tk c : Nat), SetR X.w hp s.heap.objs.size (fun j => decide (j ∈ ns)) c → c ≤ ns.length → (∀ b o, s.heap.get? b = some o → hp.get? b = some o) → EP X pins σ Q (.ref s.heap.objs.size) { s with heap := hp, toks := tk } := fun hp tk c R le kp => by
    have fr : H s.heap.objs.size = none := I.hok.fresh (Nat.le_refl _)
    exact ⟨.ref _, _, I.laid kp (Nat.le_refl _) (setO_new R), rfl, q _ c le fr⟩
  rcases sq with sq | sq
  · obtain ⟨its, rv, p, _⟩ := I.list sq
    exact set_of_list ns (I.ok.hd hc) p.isList rv.ints sb fin
  · obtain ⟨its, rv, p, _⟩ := I.tuple sq
    exact call_set_tupI ns (I.ok.hd hc) (show s.heap.IsTuple a its.toArray from p) rv.ints sb fin
end Ky
namespace Ky
open PySem PySem.Spec PyProof.Rows L2
theorem depth_ints : ∀ l : List Int, PyData.depthAll (l.map PyData.int) = 0
  | [] => rfl
  | i :: l => by
    show max 0 (PyData.depthAll (l.map PyData.int)) = 0
    rw [depth_ints l] <;> rfl
theorem foldl_max (ns : List Int) : ∀ n : Int, (ns.foldl max n = n ∨ ns.foldl max n ∈ ns) ∧ n ≤ ns.foldl max n ∧ ∀ y ∈ ns, y ≤ ns.foldl max n := by
  induction ns with
  | nil => exact fun n => ⟨.inl rfl, Int.le_refl n, fun y hy => by cases hy⟩
  | cons k ks ih =>
    intro n
    obtain ⟨h1, h2, h3⟩ := ih (max n k)
    have e : (k :: ks).foldl max n = ks.foldl max (max n k) := rfl
    rw [e]
    refine ⟨?_, by omega, fun y hy => ?_⟩
    · rcases h1 with h | h
      · rcases Int.le_total n k with z | z
        · exact .inr (by rw [h, Int.max_eq_right z]; exact List.mem_cons_self)
        · exact .inl (by rw [h, Int.max_eq_left z])
      · exact .inr (List.mem_cons_of_mem _ h)
    · rcases List.mem_cons.mp hy with rfl | hy
      · omega
      · exact h3 y hy
def rMaxS (K : PySem.W.Frag) : List V → Hp → VK → Prop := fun vs H Q => ∃ (a : Addr) (ns : List Int), vs = [V.ref a] ∧ (SqL K H a (ns.map V.int) ∨ SqT K H a (ns.map V.int)) ∧ 0 < ns.length ∧ ∀ m, m ∈ ns → (∀ y, y ∈ ns → y ≤ m) → Q (.int m) H
theorem call_maxS {X : Cx} {k : Nat} (hc : X.calm = true) (hr : Room k X.A) : CallR X (.builtin "max") (rMaxS X.K) := by
  intro pins s σ H xs us Q I r h
  obtain ⟨a, ns, rfl, sq, pos, q⟩ := h
  rcases sq with sq | sq
  · exact cr_max hc pins s σ H _ us Q I r ⟨a, ns, rfl, sq, pos, q⟩
  · rw [Vals.ref1 r]
    obtain ⟨as, rd⟩ := Dp.reads I (.tuple (ns.map PyData.int)) (.ref a) (.ref a) (.tup sq (dpI ns)) rfl
    cases ns with
    | nil => cases pos
    | cons n ns =>
      cases rd with
      | tuple h1 h2 h3 h4 =>
        refine PySem.W.max_tuple_data (I.ok.hd hc) ⟨_, h1, h2, _, h3⟩ h4 ⟨fun x hx y hy => ?_, fun x hx => ?_⟩ ?_ fun i v h' tk bs _ rv kp => ?_
        · obtain ⟨i, _, rfl⟩ := List.mem_map.mp (show x ∈ (n :: ns).map PyData.int from hx)
          obtain ⟨j, _, rfl⟩ := List.mem_map.mp (show y ∈ (n :: ns).map PyData.int from hy)
          rfl
        · obtain ⟨i, _, rfl⟩ := List.mem_map.mp (show x ∈ (n :: ns).map PyData.int from hx)
          exact fun z => by cases z
        · have e := depth_ints (n :: ns)
          have e2 : PyData.depthAll (PyData.int n :: List.map PyData.int ns) = 0 := e
          rw [e2]
          have := hr.un
          omega
        · rw [PySem.W.maxD_ints] at rv
          cases rv
          obtain ⟨m1, m2, m3⟩ := foldl_max ns n
          refine ⟨.int _, H, I.kept kp, ⟨_, rfl⟩, q _ ?_ fun y hy => ?_⟩
          · rcases m1 with z | z
            · rw [z]
              exact List.mem_cons_self
            · exact List.mem_cons_of_mem _ z
          · rcases List.mem_cons.mp hy with rfl | hy
            · exact m2
            · exact m3 y hy
end Ky
/-! ### heaps in which lists may have changed, all else is kept; promises of the laws' own helpers -/
namespace Ky
open PySem PySem.Spec PyProof.Rows L2
def Tup (H H' : Hp) : Prop := ∀ b o, H b = some o → (∀ xs, o ≠ .lst xs) → ∃ o', H' b = some o' ∧ GrO o o'
theorem Tup.refl (H : Hp) : Tup H H := fun b o e _ => ⟨o, e, .inl rfl⟩
theorem Tup.trans {H H1 H2 : Hp} (h : Tup H H1) (h2 : Tup H1 H2) : Tup H H2 := fun b o e n => by
  obtain ⟨o1, e1, g1⟩ := h b o e n
  obtain ⟨o2, e2, g2⟩ := h2 b o1 e1 (by
    rcases g1 with rfl | ⟨_, _, _, rfl, _⟩
    · exact n
    · intro xs z; cases z)
  exact ⟨o2, e2, g1.trans g2⟩
theorem Tup.of {H H' : Hp} (h : Gro H H') : Tup H H' := fun b o e _ => h b o e
theorem Tup.off {a : Addr} {H H' : Hp} {xs : List V} (h : OffG a H H') (n : H a = some (.lst xs)) : Tup H H' := fun b o e m => h b o (fun z => by
  rw [z, n] at e
  exact m xs (Option.some.inj e).symm) e
theorem Tup.deck {a : Addr} {H H' : Hp} (h : OffG a H H') (d : DeckAt H a) : Tup H H' := by
  obtain ⟨x, y, e, _⟩ := d
  exact Tup.off h e
theorem Tup.put {H : Hp} {p : Addr} {xs : List V} (ys : List V) (e : H p = some (.lst xs)) : Tup H (upd H p (.lst ys)) := fun b o e2 n => by
  have hb : b ≠ p := fun z => by
    rw [z, e] at e2
    exact n xs (Option.some.inj e2).symm
  exact ⟨o, by rw [upd_ne hb]; exact e2, .inl rfl⟩
theorem Tup.sqt {K : PySem.W.Frag} {H H' : Hp} {b : Addr} {xs : List V} (t : Tup H H') (h : SqT K H b xs) : SqT K H' b xs := by
  rcases h with (h | ⟨o, h⟩) | h
  · obtain ⟨o', e, g⟩ := t b _ h (by intro _ z; cases z)
    rcases g with rfl | ⟨_, _, z, _⟩
    · exact .inl (.inl e)
    · cases z
  · obtain ⟨o', e, g⟩ := t b _ h (by intro _ z; cases z)
    rcases g with rfl | ⟨_, _, z, _⟩
    · exact .inl (.inr ⟨o, e⟩)
    · cases z
  · exact .inr h
theorem Tup.tg {H H' : Hp} {P : Addr} (t : Tup H H') (h : GxR.TabG H P) : GxR.TabG H' P := by
  obtain ⟨ps, e, tr⟩ := h
  obtain ⟨o', e', g⟩ := t P _ e (by intro _ z; cases z)
  rcases g with rfl | ⟨_, ps', _, rfl, t'⟩
  · exact ⟨ps, e', tr⟩
  · exact ⟨ps', e', t'⟩
theorem Tup.row {K : PySem.W.Frag} {H H' : Hp} {v : V} {r : List Nat} (t : Tup H H') (h : Dp K H v (rowD r)) : Dp K H' v (rowD r) := by
  obtain ⟨a, rfl, s⟩ := row_inv h
  exact row_mk (t.sqt s)
theorem Tup.rows {K : PySem.W.Frag} {H H' : Hp} (t : Tup H H') : ∀ {rows : List (List Nat)} {xs : List V}, DpAll K H xs (rows.map rowD) → DpAll K H' xs (rows.map rowD)
  | [], _, h => by cases h; exact .nil
  | r :: rows, _, h => by
    have h' : DpAll K H _ (rowD r :: rows.map rowD) := h
    cases h' with
    | cons h1 h2 => exact .cons (t.row h1) (Tup.rows t h2)
theorem Tup.page {K : PySem.W.Frag} {H H' : Hp} {v : V} {m : Nat} {rows : List (List Nat)} (t : Tup H H') (h : Dp K H v (pageD m rows)) : Dp K H' v (pageD m rows) := by
  obtain ⟨a, b, xs, rfl, h1, h2, h3⟩ := page_inv h
  exact page_mk (t.sqt h1) (t.sqt h2) (t.rows h3)
/-- a lawful row -/
def RowOk (m : Nat) (r : List Nat) : Prop := r ≠ [] ∧ Asc m r
theorem Asc.mono {m n : Nat} {r : List Nat} (h : Asc m r) (l : m ≤ n) : Asc n r := ⟨h.1, fun k hk => Nat.lt_of_lt_of_le (h.2 k hk) l⟩
theorem asc_range (n : Nat) : Asc n (List.range n) := ⟨List.pairwise_lt_range, fun k hk => List.mem_range.mp hk⟩
theorem asc_snoc {m i : Nat} {r : List Nat} (h : Asc i r) (l : i < m) : Asc (i + 1) (r ++ [i]) := by
  refine ⟨List.pairwise_append.mpr ⟨h.1, List.pairwise_singleton _ _, fun a ha b hb => ?_⟩, fun k hk => ?_⟩
  · rw [List.mem_singleton.mp hb]
    exact h.2 a ha
  · rcases List.mem_append.mp hk with z | z
    · exact Nat.lt_succ_of_lt (h.2 k z)
    · rw [List.mem_singleton.mp z]
      exact Nat.lt_succ_self i
theorem rgV_nats (n : Nat) : rgV 0 (n : Int) = intsV (List.range n) := by
  unfold rgV intsV
  rw [Int.sub_zero, Int.toNat_natCast]
  refine List.map_congr_left fun i _ => ?_
  rw [Int.zero_add]
def spCells (K : PySem.W.Frag) : Sp := fun vs H Q _ => ∃ (a : Addr) (m : Nat), vs = [.ref a, .int (m : Int)] ∧ DeckAt H a ∧ 1 ≤ m ∧ m ≤ 1000 ∧
  ∀ H' p r, OffG a H H' → DeckAt H' a → RowOk m r → H' p = some (.tup (intsV r)) → Q (.ref p) H'
def spPage (K : PySem.W.Frag) : Sp := fun vs H Q _ => ∃ (a : Addr) (most : Nat), vs = [.ref a, .int (most : Int)] ∧ DeckAt H a ∧ 1 ≤ most ∧ most ≤ 100 ∧
  ∀ H' p m rows, OffG a H H' → DeckAt H' a → Good m rows → m ≤ most → rows.length ≤ most → Dp K H' (.ref p) (pageD m rows) → Q (.ref p) H'
def spLot (K : PySem.W.Frag) : Sp := fun vs H Q _ => ∃ (a : Addr) (x : V) (m : Nat) (rows : List (List Nat)), vs = [.ref a, x] ∧ DeckAt H a ∧ Dp K H x (pageD m rows) ∧ rows.length ≤ 1000 ∧
  ∀ H' p lot, OffG a H H' → DeckAt H' a → Asc rows.length lot → SqT K H' p (intsV lot) → Q (.ref p) H'
theorem rows_shaped (rows : List (List Nat)) : SeqAt.shaped (.list (rows.map rowD)) = true := by
  obtain ⟨h1, h2⟩ := rows_lay rows
  unfold SeqAt.shaped
  show (PyData.canLayAll0 (rows.map rowD) && decide (PyData.depthAll (rows.map rowD) + 1 ≤ 64)) = true
  rw [h1, decide_eq_true (by omega)] <;> rfl
theorem nats_shaped (r : List Nat) : SeqAt.shaped (.list (natsD r)) = true := by
  unfold SeqAt.shaped
  show (PyData.canLayAll0 (natsD r) && decide (PyData.depthAll (natsD r) + 1 ≤ 64)) = true
  rw [canLay_nats, depth_nats] <;> rfl
/-- a name that was not there before: new, and not the deck -/
theorem new_at {a p : Addr} {H H1 : Hp} (o : OffG a H H1) (d : DeckAt H1 a) (n : H1 p = none) : p ≠ a ∧ H p = none := by
  have h1 : p ≠ a := by
    obtain ⟨_, _, e, _⟩ := d
    exact (ne_of_none e n).symm
  refine ⟨h1, ?_⟩
  cases z : H p with
  | none => rfl
  | some u =>
    obtain ⟨u', e, _⟩ := o p u h1 z
    rw [e] at n
    cases n
theorem OffG.put {a p : Addr} {H H1 : Hp} {u0 : HO} (h : OffG a H H1) (n : H p = none) : OffG a H (upd H1 p u0) := fun b u nb e => by
  rw [upd_ne (ne_of_none e n)]
  exact h b u nb e
theorem deck_put {a p : Addr} {H1 : Hp} {o : HO} (h : DeckAt H1 a) (n : p ≠ a) : DeckAt (upd H1 p o) a := by
  obtain ⟨x, y, e, h0, h1⟩ := h
  exact ⟨x, y, by rw [upd_ne n.symm]; exact e, h0, h1⟩
/-! ### a page at hand, its rows, within a heap that has gone on -/
structure PG4 (K : PySem.W.Frag) (tf : List Str) (a : Addr) (H : Hp) (g B : Addr) (m : Nat) (rows : List (List Nat)) (H' : Hp) : Prop where
  off : OffG a H H'
  deck : DeckAt H' a
  tabs : ∀ x ∈ tf, GxR.TabG H' (tA K x)
  page : Dp K H' (.ref g) (pageD m rows)
  rows : ∃ xs, SqT K H' B xs ∧ DpAll K H' xs (rows.map rowD)
section
variable {K : PySem.W.Frag} {tf : List Str} {a g B : Addr} {m : Nat} {rows : List (List Nat)} {H H1 H2 : Hp}
theorem PG4.gro (w : PG4 K tf a H g B m rows H1) (h : Gro H1 H2) : PG4 K tf a H g B m rows H2 := by
  obtain ⟨xs, h1, h2⟩ := w.rows
  exact ⟨w.off.trans (.of h), w.deck.gro h, fun x hx => h.tg (w.tabs x hx), Dp.gro h _ _ w.page, xs, h.tupS h1, DpAll.gro h _ _ h2⟩
theorem PG4.turn (w : PG4 K tf a H g B m rows H1) (o : OffG a H1 H2) (d : DeckAt H2 a) : PG4 K tf a H g B m rows H2 := by
  obtain ⟨xs, h1, h2⟩ := w.rows
  have t := Tup.deck o w.deck
  exact ⟨w.off.trans o, d, fun x hx => t.tg (w.tabs x hx), t.page w.page, xs, t.sqt h1, t.rows h2⟩
end
theorem fit_row (n : Nat) {m : Nat} {r : List Nat} (h : Asc m r) (hm : m ≤ 1000) : Fit (n + 2) (rowD r) := by
  have hl := asc_len h
  refine ⟨by rw [natsD_len]; omega, fun e he => ?_⟩
  obtain ⟨i, _, rfl⟩ := List.mem_map.mp he
  exact trivial
theorem fit_page (n : Nat) {m : Nat} {rows : List (List Nat)} (h : Good m rows) : Fit (n + 4) (pageD m rows) := by
  have many := h.many
  refine ⟨(by show 2 < 4611686018427387904; decide), fun e he => ?_⟩
  rcases List.mem_cons.mp he with rfl | he
  · exact trivial
  · rcases List.mem_cons.mp he with rfl | he
    · refine ⟨by rw [List.length_map]; omega, fun e he => ?_⟩
      obtain ⟨r, hr, rfl⟩ := List.mem_map.mp he
      exact fit_row n (h.row r hr).2 h.few
    · cases he
theorem same_l {K : PySem.W.Frag} {H : Hp} {p1 p2 : Addr} {vs ws : List V} {ds : List PyData} (h1 : H p1 = some (.lst vs)) (h2 : H p2 = some (.lst ws)) (d1 : DpAll K H vs ds) (d2 : DpAll K H ws ds) : Dp K H (.ref p1) (.list ds) ∧ Dp K H (.ref p2) (.list ds) :=
  ⟨.lst (SqL.of h1) d1, .lst (SqL.of h2) d2⟩
theorem Good.snoc {m : Nat} {rows : List (List Nat)} {r : List Nat} (g : Good m rows) (h : RowOk m r) (l : rows.length < 1000) : Good m (rows ++ [r]) :=
  ⟨g.pos, g.few, by rw [List.length_append]; exact l, fun x hx => by
    rcases List.mem_append.mp hx with z | z
    · exact g.row x z
    · rw [List.mem_singleton.mp z]; exact h⟩
theorem Good.sub {m : Nat} {rows rows' : List (List Nat)} (g : Good m rows) (h : ∀ r ∈ rows', r ∈ rows) (l : rows'.length ≤ 1000) : Good m rows' := ⟨g.pos, g.few, l, fun x hx => g.row x (h x hx)⟩
theorem pick_mem {rows : List (List Nat)} {lot : List Nat} (h : ∀ k ∈ lot, k < rows.length) : ∀ r ∈ pick rows lot, r ∈ rows := fun r hr => by
  obtain ⟨k, hk, rfl⟩ := List.mem_map.mp hr
  have hlt := h k hk
  rw [List.getD_eq_getElem?_getD, List.getElem?_eq_getElem hlt]
  exact List.getElem_mem hlt
theorem pick_range (rows : List (List Nat)) : pick rows (List.range rows.length) = rows := by
  unfold pick
  refine List.ext_getElem (by simp) fun i h1 h2 => ?_
  simp [List.getD_eq_getElem?_getD, h2]
theorem words_shown {K : PySem.W.Frag} {H : Hp} {y : Addr} {l : List Nat} (h : WordsAt K H y l) (hb : ∀ n ∈ l, n < 2 ^ 1000) (hl : l.length ≤ 1000) :
    ∃ d : PyData, Dp K H (.ref y) d ∧ d.showable = true ∧ d.hasDict = false ∧ d.depth < 100 ∧ d.shown.length ≤ sizeLine := by
  obtain ⟨h1, h2, h3, h4, h5, h6⟩ := ints_show _ (words_show hb hl)
  rcases h with h | h
  · obtain ⟨s1, s2, s3, s4, _⟩ := list_show (words_show hb hl) (by rw [List.length_map]; exact hl)
    exact ⟨_, dpW l h, s1, s2, s3, s4⟩
  · rw [intsV_map] at h
    refine ⟨_, .tup h (dpI _), h1, h2, ?_, ?_⟩
    · show PyData.depthAll (natsD l) + 1 < 100
      rw [h3]
      decide
    · have z := PyData.shown_le_bulk 1921 (by decide) (.tuple (natsD l)) h4
      have e : (PyData.tuple (natsD l)).bulk = (l.map fun k : Nat => (k : Int)).length := h5
      rw [e, List.length_map] at z
      have e2 : sizeLine = 16777216 := by decide
      show (PyData.tuple (natsD l)).shown.length ≤ sizeLine
      omega
/-- xs at the keys of a lot -/
def atV (xs : List V) : V → V
  | .int n => xs.getD n.toNat .non
  | _ => .non
theorem atV_nat {xs : List V} {k : Nat} {v : V} (h : xs[k]? = some v) : atV xs (.int (k : Int)) = v := by
  show xs.getD ((k : Int)).toNat .non = v
  rw [Int.toNat_natCast, List.getD_eq_getElem?_getD, h]
  rfl
theorem atV_rows {K : PySem.W.Frag} {H : Hp} {xs : List V} {rows : List (List Nat)} (h : DpAll K H xs (rows.map rowD)) : ∀ {lot : List Nat}, (∀ k ∈ lot, k < rows.length) → DpAll K H ((intsV lot).map (atV xs)) ((pick rows lot).map rowD)
  | [], _ => .nil
  | k :: lot, each => by
    have hk := each k List.mem_cons_self
    obtain ⟨v, e1, e2⟩ := DpAll.get _ h (i := k) (d := rowD rows[k]) (by rw [List.getElem?_map, List.getElem?_eq_getElem hk]; rfl)
    have e4 : rows.getD k [] = rows[k] := by
      rw [List.getD_eq_getElem?_getD, List.getElem?_eq_getElem hk]
      rfl
    refine .cons ?_ (atV_rows h fun j hj => each j (List.mem_cons_of_mem _ hj))
    show Dp K H (atV xs (.int (k : Int))) (rowD (rows.getD k []))
    rw [atV_nat e1, e4]
    exact e2
theorem atV_ints {l : List Nat} : ∀ {lot : List Nat}, (∀ k ∈ lot, k < l.length) → (intsV lot).map (atV (intsV l)) = intsV (lot.map fun k => l.getD k 0)
  | [], _ => rfl
  | k :: lot, each => by
    have hk := each k List.mem_cons_self
    have ih := atV_ints (lot := lot) fun j hj => each j (List.mem_cons_of_mem _ hj)
    show atV (intsV l) (.int (k : Int)) :: (intsV lot).map (atV (intsV l)) = V.int ((l.getD k 0 : Nat) : Int) :: intsV (lot.map fun k => l.getD k 0)
    rw [ih, atV_nat (intsV_get hk), List.getD_eq_getElem?_getD, List.getElem?_eq_getElem hk]
    rfl
theorem lc_at {K : PySem.W.Frag} {c b : Addr} {xs : List V} {lot : List Nat} {i : Nat} {te : TE} {vs : List Nat} {σ : L2.St} {H1 : Hp} {D : Addr} {Qd : Hp → Prop} (sq : SqT K H1 c (intsV lot)) (hD : H1 D = none) (h2 : SqT K H1 b xs) (each : ∀ k ∈ lot, k < xs.length) (few : lot.length ≤ 1000)
    (hw : ∀ v, wipe ((wipe σ vs).set i (some v)) vs = wipe σ vs) (el : ∀ (k : Nat) (v : V) (H : Hp) (Q : VK), SqT K H b xs → atI xs (k : Int) = some v → Q v H → te ((wipe σ vs).set i (some (.int (k : Int)))) H Q) (hd : Qd (upd H1 D (.lst ((intsV lot).map (atV xs))))) :
    ∃ W : Nat → Nat → Hp → Prop, (∃ m, W 0 m (upd H1 D (.lst []))) ∧ ∀ i' m H, W i' m H →
      ((Itt K c).stop i' H ∧ Qd H) ∨ ((Itt K c).go i' H ∧ ∃ Nx : Hp → Prop, (∀ H', Nx H' → ∃ m', m' < m ∧ W (i' + 1) m' H') ∧ ∀ x H', (Itt K c).yld i' H x H' → gName i x (wipe σ vs) H' fun σ2 H2 => wipe σ2 vs = wipe σ vs ∧ tYes σ2 H2 fun b H3 =>
        if b = true then te σ2 H3 fun y H4 => ∃ acc, H4 D = some (.lst acc) ∧ acc.length < sizeLine ∧ Nx (upd H4 D (.lst (acc ++ [y]))) else Nx H3) := by
  refine lc_mapT (atV xs) sq hD (by rw [intsV_len]; omega) hw (fun v hv H Q hs q => ?_) hd
  obtain ⟨k, hk, rfl⟩ := List.mem_map.mp hv
  have hlt := each k hk
  refine el k xs[k] H Q (Same.tupS hs h2) (atI_nat (List.getElem?_eq_getElem hlt)) ?_
  rw [atV_nat (List.getElem?_eq_getElem hlt)] at q
  exact q
theorem pick_len (rows : List (List Nat)) (lot : List Nat) : (pick rows lot).length = lot.length := List.length_map _
theorem asc_pick {l inner : List Nat} {n : Nat} (hl : Asc n l) (hi : Asc l.length inner) : Asc n (inner.map fun k => l.getD k 0) := by
  have key : ∀ k, k < l.length → ∀ (h : k < l.length), l.getD k 0 = l[k] := fun k _ h => by
    rw [List.getD_eq_getElem?_getD, List.getElem?_eq_getElem h]
    rfl
  refine ⟨?_, fun k hk => ?_⟩
  · rw [List.pairwise_map]
    refine hi.1.imp_of_mem fun {a b} ha hb hlt => ?_
    have h1 := hi.2 a ha
    have h2 := hi.2 b hb
    rw [key a h1 h1, key b h2 h2]
    exact List.pairwise_iff_getElem.mp hl.1 a b h1 h2 hlt
  · obtain ⟨j, hj, rfl⟩ := List.mem_map.mp hk
    have h1 := hi.2 j hj
    rw [key j h1 h1]
    exact hl.2 _ (List.getElem_mem h1)
theorem pick_pick {rows : List (List Nat)} {lot inner : List Nat} (hi : ∀ k ∈ inner, k < lot.length) : pick (pick rows lot) inner = pick rows (inner.map fun k => lot.getD k 0) := by
  unfold pick
  rw [List.map_map]
  refine List.map_congr_left fun k hk => ?_
  have hlt := hi k hk
  show (lot.map fun k => rows.getD k []).getD k [] = rows.getD (lot.getD k 0) []
  rw [List.getD_eq_getElem?_getD, List.getElem?_map, List.getD_eq_getElem?_getD (l := lot), List.getElem?_eq_getElem hlt]
  rfl
theorem asc_cut (n k : Nat) : Asc n ((List.range n).take k ++ (List.range n).drop (k + 1)) := by
  have s : ((List.range n).take k ++ (List.range n).drop (k + 1)).Sublist (List.range n) := by
    have e := List.take_append_drop k (List.range n)
    have h := List.Sublist.append (List.Sublist.refl ((List.range n).take k)) (List.drop_sublist 1 ((List.range n).drop k))
    rw [e, List.drop_drop] at h
    exact h
  exact ⟨List.pairwise_lt_range.sublist s, fun j hj => List.mem_range.mp (s.subset hj)⟩
theorem pick_cut (rows : List (List Nat)) (k : Nat) : pick rows ((List.range rows.length).take k ++ (List.range rows.length).drop (k + 1)) = rows.take k ++ rows.drop (k + 1) := by
  have e := pick_range rows
  unfold pick at e ⊢
  rw [List.map_append, List.map_take, List.map_drop, e]
end Ky
/-! ### t[::-1] of a tuple -/
namespace Ky
open PySem PySem.Spec PyProof.Rows L2
theorem adjust_rev (n : Nat) : Builtin.Slice.sliceAdjust none none (-1) (n : Int) = ((n : Int) - 1, -1) := by
  unfold Builtin.Slice.sliceAdjust
  simp
theorem places_rev (n : Nat) : Builtin.Slice.slicePlaces ((n : Int) - 1) (-1) (-1) = n := by
  unfold Builtin.Slice.slicePlaces
  simp
  omega
theorem fm_congr {α β : Type} {f g : α → Option β} : ∀ {l : List α}, (∀ x ∈ l, f x = g x) → l.filterMap f = l.filterMap g
  | [], _ => rfl
  | a :: l, h => by
    rw [List.filterMap_cons, List.filterMap_cons, h a List.mem_cons_self, fm_congr fun x hx => h x (List.mem_cons_of_mem _ hx)]
theorem pick_rev (xs : Array Value) : ((List.range xs.size).filterMap fun (m : Nat) => xs[(((xs.size : Int) - 1) + (m : Int) * -1).toNat]?).toArray = xs.toList.reverse.toArray := by
  have e : ((List.range xs.size).filterMap fun (m : Nat) => xs[(((xs.size : Int) - 1) + (m : Int) * -1).toNat]?) = xs.toList.reverse := by
    have h : ((List.range xs.size).filterMap fun (m : Nat) => xs[(((xs.size : Int) - 1) + (m : Int) * -1).toNat]?) = ((List.range xs.size).map fun k => xs.size - 1 - k).filterMap (xs[·]?) := by
      rw [List.filterMap_map]
      refine fm_congr fun m hm => ?_
      have := List.mem_range.mp hm
      show xs[(((xs.size : Int) - 1) + (m : Int) * -1).toNat]? = xs[xs.size - 1 - m]?
      congr 1
      omega
    rw [h, PySem.W.krv_range, List.filterMap_reverse, PySem.W.krv_all]
  rw [e]
section
variable {prog : Program} {w : World} {A : Around} {E : Value → Shared → Prop} {s : Shared}
theorem applied_rev {sl : Addr} {vs : Value} {n : Nat} {Goal : Int × Int × Nat → Shared → Prop} (isS : s.heap.IsSliceOf sl .none .none vs) (step : IsPart vs (some (-1))) (then_ : Goal ((n : Int) - 1, -1, n) s) :
    wpAny (model prog w) A (Builtin.Slice.sliceApplied (.ref sl) (pure (n : Int))) Goal E s := by
  obtain ⟨ob, g, c, d⟩ := id isS
  unfold Builtin.Slice.sliceApplied Builtin.Slice.sliceFields
  refine wpAny_bind (wpAny_bind (wpAny_field g d (x := .none) rfl (wpAny_bind (wpAny_field g d (x := .none) rfl (wpAny_bind (wpAny_field g d (x := vs) rfl (wpAny_pure ?_)))))))
  refine wpAny_bind (HT.slicePart_ step ?_)
  show wpAny _ _ (if ((-1 : Int) == 0) = true then _ else _) _ _ s
  rw [if_neg (by decide)]
  refine wpAny_bind (slicePart_none (wpAny_bind (slicePart_none (wpAny_bind (wpAny_pure ?_)))))
  show wpAny _ _ (match Builtin.Slice.sliceAdjust none none (-1) (n : Int) with | (lo, hi) => pure (lo, (-1 : Int), Builtin.Slice.slicePlaces lo hi (-1))) _ _ s
  rw [adjust_rev n]
  show wpAny _ _ (pure ((n : Int) - 1, (-1 : Int), Builtin.Slice.slicePlaces ((n : Int) - 1) (-1) (-1))) _ _ s
  rw [places_rev]
  exact wpAny_pure then_
theorem item_rev {t sl : Addr} {items : Array Value} {vs : Value} {Goal : Value → Shared → Prop} (isT : IsTup s.heap t items) (isS : s.heap.IsSliceOf sl .none .none vs) (step : IsPart vs (some (-1)))
    (then_ : Goal (.ref s.heap.objs.size) { s with heap := s.heap.push { cls := .type "tuple", data := .seq items.toList.reverse.toArray } }) (room : items.size ≤ sizeLine) : wpAny (model prog w) A (getItem (.ref t) (.ref sl)) Goal E s := by
  have fits : sizeOk (.seq items.toList.reverse.toArray) := by
    show items.toList.reverse.toArray.size ≤ sizeLine
    rw [List.size_toArray, List.length_reverse, Array.length_toList]
    exact room
  obtain ⟨ob, g, c, d⟩ := id isS
  have ty : s.TypeIs (.ref sl) "slice" := ⟨ob, g, c⟩
  unfold getItem
  try with_reducible refine wpAny_holding ?_
  first | refine wpAny_bind (wpAny_pure ?_) | skip
  refine wpAny_bind (wpAny_sequenceKey isT.typeIs (by decide) ?_)
  refine wpAny_bind (wpAny_callSpecial?_slot (name := Str.ofString "__getitem__") isT.typeIs PyProof.Rows.slot_tuple_getitem (wpAny_call_entry PyProof.Rows.slot_tuple_getitem isT.typeIs entry_tuple_getitem ?_ (args_tuple_getitem _ _)))
  show wpAny _ _ (Builtin.Tuple.tupleItemsOf (.ref t) >>= _) _ _ s
  refine wpAny_bind (PyProof.Rows.tupleItemsOf_ isT (wpAny_bind (wpAny_typeOf ty ?_)))
  rw [if_pos (by decide)]
  refine wpAny_bind (applied_rev isS step ?_)
  have differs : ¬ ((((items.size : Int) - 1) == 0 && (-1 : Int) == 1 && items.size == items.size) = true) := by
    have e : ((-1 : Int) == 1) = false := by decide
    rw [e, Bool.and_false, Bool.false_and]
    exact Bool.false_ne_true
  show wpAny _ _ (if (((items.size : Int) - 1) == 0 && (-1 : Int) == 1 && items.size == items.size) = true then _ else _) _ _ s
  rw [if_neg differs, pick_rev]
  first
    | exact wpAny_bind (m := Builtin.Tuple.tupleExact _) (wpAny_newObj_type (wpAny_pure ⟨_, rfl, wpAny_pure then_⟩) fits)
    | exact wpAny_bind (m := Builtin.Tuple.tupleExact _) (wpAny_newObj_type (wpAny_bind (wpAny_pure (wpAny_pure ⟨_, rfl, wpAny_pure then_⟩))) fits)
    | exact wpAny_bind (wpAny_bind (m := Builtin.Tuple.tupleExact _) (wpAny_newObj_type (wpAny_pure (wpAny_pure ⟨_, rfl, wpAny_pure then_⟩)) fits))
    | exact wpAny_bind (wpAny_bind (m := Builtin.Tuple.tupleExact _) (wpAny_newObj_type (wpAny_pure ⟨_, rfl, wpAny_pure then_⟩) fits))
end
def tRevT (K : PySem.W.Frag) (te : TE) : TE := fun σ H Q => te σ H fun x H1 => ∃ a xs, x = .ref a ∧ SqT K H1 a xs ∧ ∀ p, H1 p = none → Q (.ref p) (upd H1 p (.tup xs.reverse))
theorem pe_revT {X : Cx} {e : Expr} {te : TE} {k : Nat} {p1 p2 p3 pos : Pos} (he : PE X e te) : PE X (.Subscript e (.Slice none none (some (.UnaryOp .USub (.Constant (.int 1) k p1) p2)) p3) pos) (tRevT X.K te) := by
  refine ⟨fun pins s σ H Q I want => Subscript_ (thn (he.run pins s σ H _ I want) fun v s1 ⟨x, H1, I1, r1, a, xs, ex, sq, q⟩ => ?_)⟩
  subst ex
  have ev : v = Value.ref a := r1
  subst ev
  have down : PO X (some (.UnaryOp .USub (.Constant (.int 1) k p1) p2)) (tPart (tUn (rU fun i => .int (-i)) (tC (.int 1)))) := po_some (pe_un un_neg pe_int)
  refine wpAny_Slice (thn (po_none.run pins s1 σ H1 (fun o G => o = none ∧ G = H1) I1 ⟨rfl, rfl⟩) fun vl s2 ⟨l, H2, I2, pl, el, e2⟩ => ?_)
  subst el e2
  refine thn (po_none.run pins s2 σ H2 (fun o G => o = none ∧ G = H2) I2 ⟨rfl, rfl⟩) fun vu s3 ⟨u, H3, I3, pu, eu, e3⟩ => ?_
  subst eu e3
  refine thn (down.run pins s3 σ H3 (fun o G => o = some (-1) ∧ G = H3) I3 ⟨1, rfl, -1, rfl, rfl, rfl⟩) fun vs s4 ⟨o, H4, I4, ps, eo, e4⟩ => ?_
  subst eo e4
  have I5 : Inv X pins σ H4 { s4 with heap := s4.heap.push { cls := .type "slice", data := .fields #[vl, vu, vs] } } := I4.kept (t' := s4.toks) fun b ob z => Heap.get?_push_of_some _ z
  obtain ⟨its, rel, isT, few⟩ := I5.tuple sq
  have many := rel.length
  cases pl
  cases pu
  show wpAny (model X.prog X.w) X.A (subscriptTail e (.Slice none none (some (.UnaryOp .USub (.Constant (.int 1) k p1) p2)) p3) (.ref a) (.ref s4.heap.objs.size)) (EP X pins σ Q) X.xe { s4 with heap := s4.heap.push { cls := .type "slice", data := .fields #[.none, .none, vs] } }
  refine tail_any (ops := [.ref a, .ref s4.heap.objs.size]) isT.typeIs PyProof.Rows.slot_tuple_getitem.lookup ?_ (by with_unfolding_all rfl)
  refine item_rev isT (Heap.IsSliceOf.new _ .none .none vs) ps ?_ (by rw [List.size_toArray]; omega)
  exact ⟨.ref _, _, I5.laid (t' := s4.toks) (o := .tup xs.reverse) (fun b ob z => Heap.get?_push_of_some _ z) (Nat.le_refl _) ⟨by rw [List.length_reverse]; exact few, _, rel.reverse, IsTup.new _ _⟩, rfl, q _ (I5.hok.fresh (Nat.le_refl _))⟩
end Ky
/-! ### rows told, each a list or a tuple -/
namespace Ky
open PySem PySem.Spec PyProof.Rows L2
/-- the told rows at the items vs -/
def WAll (K : PySem.W.Frag) (H : Hp) (vs : List V) (cs : List (List Nat)) : Prop := vs.length = cs.length ∧ ∀ (i : Nat) (v : V) (c : List Nat), vs[i]? = some v → cs[i]? = some c → ∃ a, v = .ref a ∧ WordsAt K H a c
theorem WAll.gro {K : PySem.W.Frag} {H H' : Hp} {vs : List V} {cs : List (List Nat)} (h : WAll K H vs cs) (g : Gro H H') : WAll K H' vs cs := ⟨h.1, fun i v c e1 e2 => by
  obtain ⟨a, e, w⟩ := h.2 i v c e1 e2
  exact ⟨a, e, w.gro g⟩⟩
/-- the rows are the told ones, put in order -/
def RowsOf (m : Nat) (cs rows : List (List Nat)) : Prop := cs.length = rows.length ∧ ∀ (i : Nat) (c r : List Nat), cs[i]? = some c → rows[i]? = some r → IsRow c r ∧ Told m c
def spBook (K : PySem.W.Frag) : Sp := fun vs H Q _ => ∃ (y : Addr) (m : Nat) (us : List V) (cs rows : List (List Nat)), vs = [.int (m : Int), .ref y] ∧ 1 ≤ m ∧ (SqL K H y us ∨ SqT K H y us) ∧ WAll K H us cs ∧ RowsOf m cs rows ∧ cs.length ≤ 1000 ∧
  GxR.TabG H (tA K "are_integers") ∧ ∀ H' p, Gro H H' → Dp K H' (.ref p) (pageD m rows) → Q (.ref p) H'
def isCellD : PyData → Int → Bool
  | .int i, m => decide (0 ≤ i) && decide (i < m)
  | _, _ => false
def spIsCell (K : PySem.W.Frag) : Sp := fun vs H Q _ => ∃ (x : V) (d : PyData) (m : Int), vs = [.int m, x] ∧ Dp K H x d ∧ Q (.bl (isCellD d m)) H
/-- two by two ascending -/
def adjUp : List PyData → Bool
  | [] => true
  | d :: ds => (match d, ds with
    | .int i, .int j :: _ => decide (i < j)
    | _, _ => true) && adjUp ds
theorem asc_split (m : Int) : ∀ (ds : List PyData) (l : Int), 0 ≤ l → ascFrom m l ds = (ds.all (fun d => isCellD d m) && adjUp ds && (match ds with | .int i :: _ => decide (l ≤ i) | _ => true))
  | [], l, _ => rfl
  | d :: ds, l, h0 => by
    cases d with
    | int i =>
      show (decide (l ≤ i) && (decide (i < m) && ascFrom m (i + 1) ds)) = _
      by_cases h1 : l ≤ i
      · rw [asc_split m ds (i + 1) (by omega)]
        have e1 : isCellD (.int i) m = decide (i < m) := by
          show (decide (0 ≤ i) && decide (i < m)) = _
          rw [decide_eq_true (by omega : 0 ≤ i), Bool.true_and]
        show _ = ((isCellD (.int i) m && ds.all fun d => isCellD d m) && adjUp (.int i :: ds) && decide (l ≤ i))
        rw [e1, decide_eq_true h1]
        have e2 : adjUp (.int i :: ds) = ((match ds with | .int j :: _ => decide (i + 1 ≤ j) | _ => true) && adjUp ds) := by
          cases ds with
          | nil => rfl
          | cons e es => cases e <;> rfl
        rw [e2]
        cases decide (i < m) <;> cases (ds.all fun d => isCellD d m) <;> cases adjUp ds <;> simp
      · show _ = (_ && _ && decide (l ≤ i))
        rw [decide_eq_false h1, Bool.false_and, Bool.and_false]
    | none => rfl
    | bool b => rfl
    | str x => rfl
    | list x => rfl
    | tuple x => rfl
    | dict x => rfl
theorem asc0 (m : Int) (ds : List PyData) : ascFrom m 0 ds = (ds.all (fun d => isCellD d m) && adjUp ds) := by
  rw [asc_split m ds 0 (Int.le_refl 0)]
  cases ds with
  | nil => rfl
  | cons d ds =>
    cases d with
    | int i =>
      show ((isCellD (.int i) m && ds.all fun d => isCellD d m) && adjUp (.int i :: ds) && decide (0 ≤ i)) = ((isCellD (.int i) m && ds.all fun d => isCellD d m) && adjUp (.int i :: ds))
      have e1 : isCellD (.int i) m = (decide (0 ≤ i) && decide (i < m)) := rfl
      rw [e1]
      cases decide (0 ≤ i) <;> simp
    | none => rfl
    | bool b => rfl
    | str x => rfl
    | list x => rfl
    | tuple x => rfl
    | dict x => rfl
theorem adj_iff : ∀ ns : List Int, adjUp (ns.map PyData.int) = true ↔ ∀ j, 1 ≤ j → j < ns.length → ns.getD (j - 1) 0 < ns.getD j 0
  | [] => ⟨fun _ j _ h => absurd h (Nat.not_lt_zero _), fun _ => rfl⟩
  | [n] => ⟨fun _ j h1 h2 => by
      have : j < 1 := h2
      omega, fun _ => rfl⟩
  | n :: k :: ns => by
    have ih := adj_iff (k :: ns)
    show (decide (n < k) && adjUp ((k :: ns).map PyData.int)) = true ↔ _
    rw [Bool.and_eq_true, ih, decide_eq_true_iff]
    constructor
    · intro ⟨h1, h2⟩ j hj1 hj2
      match j, hj1, hj2 with
      | 1, _, _ => exact h1
      | j + 2, _, hj2 =>
        have z := h2 (j + 1) (Nat.succ_le_succ (Nat.zero_le _)) (Nat.lt_of_succ_lt_succ hj2)
        exact z
    · intro h
      refine ⟨h 1 (Nat.le_refl 1) (by show 1 < (n :: k :: ns).length; simp), fun j hj1 hj2 => ?_⟩
      have z := h (j + 1) (by omega) (Nat.succ_lt_succ hj2)
      match j, hj1 with
      | j + 1, _ => exact z
theorem cells_ints {m : Int} : ∀ {ds : List PyData}, (ds.all fun d => isCellD d m) = true → ∃ ns : List Int, ds = ns.map PyData.int
  | [], _ => ⟨[], rfl⟩
  | d :: ds, h => by
    obtain ⟨h1, h2⟩ := Bool.and_eq_true_iff.mp (show (isCellD d m && ds.all fun d => isCellD d m) = true from h)
    obtain ⟨ns, rfl⟩ := cells_ints h2
    cases d with
    | int i => exact ⟨i :: ns, rfl⟩
    | none => cases h1
    | bool b => cases h1
    | str x => cases h1
    | list x => cases h1
    | tuple x => cases h1
    | dict x => cases h1
theorem dp_ints {K : PySem.W.Frag} {H : Hp} : ∀ {ns : List Int} {xs : List V}, DpAll K H xs (ns.map PyData.int) → xs = ns.map V.int
  | [], _, h => by cases h; rfl
  | n :: ns, _, h => by
    have h' : DpAll K H _ (.int n :: ns.map PyData.int) := h
    cases h' with
    | cons h1 h2 =>
      cases h1
      rw [dp_ints h2]
      rfl
def spIsPage (K : PySem.W.Frag) : Sp := fun vs H Q _ => ∃ (x : V) (d : PyData), vs = [x] ∧ Dp K H x d ∧ SeqAt.shaped d = true ∧ (∀ (m : Int) ds, d = .tuple (.int m :: ds) → m < 1000000000) ∧ (∀ dm rs cs, d = .tuple [dm, .tuple rs] → .tuple cs ∈ rs → cs.length ≤ 1000) ∧ ∀ H', Gro H H' → Q (.bl (isBookD d)) H'
theorem shaped_of_all : ∀ {ds : List PyData}, (∀ d ∈ ds, PyData.canLay0 d = true ∧ PyData.depth d ≤ 63) → PyData.canLayAll0 ds = true ∧ PyData.depthAll ds ≤ 63
  | [], _ => ⟨rfl, Nat.zero_le _⟩
  | d :: ds, h => by
    obtain ⟨h1, h2⟩ := shaped_of_all fun e he => h e (List.mem_cons_of_mem _ he)
    obtain ⟨h3, h4⟩ := h d List.mem_cons_self
    constructor
    · show (PyData.canLay0 d && PyData.canLayAll0 ds) = true
      rw [h3, h1] <;> rfl
    · show max (PyData.depth d) (PyData.depthAll ds) ≤ 63
      omega
theorem shaped_sub {cs bs : List PyData} (h : SeqAt.shaped (.tuple cs) = true) (s : ∀ d ∈ bs, d ∈ cs) : SeqAt.shaped (.list bs) = true := by
  unfold SeqAt.shaped at h
  obtain ⟨h1, h2⟩ := Bool.and_eq_true_iff.mp h
  have h3 : PyData.depthAll cs + 1 ≤ 64 := of_decide_eq_true h2
  obtain ⟨c1, c2⟩ := shaped_of_all fun d hd => shaped_in (n := 63) (show PyData.canLayAll0 cs = true from h1) (by omega) d (s d hd)
  unfold SeqAt.shaped
  show (PyData.canLayAll0 bs && decide (PyData.depthAll bs + 1 ≤ 64)) = true
  rw [c1, decide_eq_true (by omega)] <;> rfl
theorem eqv_nil (bs : List PyData) : PyData.eqv (.list bs) (.list []) = bs.isEmpty := by cases bs <;> rfl
theorem eqv_nilT (bs : List PyData) : PyData.eqv (.tuple bs) (.tuple []) = bs.isEmpty := by cases bs <;> rfl
theorem filt_nil {m : Int} {cs : List PyData} : (cs.filter fun d => !isCellD d m).isEmpty = cs.all fun d => isCellD d m := by
  induction cs with
  | nil => rfl
  | cons d ds ih =>
    rw [List.filter_cons, List.all_cons]
    cases h : isCellD d m with
    | true => exact ih
    | false => rfl
theorem rowOk_tup (m : Int) (cs : List PyData) : rowOk m (.tuple cs) = (!cs.isEmpty && ((cs.all fun d => isCellD d m) && adjUp cs)) := by
  show (!PyData.eqv (.tuple cs) (.tuple []) && ascFrom m 0 cs) = _
  rw [eqv_nilT, asc0]
/-! ### rows given, as lists and tuples of one's own -/
/-- the item v holds the cells c; it is neither the deck nor the list of items -/
def ItemAt (K : PySem.W.Frag) (a G : Addr) (H : Hp) (v : V) (c : List Nat) : Prop := ∃ b : Addr, v = .ref b ∧ b ≠ a ∧ b ≠ G ∧ (H b = some (.lst (intsV c)) ∨ SqT K H b (intsV c))
def Items (K : PySem.W.Frag) (a G : Addr) (H : Hp) (vs : List V) (cs : List (List Nat)) : Prop := vs.length = cs.length ∧ ∀ (i : Nat) (v : V) (c : List Nat), vs[i]? = some v → cs[i]? = some c → ItemAt K a G H v c
theorem ItemAt.off {K : PySem.W.Frag} {a G : Addr} {H H' : Hp} {v : V} {c : List Nat} (h : ItemAt K a G H v c) (o : OffG a H H') (d : DeckAt H a) : ItemAt K a G H' v c := by
  obtain ⟨b, rfl, n1, n2, h | h⟩ := h
  · exact ⟨b, rfl, n1, n2, .inl (o.at n1 h)⟩
  · exact ⟨b, rfl, n1, n2, .inr ((Tup.deck o d).sqt h)⟩
theorem ItemAt.put {K : PySem.W.Frag} {a G : Addr} {H : Hp} {v : V} {c : List Nat} {xs : List V} (h : ItemAt K a G H v c) (e : H G = some (.lst xs)) (ys : List V) : ItemAt K a G (upd H G (.lst ys)) v c := by
  obtain ⟨b, rfl, n1, n2, h | h⟩ := h
  · exact ⟨b, rfl, n1, n2, .inl (by rw [upd_ne n2]; exact h)⟩
  · exact ⟨b, rfl, n1, n2, .inr ((Tup.put ys e).sqt h)⟩
theorem Items.off {K : PySem.W.Frag} {a G : Addr} {H H' : Hp} {vs : List V} {cs : List (List Nat)} (h : Items K a G H vs cs) (o : OffG a H H') (d : DeckAt H a) : Items K a G H' vs cs := ⟨h.1, fun i v c e1 e2 => (h.2 i v c e1 e2).off o d⟩
theorem Items.snoc {K : PySem.W.Frag} {a G : Addr} {H : Hp} {vs : List V} {cs : List (List Nat)} {v : V} {c : List Nat} (h : Items K a G H vs cs) (e : H G = some (.lst vs)) (hv : ItemAt K a G H v c) : Items K a G (upd H G (.lst (vs ++ [v]))) (vs ++ [v]) (cs ++ [c]) := by
  refine ⟨by rw [List.length_append, List.length_append, h.1]; rfl, fun i u d e1 e2 => ?_⟩
  by_cases hi : i < vs.length
  · rw [List.getElem?_append_left hi] at e1
    rw [List.getElem?_append_left (by rw [← h.1]; exact hi)] at e2
    exact (h.2 i u d e1 e2).put e _
  · have l1 := (List.getElem?_eq_some_iff.mp e1).1
    rw [List.length_append] at l1
    have ei : i = vs.length := by
      have : i < vs.length + 1 := l1
      omega
    subst ei
    rw [List.getElem?_append_right (Nat.le_refl _), Nat.sub_self] at e1
    rw [h.1, List.getElem?_append_right (Nat.le_refl _), Nat.sub_self] at e2
    cases e1
    cases e2
    exact hv.put e _
theorem Items.all {K : PySem.W.Frag} {a G : Addr} {H : Hp} {vs : List V} {cs : List (List Nat)} (h : Items K a G H vs cs) : WAll K H vs cs := ⟨h.1, fun i v c e1 e2 => by
  obtain ⟨b, e, _, _, w | w⟩ := h.2 i v c e1 e2
  · exact ⟨b, e, .inl (SqL.of w)⟩
  · exact ⟨b, e, .inr w⟩⟩
/-- data that can be shown: small -/
def Shw (d : PyData) : Prop := d.showable = true ∧ d.hasDict = false ∧ d.depth ≤ 1 ∧ d.leavesShort 1921 = true ∧ d.bulk ≤ 100
theorem shw_all : ∀ {ds : List PyData}, (∀ d ∈ ds, Shw d) → PyData.showableAll ds = true ∧ PyData.hasDictAll ds = false ∧ PyData.depthAll ds ≤ 1 ∧ PyData.leavesShortAll 1921 ds = true ∧ PyData.bulkAll ds ≤ 101 * ds.length
  | [], _ => ⟨rfl, rfl, Nat.zero_le _, rfl, Nat.zero_le _⟩
  | d :: ds, h => by
    obtain ⟨h1, h2, h3, h4, h5⟩ := shw_all fun e he => h e (List.mem_cons_of_mem _ he)
    obtain ⟨k1, k2, k3, k4, k5⟩ := h d List.mem_cons_self
    refine ⟨?_, ?_, ?_, ?_, ?_⟩
    · show (d.showable && PyData.showableAll ds) = true
      rw [k1, h1] <;> rfl
    · show (d.hasDict || PyData.hasDictAll ds) = false
      rw [k2, h2] <;> rfl
    · show max d.depth (PyData.depthAll ds) ≤ 1
      omega
    · show (d.leavesShort 1921 && PyData.leavesShortAll 1921 ds) = true
      rw [k4, h4] <;> rfl
    · show d.bulk + 1 + PyData.bulkAll ds ≤ 101 * (d :: ds).length
      rw [List.length_cons]
      omega
theorem shw_nats {c : List Nat} (hb : ∀ n ∈ c, n < 2 ^ 1000) (hl : c.length ≤ 100) : Shw (.list (natsD c)) ∧ Shw (.tuple (natsD c)) := by
  obtain ⟨h1, h2, h3, h4, h5, _⟩ := ints_show _ (words_show hb (by omega))
  rw [List.length_map] at h5
  have d1 : PyData.depthAll (natsD c) + 1 ≤ 1 := by rw [h3]; exact Nat.le_refl _
  have b1 : PyData.bulkAll (natsD c) ≤ 100 := by rw [h5]; exact hl
  exact ⟨⟨h1, h2, d1, h4, b1⟩, ⟨h1, h2, d1, h4, b1⟩⟩
theorem items_data {K : PySem.W.Frag} {H : Hp} {m : Nat} : ∀ {vs : List V} {cs : List (List Nat)}, WAll K H vs cs → (∀ c ∈ cs, Told m c) → m ≤ 1000 → ∃ ds, DpAll K H vs ds ∧ (∀ d ∈ ds, Shw d) ∧ ds.length = cs.length
  | [], [], _, _, _ => ⟨[], .nil, (fun _ h => absurd h List.not_mem_nil), rfl⟩
  | [], _ :: _, h, _, _ => by cases h.1
  | _ :: _, [], h, _, _ => by cases h.1
  | v :: vs, c :: cs, h, ht, hm => by
    obtain ⟨ds, e1, e2, e3⟩ := items_data (vs := vs) (cs := cs) ⟨Nat.succ.inj h.1, fun i u d q1 q2 => h.2 (i + 1) u d q1 q2⟩ (fun d hd => ht d (List.mem_cons_of_mem _ hd)) hm
    obtain ⟨b, rfl, w⟩ := h.2 0 v c rfl rfl
    have tl := ht c List.mem_cons_self
    have few := tl.few
    obtain ⟨s1, s2⟩ := shw_nats (c := c) (fun n hn => Nat.lt_of_lt_of_le (tl.low n hn) (Nat.le_trans hm (by decide +kernel))) (by omega)
    rcases w with w | w
    · refine ⟨.list (natsD c) :: ds, .cons (dpW c w) e1, fun d hd => ?_, by rw [List.length_cons, e3]; rfl⟩
      rcases List.mem_cons.mp hd with rfl | hd
      · exact s1
      · exact e2 d hd
    · rw [intsV_map] at w
      refine ⟨.tuple (natsD c) :: ds, .cons (.tup w (dpI _)) e1, fun d hd => ?_, by rw [List.length_cons, e3]; rfl⟩
      rcases List.mem_cons.mp hd with rfl | hd
      · exact s2
      · exact e2 d hd
theorem shown_list {ds : List PyData} (h : ∀ d ∈ ds, Shw d) (l : ds.length ≤ 50) : (PyData.list ds).showable = true ∧ (PyData.list ds).hasDict = false ∧ (PyData.list ds).depth < 100 ∧ (PyData.list ds).shown.length ≤ sizeLine := by
  obtain ⟨h1, h2, h3, h4, h5⟩ := shw_all h
  refine ⟨h1, h2, ?_, ?_⟩
  · show PyData.depthAll ds + 1 < 100
    omega
  · have z := PyData.shown_le_bulk 1921 (by decide) (.list ds) h4
    have e : (PyData.list ds).bulk ≤ 101 * ds.length := h5
    have e2 : sizeLine = 16777216 := by decide
    omega
def spMade (K : PySem.W.Frag) (tf : List Str) : Sp := fun vs H Q _ => ∃ (a : Addr) (x : V) (m : Nat) (rows : List (List Nat)), vs = [.ref a, x] ∧ DeckAt H a ∧ Dp K H x (pageD m rows) ∧ Good m rows ∧ m ≤ 41 ∧ rows.length ≤ 41 ∧ (∀ x ∈ tf, GxR.TabG H (tA K x)) ∧
  ∀ H', OffG a H H' → DeckAt H' a → Q (.bl true) H'
theorem mem_insert {c : List Nat} {u x : Nat} (k : Nat) : k ∈ c.take u ++ [x] ++ c.drop u ↔ k ∈ c ∨ k = x := by
  rw [List.mem_append, List.mem_append, List.mem_singleton]
  have e := List.take_append_drop u c
  constructor
  · rintro ((h | h) | h)
    · exact .inl (List.mem_of_mem_take h)
    · exact .inr h
    · exact .inl (List.mem_of_mem_drop h)
  · rintro (h | h)
    · rw [← e, List.mem_append] at h
      rcases h with h | h
      · exact .inl (.inl h)
      · exact .inr h
    · exact .inl (.inr h)
theorem intsV_ins (c : List Nat) (u x : Nat) : (intsV c).take u ++ [V.int (x : Int)] ++ (intsV c).drop u = intsV (c.take u ++ [x] ++ c.drop u) := by
  unfold intsV
  rw [List.map_append, List.map_append, List.map_take, List.map_drop]
  rfl
theorem Items.put {K : PySem.W.Frag} {a G : Addr} {H : Hp} {vs : List V} {cs : List (List Nat)} {xs : List V} (h : Items K a G H vs cs) (e : H G = some (.lst xs)) (ys : List V) : Items K a G (upd H G (.lst ys)) vs cs := ⟨h.1, fun i v c e1 e2 => (h.2 i v c e1 e2).put e ys⟩
theorem rev_at {α : Type} {l : List α} {i : Nat} {x : α} (h : l.reverse[i]? = some x) : i < l.length ∧ l[l.length - 1 - i]? = some x := by
  have hi : i < l.length := by
    have := (List.getElem?_eq_some_iff.mp h).1
    rwa [List.length_reverse] at this
  rw [List.getElem?_reverse hi] at h
  exact ⟨hi, h⟩
theorem WAll.rev {K : PySem.W.Frag} {H : Hp} {vs : List V} {cs : List (List Nat)} (h : WAll K H vs cs) : WAll K H vs.reverse cs.reverse := by
  refine ⟨by rw [List.length_reverse, List.length_reverse, h.1], fun i v c e1 e2 => ?_⟩
  obtain ⟨_, f1⟩ := rev_at e1
  obtain ⟨_, f2⟩ := rev_at e2
  rw [← h.1] at f2
  exact h.2 _ v c f1 f2
theorem RowsOf.rev {m : Nat} {cs rows : List (List Nat)} (h : RowsOf m cs rows) : RowsOf m cs.reverse rows.reverse := by
  refine ⟨by rw [List.length_reverse, List.length_reverse, h.1], fun i c r e1 e2 => ?_⟩
  obtain ⟨_, f1⟩ := rev_at e1
  obtain ⟨_, f2⟩ := rev_at e2
  rw [← h.1] at f2
  exact h.2 _ c r f1 f2
theorem DpAll.snoc {K : PySem.W.Frag} {H : Hp} {xs : List V} {ds : List PyData} {v : V} {d : PyData} (h : DpAll K H xs ds) (hv : Dp K H v d) : DpAll K H (xs ++ [v]) (ds ++ [d]) := DpAll.app (.cons hv .nil) h
theorem DpAll.rev {K : PySem.W.Frag} {H : Hp} : ∀ {xs : List V} {ds : List PyData}, DpAll K H xs ds → DpAll K H xs.reverse ds.reverse
  | _, _, .nil => .nil
  | _, _, .cons h t => by
    rw [List.reverse_cons, List.reverse_cons]
    exact DpAll.snoc (DpAll.rev t) h
/-! ### bent pages -/
theorem cut_ints (row : List Nat) (lo hi : Option Int) : ∃ l : List Nat, cutV (intsV row) lo hi = intsV l ∧ l.length ≤ row.length := by
  refine ⟨(row.drop (HT.sIx (intsV row).length 0 lo)).take (HT.sIx (intsV row).length (intsV row).length hi - HT.sIx (intsV row).length 0 lo), ?_, ?_⟩
  · unfold cutV
    show _ = List.map _ _
    rw [List.map_take, List.map_drop]
    rfl
  · rw [List.length_take, List.length_drop]
    omega
/-- what may stand for a row: small -/
structure OddRow (d : PyData) : Prop where
  lay : PyData.canLay0 d = true
  deep : PyData.depth d ≤ 2
  few : ∀ cs, d = .tuple cs → cs.length ≤ 1000
theorem odd_nats {l : List Nat} (h : l.length ≤ 1000) : OddRow (.tuple (natsD l)) := ⟨canLay_nats l, by show PyData.depthAll (natsD l) + 1 ≤ 2; rw [depth_nats]; decide, fun cs e => by
  cases e
  rw [natsD_len]
  exact h⟩
def spBentRow (K : PySem.W.Frag) : Sp := fun vs H Q _ => ∃ (a : Addr) (m : Nat) (v : V) (row : List Nat), vs = [.ref a, .int (m : Int), v] ∧ DeckAt H a ∧ m ≤ 100 ∧ Dp K H v (rowD row) ∧ 1 ≤ row.length ∧ row.length ≤ 100 ∧
  ∀ H' v' d', OffG a H H' → DeckAt H' a → Dp K H' v' d' → OddRow d' → Q v' H'
theorem lay_app : ∀ {ds es : List PyData}, PyData.canLayAll0 ds = true → PyData.canLayAll0 es = true → PyData.canLayAll0 (ds ++ es) = true
  | [], _, _, h => h
  | d :: ds, es, h1, h2 => by
    obtain ⟨a, b⟩ := Bool.and_eq_true_iff.mp (show (PyData.canLay0 d && PyData.canLayAll0 ds) = true from h1)
    show (PyData.canLay0 d && PyData.canLayAll0 (ds ++ es)) = true
    rw [a, lay_app b h2] <;> rfl
theorem depth_app {n : Nat} : ∀ {ds es : List PyData}, PyData.depthAll ds ≤ n → PyData.depthAll es ≤ n → PyData.depthAll (ds ++ es) ≤ n
  | [], _, _, h => h
  | d :: ds, es, h1, h2 => by
    have h3 : max (PyData.depth d) (PyData.depthAll ds) ≤ n := h1
    have ih := depth_app (ds := ds) (es := es) (n := n) (by omega) h2
    show max (PyData.depth d) (PyData.depthAll (ds ++ es)) ≤ n
    omega
theorem odd_mid {l1 l2 : List Nat} {d : PyData} (h1 : PyData.canLay0 d = true) (h2 : PyData.depth d ≤ 1) (n1 : l1.length ≤ 400) (n2 : l2.length ≤ 400) : OddRow (.tuple (natsD l1 ++ [d] ++ natsD l2)) := by
  refine ⟨lay_app (lay_app (canLay_nats l1) (by show (PyData.canLay0 d && true) = true; rw [h1] <;> rfl)) (canLay_nats l2), ?_, fun cs e => ?_⟩
  · have z : PyData.depthAll (natsD l1 ++ [d] ++ natsD l2) ≤ 1 := depth_app (depth_app (by rw [depth_nats]; decide) (by show max (PyData.depth d) 0 ≤ 1; omega)) (by rw [depth_nats]; decide)
    show PyData.depthAll (natsD l1 ++ [d] ++ natsD l2) + 1 ≤ 2
    omega
  · cases e
    rw [List.length_append, List.length_append, natsD_len, natsD_len]
    show l1.length + 1 + l2.length ≤ 1000
    omega
/-- laid, of depth n at most -/
def Lay (n : Nat) (d : PyData) : Prop := PyData.canLay0 d = true ∧ PyData.depth d ≤ n
theorem lay_all {n : Nat} : ∀ {ds : List PyData}, (∀ d ∈ ds, Lay n d) → PyData.canLayAll0 ds = true ∧ PyData.depthAll ds ≤ n
  | [], _ => ⟨rfl, Nat.zero_le _⟩
  | d :: ds, h => by
    obtain ⟨h1, h2⟩ := lay_all fun e he => h e (List.mem_cons_of_mem _ he)
    obtain ⟨h3, h4⟩ := h d List.mem_cons_self
    constructor
    · show (PyData.canLay0 d && PyData.canLayAll0 ds) = true
      rw [h3, h1] <;> rfl
    · show max (PyData.depth d) (PyData.depthAll ds) ≤ n
      omega
theorem lay_t {n : Nat} {ds : List PyData} (h : ∀ d ∈ ds, Lay n d) : Lay (n + 1) (.tuple ds) := ⟨(lay_all h).1, Nat.succ_le_succ (lay_all h).2⟩
theorem lay_l {n : Nat} {ds : List PyData} (h : ∀ d ∈ ds, Lay n d) : Lay (n + 1) (.list ds) := ⟨(lay_all h).1, Nat.succ_le_succ (lay_all h).2⟩
theorem Lay.up {n k : Nat} {d : PyData} (h : Lay n d) (l : n ≤ k) : Lay k d := ⟨h.1, Nat.le_trans h.2 l⟩
theorem lay_row (r : List Nat) : Lay 1 (rowD r) := ⟨canLay_nats r, by show PyData.depthAll (natsD r) + 1 ≤ 1; rw [depth_nats]; exact Nat.le_refl _⟩
theorem lay_rows (rows : List (List Nat)) : Lay 2 (.tuple (rows.map rowD)) := lay_t fun d hd => by
  obtain ⟨r, _, rfl⟩ := List.mem_map.mp hd
  exact lay_row r
theorem lay_int (i : Int) : Lay 0 (.int i) := ⟨rfl, Nat.le_refl _⟩
/-- what is judged -/
structure Bent (d : PyData) : Prop where
  lay : Lay 10 d
  low : ∀ (m : Int) ds, d = .tuple (.int m :: ds) → m < 1000000000
  few : ∀ dm rs cs, d = .tuple [dm, .tuple rs] → .tuple cs ∈ rs → cs.length ≤ 1000
theorem Bent.shaped {d : PyData} (h : Bent d) : SeqAt.shaped d = true := by
  unfold SeqAt.shaped
  rw [h.lay.1, decide_eq_true (Nat.le_trans h.lay.2 (by decide))] <;> rfl
def spBent (K : PySem.W.Frag) : Sp := fun vs H Q _ => ∃ (a : Addr) (x : V) (m : Nat) (rows : List (List Nat)), vs = [.ref a, x] ∧ DeckAt H a ∧ Dp K H x (pageD m rows) ∧ Good m rows ∧ m ≤ 100 ∧ rows.length ≤ 41 ∧
  ∀ H' v d, OffG a H H' → DeckAt H' a → Dp K H' v d → Bent d → Q v H'
theorem cut_rows {K : PySem.W.Frag} {H : Hp} {xs : List V} {rows : List (List Nat)} (h : DpAll K H xs (rows.map rowD)) (lo hi : Option Int) : ∃ rows' : List (List Nat), DpAll K H (cutV xs lo hi) (rows'.map rowD) ∧ (∀ r ∈ rows', r ∈ rows) ∧ rows'.length ≤ rows.length := by
  refine ⟨(rows.drop (HT.sIx xs.length 0 lo)).take (HT.sIx xs.length xs.length hi - HT.sIx xs.length 0 lo), ?_, fun r hr => List.mem_of_mem_drop (List.mem_of_mem_take hr), ?_⟩
  · rw [List.map_take, List.map_drop]
    exact DpAll.take _ (DpAll.drop _ h)
  · rw [List.length_take, List.length_drop]
    omega
end Ky
namespace K04
open PySem PySem.Spec PyProof.Rows L2 Ky
def topS (i : Nat) : Stmt := PySem.Challenge.pw_keytellers_k04_whole_keys_more_and_less.main.body.getD i (.Pass ⟨0, 0, 0, 0⟩)
abbrev s_is_integer : Stmt := topS 7
abbrev N_is_integer : List Str := ["told", "least"]
theorem sc_is_integer : FnScope ["told", "least"] ["told", "least"] (defScope s_is_integer) := ⟨rfl, rfl, rfl, by decide +kernel, rfl, by decide +kernel, by decide +kernel⟩
abbrev s_is_below : Stmt := topS 8
abbrev N_is_below : List Str := ["told", "top"]
theorem sc_is_below : FnScope ["told", "top"] ["told", "top"] (defScope s_is_below) := ⟨rfl, rfl, rfl, by decide +kernel, rfl, by decide +kernel, by decide +kernel⟩
abbrev s_are_integers : Stmt := topS 9
abbrev N_are_integers : List Str := ["told", "least", "one"]
theorem sc_are_integers : FnScope ["told", "least", "one"] ["told", "least"] (defScope s_are_integers) := ⟨rfl, rfl, rfl, by decide +kernel, rfl, by decide +kernel, by decide +kernel⟩
abbrev s_is_ascending : Stmt := topS 10
abbrev N_is_ascending : List Str := ["told", "top", "least", "one"]
theorem sc_is_ascending : FnScope ["told", "top", "least", "one"] ["told", "top"] (defScope s_is_ascending) := ⟨rfl, rfl, rfl, by decide +kernel, rfl, by decide +kernel, by decide +kernel⟩
abbrev s_is_book : Stmt := topS 12
abbrev N_is_book : List Str := ["told", "rows", "m", "row"]
theorem sc_is_book : FnScope ["told", "rows", "m", "row"] ["told"] (defScope s_is_book) := ⟨rfl, rfl, rfl, by decide +kernel, rfl, by decide +kernel, by decide +kernel⟩
abbrev s_with_key : Stmt := topS 13
abbrev N_with_key : List Str := ["book", "row", "m", "rows"]
theorem sc_with_key : FnScope ["book", "row", "m", "rows"] ["book", "row"] (defScope s_with_key) := ⟨rfl, rfl, rfl, by decide +kernel, rfl, by decide +kernel, by decide +kernel⟩
abbrev s_without_key : Stmt := topS 14
abbrev N_without_key : List Str := ["book", "key", "m", "rows"]
theorem sc_without_key : FnScope ["book", "key", "m", "rows"] ["book", "key"] (defScope s_without_key) := ⟨rfl, rfl, rfl, by decide +kernel, rfl, by decide +kernel, by decide +kernel⟩
abbrev s_part : Stmt := topS 15
abbrev N_part : List Str := ["book", "lot", "m", "rows", "key"]
theorem sc_part : FnScope ["book", "lot", "m", "rows", "key"] ["book", "lot"] (defScope s_part) := ⟨rfl, rfl, rfl, by decide +kernel, rfl, by decide +kernel, by decide +kernel⟩
abbrev s_row_of_cells : Stmt := topS 16
abbrev N_row_of_cells : List Str := ["m", "row"]
theorem sc_row_of_cells : FnScope ["m", "row"] ["m", "row"] (defScope s_row_of_cells) := ⟨rfl, rfl, rfl, by decide +kernel, rfl, by decide +kernel, by decide +kernel⟩
abbrev s_check_book : Stmt := topS 17
abbrev N_check_book : List Str := ["book"]
theorem sc_check_book : FnScope ["book"] ["book"] (defScope s_check_book) := ⟨rfl, rfl, rfl, by decide +kernel, rfl, by decide +kernel, by decide +kernel⟩
abbrev s_check_key : Stmt := topS 18
abbrev N_check_key : List Str := ["book", "key"]
theorem sc_check_key : FnScope ["book", "key"] ["book", "key"] (defScope s_check_key) := ⟨rfl, rfl, rfl, by decide +kernel, rfl, by decide +kernel, by decide +kernel⟩
abbrev s_check_lot : Stmt := topS 19
abbrev N_check_lot : List Str := ["book", "lot"]
theorem sc_check_lot : FnScope ["book", "lot"] ["book", "lot"] (defScope s_check_lot) := ⟨rfl, rfl, rfl, by decide +kernel, rfl, by decide +kernel, by decide +kernel⟩
abbrev s__law_deck : Stmt := topS 21
abbrev N__law_deck : List Str := ["script", "at", "cell", "stir"]
theorem sc__law_deck : FnScope ["script", "at", "cell", "stir"] ["script", "at"] (defScope s__law_deck) := ⟨rfl, rfl, rfl, by decide +kernel, rfl, by decide +kernel, by decide +kernel⟩
abbrev s__law_take : Stmt := topS 22
abbrev N__law_take : List Str := ["deck", "many", "taken"]
theorem sc__law_take : FnScope ["deck", "many", "taken"] ["deck", "many"] (defScope s__law_take) := ⟨rfl, rfl, rfl, by decide +kernel, rfl, by decide +kernel, by decide +kernel⟩
abbrev s__law_same : Stmt := topS 23
abbrev N__law_same : List Str := ["found", "due", "at"]
theorem sc__law_same : FnScope ["found", "due", "at"] ["found", "due"] (defScope s__law_same) := ⟨rfl, rfl, rfl, by decide +kernel, rfl, by decide +kernel, by decide +kernel⟩
abbrev s__law_cells : Stmt := topS 24
abbrev N__law_cells : List Str := ["deck", "many", "found", "way", "cell"]
theorem sc__law_cells : FnScope ["deck", "many", "found", "way", "cell"] ["deck", "many"] (defScope s__law_cells) := ⟨rfl, rfl, rfl, by decide +kernel, rfl, by decide +kernel, by decide +kernel⟩
abbrev s__law_page : Stmt := topS 25
abbrev N__law_page : List Str := ["deck", "most", "many", "rows", "key", "way"]
theorem sc__law_page : FnScope ["deck", "most", "many", "rows", "key", "way"] ["deck", "most"] (defScope s__law_page) := ⟨rfl, rfl, rfl, by decide +kernel, rfl, by decide +kernel, by decide +kernel⟩
abbrev s__law_lot : Stmt := topS 26
abbrev N__law_lot : List Str := ["deck", "page", "way", "key"]
theorem sc__law_lot : FnScope ["deck", "page", "way", "key"] ["deck", "page"] (defScope s__law_lot) := ⟨rfl, rfl, rfl, by decide +kernel, rfl, by decide +kernel, by decide +kernel⟩
abbrev s__law_right : Stmt := topS 27
abbrev N__law_right : List Str := ["deck", "page", "many", "rows", "row", "cells", "given", "due", "kept", "found", "lot", "key", "inner", "both", "whole", "turn", "at"]
theorem sc__law_right : FnScope ["deck", "page", "many", "rows", "row", "cells", "given", "due", "kept", "found", "lot", "key", "inner", "both", "whole", "turn", "at"] ["deck"] (defScope s__law_right) := ⟨rfl, rfl, rfl, by decide +kernel, rfl, by decide +kernel, by decide +kernel⟩
abbrev s_law : Stmt := topS 28
abbrev N_law : List Str := ["script", "at"]
theorem sc_law : FnScope ["script", "at"] ["script"] (defScope s_law) := ⟨rfl, rfl, rfl, by decide +kernel, rfl, by decide +kernel, by decide +kernel⟩
abbrev tf : List Str := ["are_integers", "is_book"]
/-- what the top has written -/
structure Top (K : PySem.W.Frag) (mg : Str → Option Value) : Prop where
  d_is_integer : Here K mg "is_integer" s_is_integer
  d_is_below : Here K mg "is_below" s_is_below
  d_are_integers : HereT K mg "are_integers" s_are_integers (cA K "are_integers")
  d_is_ascending : Here K mg "is_ascending" s_is_ascending
  d_is_book : HereT K mg "is_book" s_is_book (cA K "is_book")
  d_with_key : Here K mg "with_key" s_with_key
  d_without_key : Here K mg "without_key" s_without_key
  d_part : Here K mg "part" s_part
  d_row_of_cells : Here K mg "row_of_cells" s_row_of_cells
  d_check_book : Here K mg "check_book" s_check_book
  d_check_key : Here K mg "check_key" s_check_key
  d_check_lot : Here K mg "check_lot" s_check_lot
  d__law_deck : Here K mg "_law_deck" s__law_deck
  d__law_take : Here K mg "_law_take" s__law_take
  d__law_same : Here K mg "_law_same" s__law_same
  d__law_cells : Here K mg "_law_cells" s__law_cells
  d__law_page : Here K mg "_law_page" s__law_page
  d__law_lot : Here K mg "_law_lot" s__law_lot
  d__law_right : Here K mg "_law_right" s__law_right
  d_law : Here K mg "law" s_law
  z_all : mg "all" = none
  z_bool : mg "bool" = none
  z_int : mg "int" = none
  z_isinstance : mg "isinstance" = none
  z_len : mg "len" = none
  z_list : mg "list" = none
  z_max : mg "max" = none
  z_min : mg "min" = none
  z_range : mg "range" = none
  z_repr : mg "repr" = none
  z_set : mg "set" = none
  z_sorted : mg "sorted" = none
  z_str : mg "str" = none
  z_tuple : mg "tuple" = none
section
variable {P : Program} {w : World} {K : PySem.W.Frag} {mg : Str → Option Value} {base : Heap}
theorem ok_is_integer (T : Top K mg)  : CalD P w K mg base 1 "is_integer" s_is_integer ["told", "least"] (spIsInt K) := by
  refine cal_mk T.d_is_integer sc_is_integer (fun _ _ _ _ _ _ us hl => match us, hl with | [_, _], _ => rfl) (fun vs H Q E h => ?_) (fun f cdv A outer s H vs Q E hr h => ?_)
  · obtain ⟨x, d, l, rfl, hx, q⟩ := h
    rfl
  · obtain ⟨x, d, l, rfl, hx, q⟩ := h
    refine ⟨_, (pss_one (ps_ret (pe_and (pe_callB call_isi (by rfl) T.z_isinstance (by decide +kernel) (pa_cons (pv 0) (pa_cons (pe_bltn (v := .ty "int") (by rfl) T.z_int (by decide +kernel) rfl) pa_nil))) (pe_and (pe_not (pe_callB call_isi (by rfl) T.z_isinstance (by decide +kernel) (pa_cons (pv 0) (pa_cons (pe_bltn (v := .ty "bool") (by rfl) T.z_bool (by decide +kernel) rfl) pa_nil)))) (pe_one (pe_cmpR op_ge (pv 0) (pv 1) (nomark _))))))), ?_⟩
    cases d with
    | none =>
      cases hx
      exact ⟨_, rfl, _, _, _, _, false, rfl, .ty _, .base .non, kit_ty (by decide +kernel), _, rfl, iteF q⟩
    | bool b =>
      cases hx
      exact ⟨_, rfl, _, _, _, _, true, rfl, .ty _, .base (.bl _), kit_ty (by decide +kernel), _, rfl, iteT ⟨_, rfl, _, _, _, _, true, rfl, .ty _, .base (.bl _), kit_ty (by decide +kernel), _, rfl, _, rfl, iteF q⟩⟩
    | int i =>
      cases hx
      exact ⟨_, rfl, _, _, _, _, true, rfl, .ty _, .base (.int _), kit_ty (by decide +kernel), _, rfl, iteT ⟨_, rfl, _, _, _, _, false, rfl, .ty _, .base (.int _), kit_ty (by decide +kernel), _, rfl, _, rfl, iteT ⟨_, rfl, _, rfl, _, _, rfl, rfl, q⟩⟩⟩
    | str z =>
      cases hx
      exact ⟨_, rfl, _, _, _, _, false, rfl, .ty _, .base (.str _), kit_ty (by decide +kernel), _, rfl, iteF q⟩
    | list ds =>
      exact ⟨_, rfl, _, _, _, _, false, rfl, .ty _, ty_data hx, kit_ty (show kitB "list" "int" = some false by decide +kernel), _, rfl, iteF q⟩
    | tuple ds =>
      exact ⟨_, rfl, _, _, _, _, false, rfl, .ty _, ty_data hx, kit_ty (show kitB "tuple" "int" = some false by decide +kernel), _, rfl, iteF q⟩
    | dict kvs => cases hx
theorem ok_is_below (T : Top K mg) (c_is_integer : CalD P w K mg base 1 "is_integer" s_is_integer ["told", "least"] (spIsInt K)) : CalD P w K mg base 2 "is_below" s_is_below ["told", "top"] (spIsBelow K) := by
  refine cal_mk T.d_is_below sc_is_below (fun _ _ _ _ _ _ us hl => match us, hl with | [_, _], _ => rfl) (fun vs H Q E h => ?_) (fun f cdv A outer s H vs Q E hr h => ?_)
  · obtain ⟨x, d, t, rfl, hx, q⟩ := h
    rfl
  · obtain ⟨x, d, t, rfl, hx, q⟩ := h
    refine ⟨_, (pss_one (ps_ret (pe_and (pe_f c_is_integer hr (by omega) (by rfl) (pa_cons (pv 0) (pa_cons pe_int pa_nil))) (pe_one (pe_cmpR op_lt (pv 0) (pv 1) (nomark _)))))), ?_⟩
    refine ⟨_, rfl, x, d, 0, rfl, hx, _, rfl, ite2 (fun h => ?_) (fun h => ?_)⟩
    · cases d with
      | int i =>
        cases hx
        have e : isBelowD (.int i) t = decide (i < t) := by
          show (decide (0 ≤ i) && decide (i < t)) = _
          have e2 : decide (0 ≤ i) = true := h
          rw [e2, Bool.true_and]
        rw [e] at q
        exact ⟨_, rfl, _, rfl, _, _, rfl, rfl, q⟩
      | _ => exact absurd h (fun z => by cases z)
    · have e : isIntD d 0 = false := by
        cases z : isIntD d 0 with
        | false => rfl
        | true => exact absurd z h
      rw [isBelow_no h, e] at q
      exact q
theorem ok_are_integers (T : Top K mg) (B_are_integers : GxR.TabB base mg (cA K "are_integers") (tA K "are_integers")) (c_is_integer : CalD P w K mg base 1 "is_integer" s_is_integer ["told", "least"] (spIsInt K)) : CalD P w K mg base 3 "are_integers" s_are_integers ["told", "least"] (spAreInts K) := by
  refine calT_mk T.d_are_integers sc_are_integers (fun _ _ _ _ _ _ us hl => match us, hl with | [_, _], _ => rfl) (fun vs H Q E h => ?_) (fun f cdv A outer s H vs Q E hcd hr h => ?_)
  · obtain ⟨x, d, l, rfl, hx, hT, q⟩ := h
    rfl
  · obtain ⟨x, d, l, rfl, hx, hT, q⟩ := h
    refine ⟨_, (pss_one (ps_ret (pe_and (pe_callB call_isiT (by rfl) T.z_isinstance (by decide +kernel) (pa_cons (pv 0) (pa_cons (pe_tup (pa_cons (pe_bltn (v := .ty "list") (by rfl) T.z_list (by decide +kernel) rfl) (pa_cons (pe_bltn (v := .ty "tuple") (by rfl) T.z_tuple (by decide +kernel) rfl) pa_nil))) pa_nil))) (pe_one (Gx.pe_allG (c := cA K "are_integers") (P := tA K "are_integers") (i := 2) (own := [("one", 2)]) hr (by rfl) T.z_all (by decide +kernel) B_are_integers hcd (genS_by rfl rfl rfl (by decide +kernel) rfl rfl (by decide +kernel)) sc_are_integers.nd rfl (blkOk_by (own := [("one", 2)]) (N := N_are_integers) (sc := defScope s_are_integers) (by decide +kernel)) (pi_seq (pv 0)) (fun _ _ _ _ _ _ _ hr => (pe_f c_is_integer hr (by omega) (by rfl) (pa_cons (pv 2) (pa_cons (pv 1) pa_nil)))) (fun _ => rfl)))))), ?_⟩
    have e2 : (2 : Nat) ≤ sizeLine := by decide
    cases d with
    | none =>
      cases hx
      exact ⟨_, rfl, e2, fun t ht => ⟨_, t, _, _, _, _, rfl, upd_same, .cons (.ty _) (.cons (.ty _) .nil), .base .non, kit2 (r := false) (s := false) (by decide +kernel) (by decide +kernel), _, rfl, iteF (q _ (.of (same_upd ht)))⟩⟩
    | bool b =>
      cases hx
      exact ⟨_, rfl, e2, fun t ht => ⟨_, t, _, _, _, _, rfl, upd_same, .cons (.ty _) (.cons (.ty _) .nil), .base (.bl _), kit2 (r := false) (s := false) (by decide +kernel) (by decide +kernel), _, rfl, iteF (q _ (.of (same_upd ht)))⟩⟩
    | int i =>
      cases hx
      exact ⟨_, rfl, e2, fun t ht => ⟨_, t, _, _, _, _, rfl, upd_same, .cons (.ty _) (.cons (.ty _) .nil), .base (.int _), kit2 (r := false) (s := false) (by decide +kernel) (by decide +kernel), _, rfl, iteF (q _ (.of (same_upd ht)))⟩⟩
    | str z =>
      cases hx
      exact ⟨_, rfl, e2, fun t ht => ⟨_, t, _, _, _, _, rfl, upd_same, .cons (.ty _) (.cons (.ty _) .nil), .base (.str _), kit2 (r := false) (s := false) (by decide +kernel) (by decide +kernel), _, rfl, iteF (q _ (.of (same_upd ht)))⟩⟩
    | list ds =>
      obtain ⟨a, xs, hx1, hx2, rfl⟩ : ∃ a xs, SqL K H a xs ∧ DpAll K H xs ds ∧ x = .ref a := by
        cases hx with
        | lst h1 h2 => exact ⟨_, _, h1, h2, rfl⟩
      refine ⟨_, rfl, e2, fun t ht => ⟨_, t, _, _, _, _, rfl, upd_same, .cons (.ty _) (.cons (.ty _) .nil), ty_list (Same.seq (same_upd ht) hx1), kit2 (r := true) (s := false) (by decide +kernel) (by decide +kernel), _, rfl, iteT ?_⟩⟩
      have g0 := Gro.of (same_upd (o := HO.tup [V.ty "list", V.ty "tuple"]) ht)
      refine ⟨_, rfl, _, rfl, .inl ⟨⟨xs, g0.seq hx1⟩, g0.tg hT, fun H2 hTb => ?_⟩⟩
      have g2 := g0.trans (Gro.tab (g0.tg hT) hTb)
      exact asks_data (fun d => isIntD d l) g2 hx2 (go_l hx1) (yl_l hx1) (st_l hx1) (fun v => rfl) (fun v d H' _ hd hg => ⟨_, rfl, _, rfl, v, d, l, rfl, hd, rfl, hg⟩) fun H' hg => q _ hg
    | tuple ds =>
      obtain ⟨a, xs, hx1, hx2, rfl⟩ : ∃ a xs, SqT K H a xs ∧ DpAll K H xs ds ∧ x = .ref a := by
        cases hx with
        | tup h1 h2 => exact ⟨_, _, h1, h2, rfl⟩
      refine ⟨_, rfl, e2, fun t ht => ⟨_, t, _, _, _, _, rfl, upd_same, .cons (.ty _) (.cons (.ty _) .nil), ty_tuple (Same.tupS (same_upd ht) hx1), kit2 (r := false) (s := true) (by decide +kernel) (by decide +kernel), _, rfl, iteT ?_⟩⟩
      have g0 := Gro.of (same_upd (o := HO.tup [V.ty "list", V.ty "tuple"]) ht)
      refine ⟨_, rfl, _, rfl, .inr ⟨⟨xs, g0.tupS hx1⟩, g0.tg hT, fun H2 hTb => ?_⟩⟩
      have g2 := g0.trans (Gro.tab (g0.tg hT) hTb)
      exact asks_data (fun d => isIntD d l) g2 hx2 (go_t hx1) (yl_t hx1) (st_t hx1) (fun v => rfl) (fun v d H' _ hd hg => ⟨_, rfl, _, rfl, v, d, l, rfl, hd, rfl, hg⟩) fun H' hg => q _ hg
    | dict kvs => cases hx
theorem ok_is_ascending (T : Top K mg) (c_is_integer : CalD P w K mg base 1 "is_integer" s_is_integer ["told", "least"] (spIsInt K)) : CalD P w K mg base 2 "is_ascending" s_is_ascending ["told", "top"] (spIsAsc K) := by
  refine cal_mk T.d_is_ascending sc_is_ascending (fun _ _ _ _ _ _ us hl => match us, hl with | [_, _], _ => rfl) (fun vs H Q E h => ?_) (fun f cdv A outer s H vs Q E hr h => ?_)
  · obtain ⟨x, d, top, rfl, hx, q⟩ := h
    rfl
  · obtain ⟨x, d, top, rfl, hx, q⟩ := h
    refine ⟨_, (pss_cons (ps_if (pt_not (pt_val (pe_callB call_isi (by rfl) T.z_isinstance (by decide +kernel) (pa_cons (pv 0) (pa_cons (pe_bltn (v := .ty "tuple") (by rfl) T.z_tuple (by decide +kernel) rfl) pa_nil))))) (pss_one (ps_ret pe_bl)) pss_nil)
  (pss_cons (ps_set (i := 2) sc_is_ascending.nd rfl (Or.inl rfl) pe_int)
  (pss_cons (ps_for PassesOwn.never rfl (pi_tup (pv 0)) (pg_name (i := 3) sc_is_ascending.nd rfl (Or.inl rfl)) (pss_cons (ps_if (PW.pt (pw_or (pt_not (pt_val (pe_f c_is_integer hr (by omega) (by rfl) (pa_cons (pv 3) (pa_cons (pv 2) pa_nil))))) (pw_or1 (pt_cmpR op_ge (pv 3) (pv 1) (nomark _))))) (pss_one (ps_ret pe_bl)) pss_nil)
  (pss_one (ps_set (i := 2) sc_is_ascending.nd rfl (Or.inl rfl) (pe_op op_add (pv 3) pe_int)))))
  (pss_one (ps_ret pe_bl))))), ?_⟩
    cases d with
    | tuple ds =>
      obtain ⟨a, xs, hx1, hx2, rfl⟩ : ∃ a xs, SqT K H a xs ∧ DpAll K H xs ds ∧ x = .ref a := by
        cases hx with
        | tup h1 h2 => exact ⟨_, _, h1, h2, rfl⟩
      refine ⟨_, rfl, _, _, _, _, true, rfl, .ty _, ty_tuple hx1, kit_ty (by decide +kernel), _, rfl, iteF ?_⟩
      refine ⟨_, rfl, a, rfl, ⟨_, hx1⟩, ?_⟩
      have hl := DpAll.length _ hx2
      refine for_tup (fun i σ H' => ∃ (l : Int) (z : Option V), σ = [some (.ref a), some (.int top), some (.int l), z] ∧ H' = H ∧ ascFrom top l (ds.drop i) = ascFrom top 0 ds)
        ⟨0, none, rfl, rfl, rfl⟩ (fun i σ H' _ hP => by obtain ⟨_, _, _, rfl, _⟩ := hP; exact hx1) (fun i v σ H' e hP => ?_) (fun σ H' hP => ?_)
      · obtain ⟨l, z, rfl, rfl, hA⟩ := hP
        have hlt : i < ds.length := by
          rw [← hl]
          exact (List.getElem?_eq_some_iff.mp e).1
        obtain ⟨v', e', dp⟩ := DpAll.get _ hx2 (List.getElem?_eq_getElem hlt)
        rw [e] at e'
        cases e'
        have eD : ds.drop i = ds[i] :: ds.drop (i + 1) := List.drop_eq_getElem_cons hlt
        rw [eD] at hA
        generalize ds[i] = di at dp hA
        refine ⟨_, rfl, _, rfl, v, di, l, rfl, dp, _, rfl, ?_⟩
        cases di with
        | int n =>
          cases dp
          by_cases h1 : l ≤ n
          · have e1 : isIntD (.int n) l = true := decide_eq_true h1
            rw [e1]
            refine iteF ⟨_, rfl, _, rfl, _, _, rfl, rfl, _, rfl, ite2 (fun h2 => ?_) (fun h2 => ?_)⟩
            · have h3 := of_decide_eq_true h2
              have e2 : ascFrom top 0 ds = false := by
                rw [← hA]
                show (decide (l ≤ n) && (decide (n < top) && ascFrom top (n + 1) (ds.drop (i + 1)))) = false
                rw [decide_eq_false (by omega : ¬ n < top), Bool.false_and, Bool.and_false]
              have q2 : Q (.bl (ascFrom top 0 ds)) H' := q
              rw [e2] at q2
              exact q2
            · have h3 : n < top := by
                have h4 : ¬ top ≤ n := fun z => h2 (decide_eq_true z)
                omega
              refine ⟨_, rfl, _, _, rfl, rfl, n + 1, some (.int n), rfl, rfl, ?_⟩
              rw [← hA]
              show _ = (decide (l ≤ n) && (decide (n < top) && ascFrom top (n + 1) (ds.drop (i + 1))))
              rw [decide_eq_true h1, decide_eq_true h3, Bool.true_and, Bool.true_and]
          · have e1 : isIntD (.int n) l = false := decide_eq_false h1
            rw [e1]
            refine iteT ?_
            have e2 : ascFrom top 0 ds = false := by
              rw [← hA]
              show (decide (l ≤ n) && _) = false
              rw [decide_eq_false h1, Bool.false_and]
            have q2 : Q (.bl (ascFrom top 0 ds)) H' := q
            rw [e2] at q2
            exact q2
        | _ =>
          refine iteT ?_
          have e2 : ascFrom top 0 ds = false := hA.symm
          have q2 : Q (.bl (ascFrom top 0 ds)) H' := q
          rw [e2] at q2
          exact q2
      · obtain ⟨l, z, rfl, rfl, hA⟩ := hP
        have e2 : ascFrom top 0 ds = true := by
          rw [← hA, hl, List.drop_length]
          rfl
        have q2 : Q (.bl (ascFrom top 0 ds)) H' := q
        rw [e2] at q2
        exact q2
    | list ds => exact ⟨_, rfl, _, _, _, _, false, rfl, .ty _, ty_data hx, kit_ty (show kitB "list" "tuple" = some false by decide +kernel), _, rfl, iteT q⟩
    | none => exact ⟨_, rfl, _, _, _, _, false, rfl, .ty _, ty_data hx, kit_ty (show kitB "NoneType" "tuple" = some false by decide +kernel), _, rfl, iteT q⟩
    | bool b => exact ⟨_, rfl, _, _, _, _, false, rfl, .ty _, ty_data hx, kit_ty (show kitB "bool" "tuple" = some false by decide +kernel), _, rfl, iteT q⟩
    | int b => exact ⟨_, rfl, _, _, _, _, false, rfl, .ty _, ty_data hx, kit_ty (show kitB "int" "tuple" = some false by decide +kernel), _, rfl, iteT q⟩
    | str b => exact ⟨_, rfl, _, _, _, _, false, rfl, .ty _, ty_data hx, kit_ty (show kitB "str" "tuple" = some false by decide +kernel), _, rfl, iteT q⟩
    | dict b => cases hx
theorem ok_is_book (T : Top K mg) (B_is_book : GxR.TabB base mg (cA K "is_book") (tA K "is_book")) (c_is_integer : CalD P w K mg base 1 "is_integer" s_is_integer ["told", "least"] (spIsInt K)) (c_is_ascending : CalD P w K mg base 2 "is_ascending" s_is_ascending ["told", "top"] (spIsAsc K)) : CalD P w K mg base 4 "is_book" s_is_book ["told"] (spIsBook K) := by
  refine calT_mk T.d_is_book sc_is_book (fun _ _ _ _ _ _ us hl => match us, hl with | [_], _ => rfl) (fun vs H Q E h => ?_) (fun f cdv A outer s H vs Q E hcd hr h => ?_)
  · obtain ⟨x, d, rfl, hx, hs, hT, q⟩ := h
    rfl
  · obtain ⟨x, d, rfl, hx, hs, hT, q⟩ := h
    refine ⟨_, (pss_cons (ps_if (PW.pt (pw_or (pt_not (pt_val (pe_callB call_isi (by rfl) T.z_isinstance (by decide +kernel) (pa_cons (pv 0) (pa_cons (pe_bltn (v := .ty "tuple") (by rfl) T.z_tuple (by decide +kernel) rfl) pa_nil))))) (pw_or1 (pt_cmpR op_ne (pe_callB call_len_seq (by rfl) T.z_len PySem.boot_len (pa_cons (pv 0) pa_nil)) pe_int (nomark _))))) (pss_one (ps_ret pe_bl)) pss_nil)
  (pss_cons (ps_asg (pv 0) (pg_tup rfl (pgs_cons (pg_name (i := 2) sc_is_book.nd rfl (Or.inr rfl)) (pgs_cons (pg_name (i := 1) sc_is_book.nd rfl (Or.inl rfl)) pgs_nil))))
  (pss_cons (ps_if (PW.pt (pw_or (pt_not (pt_val (pe_f c_is_integer hr (by omega) (by rfl) (pa_cons (pv 2) (pa_cons pe_int pa_nil))))) (pw_or1 (pt_not (pt_val (pe_callB call_isi (by rfl) T.z_isinstance (by decide +kernel) (pa_cons (pv 1) (pa_cons (pe_bltn (v := .ty "tuple") (by rfl) T.z_tuple (by decide +kernel) rfl) pa_nil)))))))) (pss_one (ps_ret pe_bl)) pss_nil)
  (pss_one (ps_ret (Gx.pe_allG (c := cA K "is_book") (P := tA K "is_book") (i := 3) (own := [("row", 3)]) hr (by rfl) T.z_all (by decide +kernel) B_is_book hcd (genS_by rfl rfl rfl (by decide +kernel) rfl rfl (by decide +kernel)) sc_is_book.nd rfl (blkOk_by (own := [("row", 3)]) (N := N_is_book) (sc := defScope s_is_book) (by decide +kernel)) (pi_seq (pv 1)) (fun _ _ _ _ _ _ _ hr => (pe_and (pe_cmpR (op_neD_at K rfl hr.units) (pv 3) (pe_tup pa_nil) (nomark _)) (pe_one (pe_f c_is_ascending hr (by omega) (by rfl) (pa_cons (pv 3) (pa_cons (pv 2) pa_nil)))))) (fun _ => rfl))))))), ?_⟩
    cases d with
    | tuple ds =>
      obtain ⟨a, xs, hx1, hx2, rfl⟩ : ∃ a xs, SqT K H a xs ∧ DpAll K H xs ds ∧ x = .ref a := by
        cases hx with
        | tup h1 h2 => exact ⟨_, _, h1, h2, rfl⟩
      have hl := DpAll.length _ hx2
      refine ⟨_, rfl, _, _, _, _, true, rfl, .ty _, ty_tuple hx1, kit_ty (by decide +kernel), _, rfl, iteF ⟨_, rfl, a, _, rfl, .inr hx1, rfl, _, rfl, ?_⟩⟩
      rw [hl]
      refine ite2 (fun h2 => ?_) (fun h2 => ?_)
      · have e : isBookD (.tuple ds) = false := isBookD_len fun z => by
          rw [z] at h2
          exact absurd h2 (by decide)
        have q2 := q H (Gro.refl H)
        rw [e] at q2
        exact q2
      · have l2 : ds.length = 2 := by
          have z : decide (V.int (ds.length : Int) = V.int 2) = true := by
            cases w : decide (V.int (ds.length : Int) = V.int 2) with
            | true => rfl
            | false => rw [w] at h2; exact absurd rfl h2
          have z2 := V.int.inj (of_decide_eq_true z)
          omega
        obtain ⟨dm, dr, rfl⟩ : ∃ dm dr, ds = [dm, dr] := by
          cases ds with
          | nil => cases l2
          | cons d ds => cases ds with
            | nil => cases l2
            | cons e ds => cases ds with
              | nil => exact ⟨d, e, rfl⟩
              | cons f ds => cases l2
        cases hx2 with
        | cons hm hx3 =>
          rename_i vm vs1
          cases hx3 with
          | cons hr2 hx4 =>
            rename_i vr vs2
            cases hx4
            refine ⟨_, rfl, a, _, rfl, hx1, rfl, vm, _, rfl, vr, _, rfl, rfl, ?_⟩
            refine ⟨_, rfl, vm, dm, 1, rfl, hm, _, rfl, ?_⟩
            have bad : isBookM dm dr = false → Q (.bl false) H := fun z => by
              have q2 := q H (Gro.refl H)
              have e : isBookD (.tuple [dm, dr]) = isBookM dm dr := rfl
              rw [e, z] at q2
              exact q2
            have sh := shaped_all hs dr (List.mem_cons_of_mem _ List.mem_cons_self)
            cases dm with
            | int m =>
              cases hm
              by_cases h1 : 1 ≤ m
              · have e1 : isIntD (.int m) 1 = true := decide_eq_true h1
                rw [e1]
                refine iteF ⟨_, rfl, _, _, _, _, isTup dr, rfl, .ty _, ty_data hr2, kit_ty (kit_tup dr), _, rfl, ?_⟩
                cases dr with
                | tuple rs =>
                  obtain ⟨b, xr, hb1, hb2, rfl⟩ : ∃ b xr, SqT K H b xr ∧ DpAll K H xr rs ∧ vr = .ref b := by
                    cases hr2 with
                    | tup h1 h2 => exact ⟨_, _, h1, h2, rfl⟩
                  refine iteF ⟨_, rfl, b, rfl, .inr ⟨⟨xr, hb1⟩, hT, fun H2 hTb => ?_⟩⟩
                  have g2 := Gro.tab hT hTb
                  have eB : isBookD (.tuple [.int m, .tuple rs]) = rs.all (rowOk m) := by
                    show (decide (1 ≤ m) && rs.all (rowOk m)) = _
                    rw [decide_eq_true h1, Bool.true_and]
                  rw [eB] at q
                  refine asks_data (rowOk m) g2 hb2 (go_t hb1) (yl_t hb1) (st_t hb1) (fun v => rfl) (fun v d H' hmem hd hg => ?_) fun H' hg => q _ hg
                  refine ⟨_, rfl, (by show 0 ≤ sizeLine; decide), fun pt hpt => ⟨d, .tuple [], Dp.same (same_upd hpt) _ _ hd, .tup (SqT.of upd_same) .nil, shaped_all sh d hmem, by decide, _, rfl, ?_⟩⟩
                  have g3 := hg.trans (.of (same_upd (o := HO.tup []) hpt))
                  have er : rowOk m d = (!PyData.eqv d (.tuple []) && isAscD d m) := rfl
                  rw [er]
                  cases hz : PyData.eqv d (.tuple []) with
                  | true => exact iteF ⟨rfl, g3⟩
                  | false => exact iteT ⟨_, rfl, _, rfl, v, d, m, rfl, Dp.same (same_upd hpt) _ _ hd, rfl, g3⟩
                | _ => exact iteT (bad rfl)
              · have e1 : isIntD (.int m) 1 = false := decide_eq_false h1
                rw [e1]
                refine iteT (bad ?_)
                cases dr with
                | tuple rs =>
                  show (decide (1 ≤ m) && _) = false
                  rw [decide_eq_false h1, Bool.false_and]
                | _ => rfl
            | _ => exact iteT (bad rfl)
    | list ds => exact ⟨_, rfl, _, _, _, _, false, rfl, .ty _, ty_data hx, kit_ty (show kitB "list" "tuple" = some false by decide +kernel), _, rfl, iteT (q _ (Gro.refl H))⟩
    | none => exact ⟨_, rfl, _, _, _, _, false, rfl, .ty _, ty_data hx, kit_ty (show kitB "NoneType" "tuple" = some false by decide +kernel), _, rfl, iteT (q _ (Gro.refl H))⟩
    | bool b => exact ⟨_, rfl, _, _, _, _, false, rfl, .ty _, ty_data hx, kit_ty (show kitB "bool" "tuple" = some false by decide +kernel), _, rfl, iteT (q _ (Gro.refl H))⟩
    | int b => exact ⟨_, rfl, _, _, _, _, false, rfl, .ty _, ty_data hx, kit_ty (show kitB "int" "tuple" = some false by decide +kernel), _, rfl, iteT (q _ (Gro.refl H))⟩
    | str b => exact ⟨_, rfl, _, _, _, _, false, rfl, .ty _, ty_data hx, kit_ty (show kitB "str" "tuple" = some false by decide +kernel), _, rfl, iteT (q _ (Gro.refl H))⟩
    | dict b => cases hx
theorem ok_check_book (T : Top K mg) (c_is_book : CalD P w K mg base 4 "is_book" s_is_book ["told"] (spIsBook K)) : CalD P w K mg base 5 "check_book" s_check_book ["book"] (spCheckBook K) := by
  refine cal_mk T.d_check_book sc_check_book (fun _ _ _ _ _ _ us hl => match us, hl with | [_], _ => rfl) (fun vs H Q E h => ?_) (fun f cdv A outer s H vs Q E hr h => ?_)
  · obtain ⟨x, d, rfl, hx, hs, hB, hT, q⟩ := h
    rfl
  · obtain ⟨x, d, rfl, hx, hs, hB, hT, q⟩ := h
    refine ⟨_, (pss_one (ps_if (pt_not (pt_val (pe_f c_is_book hr (by omega) (by rfl) (pa_cons (pv 0) pa_nil)))) (pss_one ps_never) pss_nil)), ?_⟩
    refine ⟨_, rfl, x, d, rfl, hx, hs, hT, fun H' g => ⟨_, rfl, ?_⟩⟩
    rw [hB]
    exact iteF (q H' g)
theorem ok_row_of_cells (T : Top K mg) (c_are_integers : CalD P w K mg base 3 "are_integers" s_are_integers ["told", "least"] (spAreInts K)) : CalD P w K mg base 4 "row_of_cells" s_row_of_cells ["m", "row"] (spRowOf K) := by
  refine cal_mk T.d_row_of_cells sc_row_of_cells (fun _ _ _ _ _ _ us hl => match us, hl with | [_, _], _ => rfl) (fun vs H Q E h => ?_) (fun f cdv A outer s H vs Q E hr h => ?_)
  · obtain ⟨y, m, cells, rfl, hW, hc, hT, q⟩ := h
    rfl
  · obtain ⟨y, m, cells, rfl, hW, hc, hT, q⟩ := h
    refine ⟨_, (pss_cons (ps_if (PW.pt (pw_or (pt_not (pt_val (pe_f c_are_integers hr (by omega) (by rfl) (pa_cons (pv 1) (pa_cons pe_int pa_nil))))) (pw_or (pt_cmpR op_eq (pe_callB call_len_seq (by rfl) T.z_len PySem.boot_len (pa_cons (pv 1) pa_nil)) pe_int (nomark _)) (pw_or1 (pt_cmpR op_ge (pe_callB (call_maxS rfl hr) (by rfl) T.z_max (by decide +kernel) (pa_cons (pv 1) pa_nil)) (pv 0) (nomark _)))))) (pss_one ps_never) pss_nil)
  (pss_one (ps_ret (pe_callTy call_tuple_of (by rfl) T.z_tuple (by decide +kernel) (pa_cons (pe_callB (cr_sortedSet rfl) (by rfl) T.z_sorted (by decide +kernel) (pa_cons (pe_callTy (call_setNums rfl) (by rfl) T.z_set (by decide +kernel) (pa_cons (pv 1) pa_nil)) pa_nil)) pa_nil))))), ?_⟩
    have hd := dpI (K := K) (H := H) (cells.map fun k : Nat => (k : Int))
    rw [← intsV_map] at hd
    have ok : areIntsD (.list (natsD cells)) 0 = true := by
      show ((natsD cells).all fun d => isIntD d 0) = true
      rw [List.all_map, List.all_map]
      exact List.all_eq_true.mpr fun n _ => decide_eq_true (Int.natCast_nonneg n)
    obtain ⟨d, hD, okd⟩ : ∃ d, Dp K H (.ref y) d ∧ areIntsD d 0 = true := by
      rcases hW with h | h
      · exact ⟨_, .lst h hd, ok⟩
      · exact ⟨_, .tup h hd, ok⟩
    have npos : 0 < cells.length := List.length_pos_iff.mpr hc.some_
    refine ⟨_, rfl, _, d, 0, rfl, hD, hT, fun H1 g1 => ⟨_, rfl, ?_⟩⟩
    rw [okd]
    have hW1 := hW.gro g1
    refine iteF ⟨_, rfl, y, _, rfl, hW1, rfl, _, rfl, ?_⟩
    rw [intsV_len, decide_eq_false (fun z => by have z2 := V.int.inj z; omega)]
    have hW2 : SqL K H1 y ((cells.map fun k : Nat => (k : Int)).map V.int) ∨ SqT K H1 y ((cells.map fun k : Nat => (k : Int)).map V.int) := by
      rw [← intsV_map]
      exact hW1
    have few := hc.few
    refine iteF ⟨_, rfl, y, _, rfl, hW2, by rw [List.length_map]; exact npos, fun mx hm _ => ⟨_, rfl, _, _, rfl, rfl, _, rfl, ?_⟩⟩
    have hlt : ¬ ((m : Int) ≤ mx) := by
      obtain ⟨c, hcm, rfl⟩ := List.mem_map.mp hm
      have := hc.low c hcm
      omega
    rw [decide_eq_false hlt]
    refine iteF ⟨_, rfl, y, _, rfl, hW2, by rw [List.length_map]; omega, fun p c hcl hp => ?_⟩
    rw [List.length_map] at hcl
    refine ⟨p, _, c, rfl, upd_same, by omega, fun ns' ps hpw hmem _ hps => ⟨ps, _, rfl, .inl ⟨SqL.of upd_same, fun pt hpt => ?_⟩⟩⟩
    obtain ⟨hR, hpos⟩ := isRow_of (cells := cells) hpw fun k => (hmem k).trans ⟨fun z => of_decide_eq_true z, fun z => decide_eq_true z⟩
    refine q _ pt _ (((g1.trans (.of (same_upd hp))).trans (.of (same_upd hps))).trans (.of (same_upd hpt))) hR (SqT.of ?_)
    rw [upd_same, nats_back hpos]
theorem ok_with_key (T : Top K mg) (c_check_book : CalD P w K mg base 5 "check_book" s_check_book ["book"] (spCheckBook K)) (c_row_of_cells : CalD P w K mg base 4 "row_of_cells" s_row_of_cells ["m", "row"] (spRowOf K)) : CalD P w K mg base 6 "with_key" s_with_key ["book", "row"] (spWithKey K) := by
  refine cal_mk T.d_with_key sc_with_key (fun _ _ _ _ _ _ us hl => match us, hl with | [_, _], _ => rfl) (fun vs H Q E h => ?_) (fun f cdv A outer s H vs Q E hr h => ?_)
  · obtain ⟨x, y, m, rows, cells, rfl, hx, hG, hW, hc, hT1, hT2, q⟩ := h
    rfl
  · obtain ⟨x, y, m, rows, cells, rfl, hx, hG, hW, hc, hT1, hT2, q⟩ := h
    refine ⟨_, (pss_cons (ps_expr (pe_f c_check_book hr (by omega) (by rfl) (pa_cons (pv 0) pa_nil)))
  (pss_cons (ps_asg (pv 0) (pg_tup rfl (pgs_cons (pg_name (i := 2) sc_with_key.nd rfl (Or.inl rfl)) (pgs_cons (pg_name (i := 3) sc_with_key.nd rfl (Or.inl rfl)) pgs_nil))))
  (pss_one (ps_ret (pe_tup (pa_cons (pv 2) (pa_cons (pe_tup (StX.pa_star (pv 3) (pa_cons (pe_f c_row_of_cells hr (by omega) (by rfl) (pa_cons (pv 2) (pa_cons (pv 1) pa_nil))) pa_nil))) pa_nil))))))), ?_⟩
    refine ⟨_, rfl, x, _, rfl, hx, page_shaped m rows, hG.book, hT2, fun H1 g1 => ?_⟩
    obtain ⟨a, b, xs, rfl, h1, h2, h3⟩ := page_inv (Dp.gro g1 _ _ hx)
    refine ⟨_, rfl, a, _, rfl, h1, rfl, _, _, rfl, _, _, rfl, rfl, ?_⟩
    refine ⟨_, rfl, _, rfl, b, xs, rfl, .inl h2, _, rfl, _, rfl, y, m, cells, rfl, hW.gro g1, hc, g1.tg hT1, fun H2 pr r g2 hR hp => ?_⟩
    have hl : xs.length = rows.length := (DpAll.length _ h3).trans (List.length_map _)
    have many := hG.many
    refine ⟨?_, fun p1 hp1 => ⟨(by show 2 ≤ sizeLine; decide), fun p2 hp2 => ?_⟩⟩
    · rw [List.length_append, hl]
      exact Nat.le_trans (by show rows.length + 1 ≤ 2000; omega) (by decide)
    have g3 := Gro.of (same_upd (o := HO.tup (xs ++ [V.ref pr])) hp1)
    have g4 := Gro.of (same_upd (o := HO.tup [V.int (m : Int), V.ref p1]) hp2)
    refine q _ p2 r (((g1.trans g2).trans g3).trans g4) hR (page_mk (SqT.of upd_same) (g4.tupS (SqT.of upd_same)) ?_)
    rw [List.map_append]
    exact DpAll.app (.cons (row_mk ((g3.trans g4).tupS hp)) .nil) (DpAll.gro ((g2.trans g3).trans g4) _ _ h3)
theorem ok_check_key (T : Top K mg) (c_is_below : CalD P w K mg base 2 "is_below" s_is_below ["told", "top"] (spIsBelow K)) : CalD P w K mg base 3 "check_key" s_check_key ["book", "key"] (spCheckKey K) := by
  refine cal_mk T.d_check_key sc_check_key (fun _ _ _ _ _ _ us hl => match us, hl with | [_, _], _ => rfl) (fun vs H Q E h => ?_) (fun f cdv A outer s H vs Q E hr h => ?_)
  · obtain ⟨x, m, rows, k, rfl, hx, hk, q⟩ := h
    rfl
  · obtain ⟨x, m, rows, k, rfl, hx, hk, q⟩ := h
    refine ⟨_, (pss_one (ps_if (pt_not (pt_val (pe_f c_is_below hr (by omega) (by rfl) (pa_cons (pv 1) (pa_cons (pe_callB call_len_seq (by rfl) T.z_len PySem.boot_len (pa_cons (pe_ix ix_tup (pv 0) pe_int (fun _ _ => rfl)) pa_nil)) pa_nil))))) (pss_one ps_never) pss_nil)), ?_⟩
    obtain ⟨a, b, xs, rfl, h1, h2, h3⟩ := page_inv hx
    have hl : xs.length = rows.length := (DpAll.length _ h3).trans (List.length_map _)
    refine ⟨_, rfl, _, rfl, a, _, 1, .ref b, rfl, rfl, h1, rfl, b, _, rfl, .inr h2, .int (k : Int), .int (k : Int), (xs.length : Int), rfl, .int _, _, rfl, ?_⟩
    rw [hl, isBelow_nat hk]
    exact iteF q
theorem ok_without_key (T : Top K mg) (c_check_book : CalD P w K mg base 5 "check_book" s_check_book ["book"] (spCheckBook K)) (c_check_key : CalD P w K mg base 3 "check_key" s_check_key ["book", "key"] (spCheckKey K)) : CalD P w K mg base 6 "without_key" s_without_key ["book", "key"] (spWithoutKey K) := by
  refine cal_mk T.d_without_key sc_without_key (fun _ _ _ _ _ _ us hl => match us, hl with | [_, _], _ => rfl) (fun vs H Q E h => ?_) (fun f cdv A outer s H vs Q E hr h => ?_)
  · obtain ⟨x, m, rows, k, rfl, hx, hG, hk, hT, q⟩ := h
    rfl
  · obtain ⟨x, m, rows, k, rfl, hx, hG, hk, hT, q⟩ := h
    refine ⟨_, (pss_cons (ps_expr (pe_f c_check_book hr (by omega) (by rfl) (pa_cons (pv 0) pa_nil)))
  (pss_cons (ps_expr (pe_f c_check_key hr (by omega) (by rfl) (pa_cons (pv 0) (pa_cons (pv 1) pa_nil))))
  (pss_cons (ps_asg (pv 0) (pg_tup rfl (pgs_cons (pg_name (i := 2) sc_without_key.nd rfl (Or.inl rfl)) (pgs_cons (pg_name (i := 3) sc_without_key.nd rfl (Or.inl rfl)) pgs_nil))))
  (pss_one (ps_ret (pe_tup (pa_cons (pv 2) (pa_cons (pe_op op_catA (pe_slice sl_tupA (pv 3) po_none (po_some (pv 1))) (pe_slice sl_tupA (pv 3) (po_some (pe_op op_add (pv 1) pe_int)) po_none)) pa_nil)))))))), ?_⟩
    refine ⟨_, rfl, x, _, rfl, hx, page_shaped m rows, hG.book, hT, fun H1 g1 => ?_⟩
    refine ⟨_, rfl, _, rfl, x, m, rows, k, rfl, Dp.gro g1 _ _ hx, hk, ?_⟩
    obtain ⟨a, b, xs, rfl, h1, h2, h3⟩ := page_inv (Dp.gro g1 _ _ hx)
    refine ⟨_, rfl, a, _, rfl, h1, rfl, _, _, rfl, _, _, rfl, rfl, ?_⟩
    have hl : xs.length = rows.length := (DpAll.length _ h3).trans (List.length_map _)
    have many := hG.many
    refine ⟨_, rfl, _, rfl, _, rfl, (k : Int), rfl, sl_of h2 fun p1 H2 g2 s1 => ?_⟩
    rw [cut_to (by omega)] at s1
    refine ⟨_, rfl, _, rfl, _, _, rfl, rfl, ((k : Int) + 1), rfl, ?_⟩
    dsimp only [tNoPart]
    refine sl_of (g2.tupS h2) fun p2 H3 g3 s2 => ?_
    rw [show ((k : Int) + 1) = ((k + 1 : Nat) : Int) by omega, cut_from (by omega)] at s2
    refine cat_of (g3.tupS s1) s2 ?_ fun p3 H4 g4 s3 => ⟨(by show 2 ≤ sizeLine; decide), fun p4 hp4 => ?_⟩
    · rw [List.length_take, List.length_drop]
      exact Nat.le_trans (by omega : _ ≤ 2000) (by decide)
    have g5 := Gro.of (same_upd (o := HO.tup [V.int (m : Int), V.ref p3]) hp4)
    refine q _ p4 ((((g1.trans g2).trans g3).trans g4).trans g5) (page_mk (SqT.of upd_same) (g5.tupS s3) ?_)
    rw [List.map_append, List.map_take, List.map_drop]
    have h4 := DpAll.gro (((g2.trans g3).trans g4).trans g5) _ _ h3
    exact DpAll.app (DpAll.drop (k + 1) h4) (DpAll.take k h4)
theorem ok_check_lot (T : Top K mg) (c_is_ascending : CalD P w K mg base 2 "is_ascending" s_is_ascending ["told", "top"] (spIsAsc K)) : CalD P w K mg base 3 "check_lot" s_check_lot ["book", "lot"] (spCheckLot K) := by
  refine cal_mk T.d_check_lot sc_check_lot (fun _ _ _ _ _ _ us hl => match us, hl with | [_, _], _ => rfl) (fun vs H Q E h => ?_) (fun f cdv A outer s H vs Q E hr h => ?_)
  · obtain ⟨x, y, m, rows, lot, rfl, hx, hy, hA, q⟩ := h
    rfl
  · obtain ⟨x, y, m, rows, lot, rfl, hx, hy, hA, q⟩ := h
    refine ⟨_, (pss_one (ps_if (pt_not (pt_val (pe_f c_is_ascending hr (by omega) (by rfl) (pa_cons (pv 1) (pa_cons (pe_callB call_len_seq (by rfl) T.z_len PySem.boot_len (pa_cons (pe_ix ix_tup (pv 0) pe_int (fun _ _ => rfl)) pa_nil)) pa_nil))))) (pss_one ps_never) pss_nil)), ?_⟩
    obtain ⟨a, b, xs, rfl, h1, h2, h3⟩ := page_inv hx
    have hl : xs.length = rows.length := (DpAll.length _ h3).trans (List.length_map _)
    refine ⟨_, rfl, _, rfl, a, _, 1, .ref b, rfl, rfl, h1, rfl, b, _, rfl, .inr h2, y, .tuple (natsD lot), _, rfl, hy, _, rfl, ?_⟩
    rw [hl, isAsc_of hA]
    exact iteF q
theorem ok_part (T : Top K mg) (c_check_book : CalD P w K mg base 5 "check_book" s_check_book ["book"] (spCheckBook K)) (c_check_lot : CalD P w K mg base 3 "check_lot" s_check_lot ["book", "lot"] (spCheckLot K)) : CalD P w K mg base 6 "part" s_part ["book", "lot"] (spPart K) := by
  refine cal_mk T.d_part sc_part (fun _ _ _ _ _ _ us hl => match us, hl with | [_, _], _ => rfl) (fun vs H Q E h => ?_) (fun f cdv A outer s H vs Q E hr h => ?_)
  · obtain ⟨x, y, m, rows, lot, rfl, hx, hG, hy, hA, hT, q⟩ := h
    rfl
  · obtain ⟨x, y, m, rows, lot, rfl, hx, hG, hy, hA, hT, q⟩ := h
    refine ⟨_, (pss_cons (ps_expr (pe_f c_check_book hr (by omega) (by rfl) (pa_cons (pv 0) pa_nil)))
  (pss_cons (ps_expr (pe_f c_check_lot hr (by omega) (by rfl) (pa_cons (pv 0) (pa_cons (pv 1) pa_nil))))
  (pss_cons (ps_asg (pv 0) (pg_tup rfl (pgs_cons (pg_name (i := 2) sc_part.nd rfl (Or.inl rfl)) (pgs_cons (pg_name (i := 3) sc_part.nd rfl (Or.inr rfl)) pgs_nil))))
  (pss_one (ps_ret (pe_tup (pa_cons (pv 2) (pa_cons (pe_callTy call_tuple_of (by rfl) T.z_tuple (by decide +kernel) (pa_cons (pe_lc (own := [("key", 4)]) (g := gName 4) rfl sc_part.nd (pi_tup (pv 1)) (blkOk_by (own := [("key", 4)]) (N := N_part) (sc := defScope s_part) (by decide +kernel)) (fun _ _ _ _ _ => pg_name (i := 4) sc_part.nd rfl (Or.inl rfl)) (fun _ _ _ _ _ => pts_nil) (fun _ _ _ _ _ => (pe_ix (ix_tup_at K rfl) (pv 3) (pv 4) (fun _ _ => rfl)))) pa_nil)) pa_nil)))))))), ?_⟩
    refine ⟨_, rfl, x, _, rfl, hx, page_shaped m rows, hG.book, hT, fun H1 g1 => ?_⟩
    refine ⟨_, rfl, _, rfl, x, y, m, rows, lot, rfl, Dp.gro g1 _ _ hx, Dp.gro g1 _ _ hy, hA, ?_⟩
    obtain ⟨a, b, xs, rfl, h1, h2, h3⟩ := page_inv (Dp.gro g1 _ _ hx)
    obtain ⟨c, rfl, h4⟩ := row_inv (Dp.gro g1 _ _ hy)
    refine ⟨_, rfl, a, _, rfl, h1, rfl, _, _, rfl, _, _, rfl, rfl, ?_⟩
    have hl : xs.length = rows.length := (DpAll.length _ h3).trans (List.length_map _)
    have hlot := asc_len hA
    have many := hG.many
    refine ⟨_, rfl, _, rfl, c, rfl, ⟨_, h4⟩, fun D hD => ?_⟩
    refine lc_mapT (fun v => match v with | .int n => xs.getD n.toNat .non | _ => .non) h4 hD (by rw [intsV_len]; omega) (fun v => rfl) (fun v hv H' Q' hs q' => ?_) ?_
    · obtain ⟨k, hk, rfl⟩ := List.mem_map.mp hv
      have hlt : k < xs.length := by
        rw [hl]
        exact hA.2 k hk
      refine ⟨_, rfl, _, rfl, b, xs, (k : Int), xs[k], rfl, rfl, Same.tupS hs h2, atI_nat (List.getElem?_eq_getElem hlt), ?_⟩
      have e : (match (V.int (k : Int)) with | .int n => xs.getD n.toNat .non | _ => .non) = xs[k] := by
        show xs.getD ((k : Int)).toNat .non = _
        rw [Int.toNat_natCast, List.getD_eq_getElem?_getD, List.getElem?_eq_getElem hlt]
        rfl
      rw [← e]
      exact q'
    refine ⟨D, _, rfl, .inl ⟨SqL.of upd_same, fun p1 hp1 => ⟨(by show 2 ≤ sizeLine; decide), fun p2 hp2 => ?_⟩⟩⟩
    have g2 := Gro.of (same_upd (o := HO.lst ((intsV lot).map (fun v => match v with | .int n => xs.getD n.toNat .non | _ => .non))) hD)
    have g3 := Gro.of (same_upd (o := HO.tup ((intsV lot).map (fun v => match v with | .int n => xs.getD n.toNat .non | _ => .non))) hp1)
    have g4 := Gro.of (same_upd (o := HO.tup [V.int (m : Int), V.ref p1]) hp2)
    refine q _ p2 (((g1.trans g2).trans g3).trans g4) (page_mk (SqT.of upd_same) (g4.tupS (SqT.of upd_same)) ?_)
    have h5 := DpAll.gro ((g2.trans g3).trans g4) _ _ h3
    generalize upd (upd (upd H1 D (.lst ((intsV lot).map (fun v => match v with | .int n => xs.getD n.toNat .non | _ => .non)))) p1 (.tup ((intsV lot).map (fun v => match v with | .int n => xs.getD n.toNat .non | _ => .non)))) p2 (.tup [V.int (m : Int), V.ref p1]) = H5 at h5
    have each : ∀ k ∈ lot, k < rows.length := hA.2
    clear hA hlot h4 hD hp1 hp2 g2 g3 g4 hy q
    induction lot with
    | nil => exact .nil
    | cons k lot ih =>
      have hk := each k List.mem_cons_self
      obtain ⟨v, e1, e2⟩ := DpAll.get _ h5 (i := k) (d := rowD rows[k]) (by rw [List.getElem?_map, List.getElem?_eq_getElem hk]; rfl)
      refine .cons ?_ (ih fun j hj => each j (List.mem_cons_of_mem _ hj))
      have e3 : xs.getD ((k : Int)).toNat .non = v := by
        rw [Int.toNat_natCast, List.getD_eq_getElem?_getD, e1]
        rfl
      have e4 : rows.getD k [] = rows[k] := by
        rw [List.getD_eq_getElem?_getD, List.getElem?_eq_getElem hk]
        rfl
      show Dp K H5 (xs.getD ((k : Int)).toNat .non) (rowD (rows.getD k []))
      rw [e3, e4]
      exact e2
theorem ok__law_deck (T : Top K mg)  : CalD P w K mg base 1 "_law_deck" s__law_deck ["script", "at"] (spDeck K) := by
  refine cal_mk T.d__law_deck sc__law_deck (fun _ _ _ _ _ _ us hl => match us, hl with | [_, _], _ => rfl) (fun vs H Q E h => ?_) (fun f cdv A outer s H vs Q E hr h => ?_)
  · obtain ⟨l, ns, j, rfl, hS, hj, q⟩ := h
    rfl
  · obtain ⟨l, ns, j, rfl, hS, hj, q⟩ := h
    refine ⟨_, (pss_cons (ps_set (i := 2) sc__law_deck.nd rfl (Or.inl rfl) pe_int)
  (pss_cons (ps_if (pt_cmpR op_lt (pv 1) (pe_callB call_len_seq (by rfl) T.z_len PySem.boot_len (pa_cons (pv 0) pa_nil)) (nomark _)) (pss_one (ps_set (i := 2) sc__law_deck.nd rfl (Or.inl rfl) (pe_ix ix_list (pv 0) (pv 1) (fun _ _ => rfl)))) pss_nil)
  (pss_cons (ps_set (i := 3) sc__law_deck.nd rfl (Or.inl rfl) (pe_op op_mod (pe_callTy call_int1 (by rfl) T.z_int (by decide +kernel) (pa_cons (pe_op op_add (pe_op op_add (pv 2) (pe_op op_mulX pe_int (pv 1))) pe_int) pa_nil)) pe_int))
  (pss_cons (ps_set (i := 3) sc__law_deck.nd rfl (Or.inl rfl) (pe_op op_mod (pe_callTy call_int1 (by rfl) T.z_int (by decide +kernel) (pa_cons (pe_op op_add (pe_op op_add (pe_op op_mulX (pe_op op_mulX (pv 3) (pv 3)) (pv 3)) (pe_op op_mulX pe_int (pv 1))) pe_int) pa_nil)) pe_int))
  (pss_cons (ps_if (pt_cmpR op_lt (pv 2) (pe_op op_pow pe_int pe_int) (nomark _)) (pss_one (ps_ret (pe_lst (pa_cons pe_int (pa_cons (pv 3) pa_nil))))) pss_nil)
  (pss_one (ps_ret (pe_lst (pa_cons (pe_op op_sub (pv 2) (pe_op op_pow pe_int pe_int)) (pa_cons (pv 3) pa_nil)))))))))), ?_⟩
    have hlt : decide ((j : Int) < ((ns.map V.int).length : Int)) = true → j < ns.length := fun e => by
      have e1 := of_decide_eq_true e
      rw [List.length_map] at e1
      omega
    refine ⟨.int (j : Int), rfl, .ref l, rfl, l, _, rfl, .inl hS, _, _, rfl, rfl, _, rfl, ite2 (fun e => ⟨.ref l, rfl, .int (j : Int), rfl, l, _, (j : Int), .int (ns[j]'(hlt e)), rfl, rfl, hS, atI_nat (by rw [List.getElem?_map, List.getElem?_eq_getElem (hlt e)]; rfl), ?_⟩) (fun e => ?_)⟩
    all_goals
      refine ⟨_, rfl, .int (j : Int), rfl, 7919, _, rfl, rfl, mulx_ok (a := 13) (b := 20) (by decide) (by omega) (by decide), _, _, rfl, rfl, _, _, rfl, rfl, .inl ⟨_, rfl, _, _, rfl, rfl, (by show (0 : Int) < 2305843009213693951; decide), ?_⟩⟩
      refine ⟨_, rfl, _, rfl, _, _, rfl, rfl, mulx_ok (em61 _) (em61 _) (by decide), _, rfl, _, _, rfl, rfl, mulx_ok (wide_lt (em61 _) (em61 _)) (em61 _) (by decide), .int (j : Int), rfl, 31, _, rfl, rfl, mulx_ok (a := 13) (b := 20) (by decide) (by omega) (by decide), _, _, rfl, rfl, _, _, rfl, rfl, .inl ⟨_, rfl, _, _, rfl, rfl, (by show (0 : Int) < 2305843009213693951; decide), ?_⟩⟩
      refine ⟨_, rfl, 10, 18, rfl, rfl, ⟨by decide, by decide, by decide⟩, _, _, rfl, rfl, _, rfl, ite2 (fun _ => ?_) (fun _ => ?_)⟩
      · exact ⟨_, rfl, (by show 2 ≤ sizeLine; decide), fun p hp => q _ p (same_upd hp) hp ⟨_, _, upd_same, Int.emod_nonneg _ (by decide), Int.lt_trans (Int.emod_lt_of_pos _ (by decide)) (by decide)⟩⟩
      · exact ⟨_, rfl, 10, 18, rfl, rfl, ⟨by decide, by decide, by decide⟩, _, _, rfl, rfl, _, rfl, (by show 2 ≤ sizeLine; decide), fun p hp => q _ p (same_upd hp) hp ⟨_, _, upd_same, Int.emod_nonneg _ (by decide), Int.lt_trans (Int.emod_lt_of_pos _ (by decide)) (by decide)⟩⟩
theorem ok__law_take (T : Top K mg)  : CalD P w K mg base 1 "_law_take" s__law_take ["deck", "many"] (spTake) := by
  refine cal_mk T.d__law_take sc__law_take (fun _ _ _ _ _ _ us hl => match us, hl with | [_, _], _ => rfl) (fun vs H Q E h => ?_) (fun f cdv A outer s H vs Q E hr h => ?_)
  · obtain ⟨a, m, rfl, ⟨x, y, hD, hy0, hy1⟩, h0, h9, q⟩ := h
    rfl
  · obtain ⟨a, m, rfl, ⟨x, y, hD, hy0, hy1⟩, h0, h9, q⟩ := h
    refine ⟨_, (pss_cons (ps_if (pt_cmpR op_gt (pe_ix ix_list (pv 0) pe_int (fun _ _ => rfl)) pe_int (nomark _)) (pss_cons (ps_set (i := 2) sc__law_take.nd rfl (Or.inl rfl) (pe_op op_mod (pe_callTy call_int1 (by rfl) T.z_int (by decide +kernel) (pa_cons (pe_ix ix_list (pv 0) pe_int (fun _ _ => rfl)) pa_nil)) (pv 1)))
  (pss_cons (ps_asg (pe_op op_fdivW (pe_ix ix_list (pv 0) pe_int (fun _ _ => rfl)) (pv 1)) (pg_sub (pv 0) pe_int set_list))
  (pss_one (ps_ret (pv 2))))) pss_nil)
  (pss_cons (ps_asg (pe_op op_mod (pe_callTy call_int1 (by rfl) T.z_int (by decide +kernel) (pa_cons (pe_op op_add (pe_op op_mulX (pe_ix ix_list (pv 0) pe_int (fun _ _ => rfl)) pe_int) pe_int) pa_nil)) (pe_op op_pow pe_int pe_int)) (pg_sub (pv 0) pe_int set_list))
  (pss_one (ps_ret (pe_op op_mod (pe_op op_fdivW (pe_ix ix_list (pv 0) pe_int (fun _ _ => rfl)) (pe_op op_pow pe_int pe_int)) (pv 1)))))), ?_⟩
    have hS : SqL K H a [.int x, .int y] := SqL.of hD
    refine ⟨.ref a, rfl, a, _, 0, .int x, rfl, rfl, hS, rfl, x, 0, rfl, rfl, _, rfl, ite2 (fun e => ?_) (fun e => ?_)⟩
    · refine ⟨.ref a, rfl, a, _, 0, .int x, rfl, rfl, hS, rfl, .inl ⟨x, rfl, .int m, rfl, x, m, rfl, rfl, h0, ?_⟩⟩
      refine ⟨.ref a, rfl, a, _, 0, .int x, rfl, rfl, hS, rfl, .int m, rfl, x, m, rfl, rfl, ⟨h0, h9⟩, .ref a, rfl, a, _, 0, 0, rfl, rfl, hD, rfl, .int (x % m), rfl, ?_⟩
      exact q _ _ _ (Int.emod_nonneg _ (by omega)) (Int.emod_lt_of_pos _ h0) hy0 hy1
    · refine ⟨.ref a, rfl, a, _, 1, .int y, rfl, rfl, hS, rfl, y, 6364136223846793005, rfl, rfl, mulx_ok (a := 64) (b := 63) (by omega) (by decide) (by decide), _, _, rfl, rfl, .inl ⟨_, rfl, 2, 64, rfl, rfl, ⟨by decide, by decide, by decide⟩, _, _, rfl, rfl, (by show (0 : Int) < 2 ^ (64 : Int).toNat; decide), ?_⟩⟩
      have e64 : ((2 : Int) ^ (64 : Int).toNat) = 18446744073709551616 := by decide
      rw [e64]
      have hz0 : 0 ≤ (y * 6364136223846793005 + 1442695040888963407) % 18446744073709551616 := Int.emod_nonneg _ (by decide)
      have hz1 : (y * 6364136223846793005 + 1442695040888963407) % 18446744073709551616 < 18446744073709551616 := Int.emod_lt_of_pos _ (by decide)
      refine ⟨.ref a, rfl, a, _, 1, 1, rfl, rfl, hD, rfl, .ref a, rfl, a, _, 1, _, rfl, rfl, SqL.of upd_same, rfl, 2, _, rfl, rfl, ⟨by decide, by decide, by decide⟩, _, _, rfl, rfl, wide_div (b := 40) (by show (0 : Int) < 2 ^ Int.toNat _; decide) (by show (2 ^ Int.toNat _ : Int).natAbs < 2 ^ 40; decide) (by decide) (by decide), .int m, rfl, _, m, rfl, rfl, h0, ?_⟩
      exact q _ _ _ (Int.emod_nonneg _ (by omega)) (Int.emod_lt_of_pos _ h0) hz0 hz1
theorem ok__law_same (T : Top K mg) : ∀ n : Nat, CalD P w K mg base (n + 1) "_law_same" s__law_same ["found", "due"] (spSame K n) := by
  intro n
  induction n with
  | zero =>
    refine cal_mk T.d__law_same sc__law_same (fun _ _ _ _ _ _ us hl => match us, hl with | [_, _], _ => rfl) (fun vs H Q E h => ?_) (fun f cdv A outer s H vs Q E hr h => ?_)
    · obtain ⟨x, y, d, rfl, _⟩ := h
      rfl
    · obtain ⟨x, y, d, rfl, _, _, hf, _⟩ := h
      exact hf.elim
  | succ n ih =>
  have c__law_same := ih
  refine cal_mk T.d__law_same sc__law_same (fun _ _ _ _ _ _ us hl => match us, hl with | [_, _], _ => rfl) (fun vs H Q E h => ?_) (fun f cdv A outer s H vs Q E hr h => ?_)
  · obtain ⟨x, y, d, rfl, _⟩ := h
    rfl
  · obtain ⟨x, y, d, rfl, hx, hy, hfit, q⟩ := h
    refine ⟨_, (pss_cons (ps_if (pt_val (pe_callB call_isiT (by rfl) T.z_isinstance (by decide +kernel) (pa_cons (pv 1) (pa_cons (pe_tup (pa_cons (pe_bltn (v := .ty "tuple") (by rfl) T.z_tuple (by decide +kernel) rfl) (pa_cons (pe_bltn (v := .ty "list") (by rfl) T.z_list (by decide +kernel) rfl) pa_nil))) pa_nil)))) (pss_cons (ps_if (PW.pt (pw_or (pt_cmpR op_ne (pe_callB call_isi (by rfl) T.z_isinstance (by decide +kernel) (pa_cons (pv 0) (pa_cons (pe_bltn (v := .ty "tuple") (by rfl) T.z_tuple (by decide +kernel) rfl) pa_nil))) (pe_callB call_isi (by rfl) T.z_isinstance (by decide +kernel) (pa_cons (pv 1) (pa_cons (pe_bltn (v := .ty "tuple") (by rfl) T.z_tuple (by decide +kernel) rfl) pa_nil))) (nomark _)) (pw_or1 (pt_cmpR op_ne (pe_callB call_isi (by rfl) T.z_isinstance (by decide +kernel) (pa_cons (pv 0) (pa_cons (pe_bltn (v := .ty "list") (by rfl) T.z_list (by decide +kernel) rfl) pa_nil))) (pe_callB call_isi (by rfl) T.z_isinstance (by decide +kernel) (pa_cons (pv 1) (pa_cons (pe_bltn (v := .ty "list") (by rfl) T.z_list (by decide +kernel) rfl) pa_nil))) (nomark _))))) (pss_one (ps_ret pe_bl)) pss_nil)
  (pss_cons (ps_if (pt_cmpR op_ne (pe_callB call_len_seq (by rfl) T.z_len PySem.boot_len (pa_cons (pv 0) pa_nil)) (pe_callB call_len_seq (by rfl) T.z_len PySem.boot_len (pa_cons (pv 1) pa_nil)) (nomark _)) (pss_one (ps_ret pe_bl)) pss_nil)
  (pss_one (ps_ret (pe_cmpR (op_eqD hr.units) (pe_lc (own := [("at", 2)]) (g := gName 2) rfl sc__law_same.nd (pi_range1 (by rfl) T.z_range (pa_cons (pe_callB call_len_seq (by rfl) T.z_len PySem.boot_len (pa_cons (pv 1) pa_nil)) pa_nil)) (blkOk_by (own := [("at", 2)]) (N := N__law_same) (sc := defScope s__law_same) (by decide +kernel)) (fun _ _ _ _ _ => pg_name (i := 2) sc__law_same.nd rfl (Or.inl rfl)) (fun _ _ _ _ _ => (pts_one (pt_not (pt_val (pe_f c__law_same hr (by omega) (by rfl) (pa_cons (pe_ix (ix_seq_at K rfl) (pv 0) (pv 2) (fun _ _ => rfl)) (pa_cons (pe_ix (ix_seq_at K rfl) (pv 1) (pv 2) (fun _ _ => rfl)) pa_nil))))))) (fun _ _ _ _ _ => (pv 2))) (pe_lst pa_nil) (nomark _)))))) pss_nil)
  (pss_cons (ps_if (pt_cmpR op_isN (pv 1) pe_non (nomark _)) (pss_one (ps_ret (pe_cmpR op_isN (pv 0) pe_non (nomark _)))) pss_nil)
  (pss_cons (ps_if (pt_val (pe_callB call_isi (by rfl) T.z_isinstance (by decide +kernel) (pa_cons (pv 1) (pa_cons (pe_bltn (v := .ty "str") (by rfl) T.z_str (by decide +kernel) rfl) pa_nil)))) (pss_one (ps_ret (pe_and (pe_callB call_isi (by rfl) T.z_isinstance (by decide +kernel) (pa_cons (pv 0) (pa_cons (pe_bltn (v := .ty "str") (by rfl) T.z_str (by decide +kernel) rfl) pa_nil))) (pe_one (pe_cmpR op_eq (pv 0) (pv 1) (nomark _)))))) pss_nil)
  (pss_cons (ps_if (PW.pt (pw_or (pt_val (pe_callB call_isi (by rfl) T.z_isinstance (by decide +kernel) (pa_cons (pv 1) (pa_cons (pe_bltn (v := .ty "bool") (by rfl) T.z_bool (by decide +kernel) rfl) pa_nil)))) (pw_or1 (pt_val (pe_callB call_isi (by rfl) T.z_isinstance (by decide +kernel) (pa_cons (pv 0) (pa_cons (pe_bltn (v := .ty "bool") (by rfl) T.z_bool (by decide +kernel) rfl) pa_nil))))))) (pss_one (ps_ret (pe_and (pe_callB call_isi (by rfl) T.z_isinstance (by decide +kernel) (pa_cons (pv 1) (pa_cons (pe_bltn (v := .ty "bool") (by rfl) T.z_bool (by decide +kernel) rfl) pa_nil))) (pe_and (pe_callB call_isi (by rfl) T.z_isinstance (by decide +kernel) (pa_cons (pv 0) (pa_cons (pe_bltn (v := .ty "bool") (by rfl) T.z_bool (by decide +kernel) rfl) pa_nil))) (pe_one (pe_cmpR op_eq (pv 0) (pv 1) (nomark _))))))) pss_nil)
  (pss_one (ps_ret (pe_and (pe_callB call_isi (by rfl) T.z_isinstance (by decide +kernel) (pa_cons (pv 0) (pa_cons (pe_bltn (v := .ty "int") (by rfl) T.z_int (by decide +kernel) rfl) pa_nil))) (pe_one (pe_cmpR op_eq (pv 0) (pv 1) (nomark _)))))))))), ?_⟩
    rcases d with _ | _ | _ | _ | _ | _ | _
    · -- none
      cases hx
      cases hy
      refine ⟨_, rfl, (by show 2 ≤ sizeLine; decide), fun t ht => ⟨_, t, _, _, _, _, rfl, upd_same, .cons (.ty _) (.cons (.ty _) .nil), .base .non, kit2 (r := false) (s := false) (by decide +kernel) (by decide +kernel), _, rfl, iteF ?_⟩⟩
      have s1 := same_upd (o := HO.tup [V.ty "tuple", V.ty "list"]) ht
      refine ⟨_, rfl, rfl, _, rfl, iteT ?_⟩
      exact ⟨_, rfl, rfl, q _ s1⟩
    · -- bool
      cases hx
      cases hy
      refine ⟨_, rfl, (by show 2 ≤ sizeLine; decide), fun t ht => ⟨_, t, _, _, _, _, rfl, upd_same, .cons (.ty _) (.cons (.ty _) .nil), .base (.bl _), kit2 (r := false) (s := false) (by decide +kernel) (by decide +kernel), _, rfl, iteF ?_⟩⟩
      have s1 := same_upd (o := HO.tup [V.ty "tuple", V.ty "list"]) ht
      refine ⟨_, rfl, rfl, _, rfl, iteF ?_⟩
      refine ⟨_, rfl, _, _, _, _, false, rfl, .ty _, .base (.bl _), kit_ty (by decide +kernel), _, rfl, iteF ?_⟩
      refine ⟨_, rfl, _, _, _, _, true, rfl, .ty _, .base (.bl _), kit_ty (by decide +kernel), _, rfl, iteT (iteT ?_)⟩
      refine ⟨_, rfl, _, _, _, _, true, rfl, .ty _, .base (.bl _), kit_ty (by decide +kernel), _, rfl, iteT ?_⟩
      refine ⟨_, rfl, _, _, _, _, true, rfl, .ty _, .base (.bl _), kit_ty (by decide +kernel), _, rfl, iteT ?_⟩
      refine ⟨_, rfl, _, rfl, rfl, ?_⟩
      rw [decide_eq_true rfl]
      exact q _ s1
    · -- int
      cases hx
      cases hy
      refine ⟨_, rfl, (by show 2 ≤ sizeLine; decide), fun t ht => ⟨_, t, _, _, _, _, rfl, upd_same, .cons (.ty _) (.cons (.ty _) .nil), .base (.int _), kit2 (r := false) (s := false) (by decide +kernel) (by decide +kernel), _, rfl, iteF ?_⟩⟩
      have s1 := same_upd (o := HO.tup [V.ty "tuple", V.ty "list"]) ht
      refine ⟨_, rfl, rfl, _, rfl, iteF ?_⟩
      refine ⟨_, rfl, _, _, _, _, false, rfl, .ty _, .base (.int _), kit_ty (by decide +kernel), _, rfl, iteF ?_⟩
      refine ⟨_, rfl, _, _, _, _, false, rfl, .ty _, .base (.int _), kit_ty (by decide +kernel), _, rfl, iteF ?_⟩
      refine ⟨_, rfl, _, _, _, _, false, rfl, .ty _, .base (.int _), kit_ty (by decide +kernel), _, rfl, iteF ?_⟩
      refine ⟨_, rfl, _, _, _, _, true, rfl, .ty _, .base (.int _), kit_ty (by decide +kernel), _, rfl, iteT ?_⟩
      refine ⟨_, rfl, _, rfl, rfl, ?_⟩
      rw [decide_eq_true rfl]
      exact q _ s1
    · -- str
      cases hx
      cases hy
      refine ⟨_, rfl, (by show 2 ≤ sizeLine; decide), fun t ht => ⟨_, t, _, _, _, _, rfl, upd_same, .cons (.ty _) (.cons (.ty _) .nil), .base (.str _), kit2 (r := false) (s := false) (by decide +kernel) (by decide +kernel), _, rfl, iteF ?_⟩⟩
      have s1 := same_upd (o := HO.tup [V.ty "tuple", V.ty "list"]) ht
      refine ⟨_, rfl, rfl, _, rfl, iteF ?_⟩
      refine ⟨_, rfl, _, _, _, _, true, rfl, .ty _, .base (.str _), kit_ty (by decide +kernel), _, rfl, iteT ?_⟩
      refine ⟨_, rfl, _, _, _, _, true, rfl, .ty _, .base (.str _), kit_ty (by decide +kernel), _, rfl, iteT ?_⟩
      refine ⟨_, rfl, _, rfl, rfl, ?_⟩
      rw [decide_eq_true rfl]
      exact q _ s1
    · -- list
      rename_i ds
      obtain ⟨a, xs, hx1, hx2, rfl⟩ : ∃ a xs, SqL K H a xs ∧ DpAll K H xs ds ∧ x = .ref a := by
        cases hx with
        | lst h1 h2 => exact ⟨_, _, h1, h2, rfl⟩
      obtain ⟨b, ys, hy1, hy2, rfl⟩ : ∃ a xs, SqL K H a xs ∧ DpAll K H xs ds ∧ y = .ref a := by
        cases hy with
        | lst h1 h2 => exact ⟨_, _, h1, h2, rfl⟩
      obtain ⟨hl, hf⟩ := (show ds.length < 4611686018427387904 ∧ ∀ e ∈ ds, Fit n e from hfit)
      have ex := DpAll.length _ hx2
      have ey := DpAll.length _ hy2
      refine ⟨_, rfl, (by show 2 ≤ sizeLine; decide), fun t ht => ⟨_, t, _, _, _, _, rfl, upd_same, .cons (.ty _) (.cons (.ty _) .nil), ty_list (Same.seq (same_upd ht) hy1), kit2 (r := false) (s := true) (by decide +kernel) (by decide +kernel), _, rfl, iteT ?_⟩⟩
      have s1 : Same H (upd H t (.tup [V.ty "tuple", V.ty "list"])) := same_upd ht
      refine ⟨_, rfl, _, _, _, _, false, rfl, .ty _, ty_list (Same.seq (s1) hx1), kit_ty (by decide +kernel), _, rfl, _, _, _, _, false, rfl, .ty _, ty_list (Same.seq (s1) hy1), kit_ty (by decide +kernel), rfl, _, rfl, iteF ?_⟩
      refine ⟨_, rfl, _, _, _, _, true, rfl, .ty _, ty_list (Same.seq (s1) hx1), kit_ty (by decide +kernel), _, rfl, _, _, _, _, true, rfl, .ty _, ty_list (Same.seq (s1) hy1), kit_ty (by decide +kernel), rfl, _, rfl, iteF ?_⟩
      refine ⟨_, rfl, a, xs, rfl, .inl (Same.seq (s1) hx1), _, rfl, b, ys, rfl, .inl (Same.seq (s1) hy1), rfl, _, rfl, ?_⟩
      rw [ex, ey, decide_eq_true rfl]
      refine iteF ?_
      refine ⟨_, rfl, b, ys, rfl, .inl (Same.seq (s1) hy1), _, rfl, (by omega), (by omega), fun D hD => ?_⟩
      refine lc_range (lo := 0) (n := ys.length) (fun i H' => Same H H' ∧ H' D = some (.lst [])) ⟨s1.trans (same_upd hD), upd_same⟩ (fun i H' hi hP => ?_) (fun H' hP => ?_)
      · obtain ⟨sP, eP⟩ := hP
        have e0 : (0 : Int) + (i : Int) = (i : Int) := Int.zero_add _
        rw [e0]
        have hi2 : i < ds.length := by omega
        obtain ⟨u, hu1, hu2⟩ := DpAll.get _ hx2 (List.getElem?_eq_getElem hi2)
        obtain ⟨v, hv1, hv2⟩ := DpAll.get _ hy2 (List.getElem?_eq_getElem hi2)
        refine ⟨rfl, _, rfl, _, rfl, .inl ⟨a, xs, (i : Int), u, rfl, rfl, Same.seq sP hx1, atI_nat hu1, ?_⟩⟩
        refine ⟨_, rfl, _, rfl, .inl ⟨b, ys, (i : Int), v, rfl, rfl, Same.seq sP hy1, atI_nat hv1, ?_⟩⟩
        refine ⟨u, v, ds[i], rfl, Dp.same sP _ _ hu2, Dp.same sP _ _ hv2, hf _ (List.getElem_mem hi2), fun H2 s2 => ⟨_, rfl, iteF ⟨sP.trans s2, s2 _ _ eP⟩⟩⟩
      · obtain ⟨sP, eP⟩ := hP
        exact ⟨Nat.zero_le _, fun p hp => ⟨.list [], .list [], .lst (SqL.of (by rw [upd_ne (ne_of_none eP hp)]; exact eP)) .nil, .lst (SqL.of upd_same) .nil, by decide, by decide, q _ (sP.trans (same_upd hp))⟩⟩
    · -- tuple
      rename_i ds
      obtain ⟨a, xs, hx1, hx2, rfl⟩ : ∃ a xs, SqT K H a xs ∧ DpAll K H xs ds ∧ x = .ref a := by
        cases hx with
        | tup h1 h2 => exact ⟨_, _, h1, h2, rfl⟩
      obtain ⟨b, ys, hy1, hy2, rfl⟩ : ∃ a xs, SqT K H a xs ∧ DpAll K H xs ds ∧ y = .ref a := by
        cases hy with
        | tup h1 h2 => exact ⟨_, _, h1, h2, rfl⟩
      obtain ⟨hl, hf⟩ := (show ds.length < 4611686018427387904 ∧ ∀ e ∈ ds, Fit n e from hfit)
      have ex := DpAll.length _ hx2
      have ey := DpAll.length _ hy2
      refine ⟨_, rfl, (by show 2 ≤ sizeLine; decide), fun t ht => ⟨_, t, _, _, _, _, rfl, upd_same, .cons (.ty _) (.cons (.ty _) .nil), ty_tuple (Same.tupS (same_upd ht) hy1), kit2 (r := true) (s := false) (by decide +kernel) (by decide +kernel), _, rfl, iteT ?_⟩⟩
      have s1 : Same H (upd H t (.tup [V.ty "tuple", V.ty "list"])) := same_upd ht
      refine ⟨_, rfl, _, _, _, _, true, rfl, .ty _, ty_tuple (Same.tupS (s1) hx1), kit_ty (by decide +kernel), _, rfl, _, _, _, _, true, rfl, .ty _, ty_tuple (Same.tupS (s1) hy1), kit_ty (by decide +kernel), rfl, _, rfl, iteF ?_⟩
      refine ⟨_, rfl, _, _, _, _, false, rfl, .ty _, ty_tuple (Same.tupS (s1) hx1), kit_ty (by decide +kernel), _, rfl, _, _, _, _, false, rfl, .ty _, ty_tuple (Same.tupS (s1) hy1), kit_ty (by decide +kernel), rfl, _, rfl, iteF ?_⟩
      refine ⟨_, rfl, a, xs, rfl, .inr (Same.tupS (s1) hx1), _, rfl, b, ys, rfl, .inr (Same.tupS (s1) hy1), rfl, _, rfl, ?_⟩
      rw [ex, ey, decide_eq_true rfl]
      refine iteF ?_
      refine ⟨_, rfl, b, ys, rfl, .inr (Same.tupS (s1) hy1), _, rfl, (by omega), (by omega), fun D hD => ?_⟩
      refine lc_range (lo := 0) (n := ys.length) (fun i H' => Same H H' ∧ H' D = some (.lst [])) ⟨s1.trans (same_upd hD), upd_same⟩ (fun i H' hi hP => ?_) (fun H' hP => ?_)
      · obtain ⟨sP, eP⟩ := hP
        have e0 : (0 : Int) + (i : Int) = (i : Int) := Int.zero_add _
        rw [e0]
        have hi2 : i < ds.length := by omega
        obtain ⟨u, hu1, hu2⟩ := DpAll.get _ hx2 (List.getElem?_eq_getElem hi2)
        obtain ⟨v, hv1, hv2⟩ := DpAll.get _ hy2 (List.getElem?_eq_getElem hi2)
        refine ⟨rfl, _, rfl, _, rfl, .inr (.inl ⟨a, xs, (i : Int), u, rfl, rfl, Same.tupS sP hx1, atI_nat hu1, ?_⟩)⟩
        refine ⟨_, rfl, _, rfl, .inr (.inl ⟨b, ys, (i : Int), v, rfl, rfl, Same.tupS sP hy1, atI_nat hv1, ?_⟩)⟩
        refine ⟨u, v, ds[i], rfl, Dp.same sP _ _ hu2, Dp.same sP _ _ hv2, hf _ (List.getElem_mem hi2), fun H2 s2 => ⟨_, rfl, iteF ⟨sP.trans s2, s2 _ _ eP⟩⟩⟩
      · obtain ⟨sP, eP⟩ := hP
        exact ⟨Nat.zero_le _, fun p hp => ⟨.list [], .list [], .lst (SqL.of (by rw [upd_ne (ne_of_none eP hp)]; exact eP)) .nil, .lst (SqL.of upd_same) .nil, by decide, by decide, q _ (sP.trans (same_upd hp))⟩⟩
    · exact hfit.elim
theorem ok__law_cells (T : Top K mg) (c__law_take : CalD P w K mg base 1 "_law_take" s__law_take ["deck", "many"] (spTake)) : CalD P w K mg base 2 "_law_cells" s__law_cells ["deck", "many"] (spCells K) := by
  refine cal_mk T.d__law_cells sc__law_cells (fun _ _ _ _ _ _ us hl => match us, hl with | [_, _], _ => rfl) (fun vs H Q E h => ?_) (fun f cdv A outer s H vs Q E hr h => ?_)
  · obtain ⟨a, m, rfl, hD, hm1, hm2, q⟩ := h
    rfl
  · obtain ⟨a, m, rfl, hD, hm1, hm2, q⟩ := h
    refine ⟨_, (pss_cons (ps_par (i := 2) (j := 3) rfl sc__law_cells.nd rfl rfl (by decide) rfl rfl (pa_cons (pe_lst pa_nil) (pa_cons (pe_f c__law_take hr (by omega) (by rfl) (pa_cons (pv 0) (pa_cons pe_int pa_nil))) pa_nil)) (by rfl))
  (pss_cons (ps_if (pt_cmpR op_eq (pv 3) pe_int (nomark _)) (pss_one (ps_ret (pe_tup (pa_cons (pe_f c__law_take hr (by omega) (by rfl) (pa_cons (pv 0) (pa_cons (pv 1) pa_nil))) pa_nil)))) pss_nil)
  (pss_cons (ps_for PassesOwn.never rfl (pi_range1 (by rfl) T.z_range (pa_cons (pv 1) pa_nil)) (pg_name (i := 4) sc__law_cells.nd rfl (Or.inl rfl)) (pss_one (ps_if (pt_cmpR op_eq (pe_f c__law_take hr (by omega) (by rfl) (pa_cons (pv 0) (pa_cons (pe_ix ix_list (pe_lst (pa_cons pe_int (pa_cons pe_int (pa_cons (pv 1) pa_nil)))) (pe_op op_sub (pv 3) pe_int) (fun _ _ => rfl)) pa_nil))) pe_int (nomark _)) (pss_one (ps_expr (pe_bm PySem.F.plainAttrs_list PySem.F.slot_list_append PySem.F.type_list_append mt_append (pv 2) (pa_cons (pv 4) pa_nil)))) pss_nil)))
  (pss_one (ps_ret (pe_ifExp (pt_cmpR (op_neD hr.units) (pv 2) (pe_lst pa_nil) (nomark _)) (pe_callTy call_tuple_of (by rfl) T.z_tuple (by decide +kernel) (pa_cons (pv 2) pa_nil)) (pe_tup (pa_cons (pe_f c__law_take hr (by omega) (by rfl) (pa_cons (pv 0) (pa_cons (pv 1) pa_nil))) pa_nil)))))))), ?_⟩
    refine ⟨(by show 0 ≤ sizeLine; decide), fun D hDn => ?_⟩
    have d0 := hD.same (same_upd (o := HO.lst []) hDn)
    have nDa : D ≠ a := (new_at (OffG.refl a H) hD hDn).1
    refine ⟨_, rfl, a, 4, rfl, d0, by decide, log2_small (by decide), fun t x y h0 h1 hy0 hy1 => ?_⟩
    obtain ⟨way, rfl⟩ := Int.eq_ofNat_of_zero_le h0
    have o1 : OffG a H (upd (upd H D (.lst [])) a (.lst [.int x, .int y])) := (OffG.of (.of (same_upd hDn))).trans (.off (Off.upd _ _ _))
    have d1 := DeckAt.upd (upd H D (.lst [])) a x hy0 hy1
    have e1 : upd (upd H D (.lst [])) a (.lst [.int x, .int y]) D = some (.lst []) := by rw [upd_ne nDa, upd_same]
    generalize upd (upd H D (.lst [])) a (.lst [.int x, .int y]) = H1 at o1 d1 e1
    refine ⟨_, _, rfl, _, rfl, rfl, _, rfl, ite2 (fun hw => ?_) (fun hw => ?_)⟩
    · refine ⟨_, rfl, _, rfl, a, m, rfl, d1, by omega, log2_small (by omega), fun t x y h0 h1 hy0 hy1 => ⟨(by show 1 ≤ sizeLine; decide), fun p hp => ?_⟩⟩
      obtain ⟨c, rfl⟩ := Int.eq_ofNat_of_zero_le h0
      have d2 := DeckAt.upd H1 a x hy0 hy1
      have o2 := o1.trans (.off (Off.upd a H1 (.lst [.int x, .int y])))
      exact q _ p [c] (o2.trans (.of (.of (same_upd hp)))) (d2.same (same_upd hp)) ⟨List.cons_ne_nil _ _, List.pairwise_singleton _ _, fun k hk => by rw [List.mem_singleton.mp hk]; omega⟩ upd_same
    · have hw2 : way = 1 ∨ way = 2 ∨ way = 3 := by
        have : way ≠ 0 := fun z => hw (decide_eq_true (by rw [z]; rfl))
        omega
      refine ⟨_, rfl, (m : Int), rfl, by omega, by omega, ?_⟩
      have en : ((m : Nat) : Int).toNat = m := Int.toNat_natCast _
      have nH := (new_at (OffG.refl a H) hD hDn).2
      refine for_range (lo := 0) (n := ((m : Nat) : Int).toNat) (fun i σ H' => ∃ (z : Option V) (r : List Nat), σ = [some (.ref a), some (.int (m : Int)), some (.ref D), some (.int (way : Int)), z] ∧ OffG a H H' ∧ DeckAt H' a ∧ Asc i r ∧ H' D = some (.lst (intsV r))) ⟨none, [], rfl, o1, d1, ⟨.nil, fun _ h => by cases h⟩, e1⟩ (fun i σ H' hi hP => ?_) (fun σ H' hP => ?_)
      · obtain ⟨z, r, rfl, oP, dP, hA, eP⟩ := hP
        have him : i < m := by omega
        refine ⟨_, rfl, _, rfl, (by show 3 ≤ sizeLine; decide), fun p hp => ⟨_, rfl, _, _, rfl, rfl, ?_⟩⟩
        obtain ⟨j, hj1, hj2, hat⟩ : ∃ j : Nat, 1 ≤ j ∧ j ≤ 1000 ∧ atI [V.int 2, V.int 3, V.int (m : Int)] ((way : Int) - 1) = some (.int (j : Int)) := by
          rcases hw2 with rfl | rfl | rfl
          · exact ⟨2, by decide, by decide, rfl⟩
          · exact ⟨3, by decide, by decide, rfl⟩
          · exact ⟨m, hm1, hm2, rfl⟩
        refine ⟨p, _, _, _, rfl, rfl, SqL.of upd_same, hat, a, j, rfl, dP.same (same_upd hp), by omega, log2_small (by omega), fun t x y h0 h1 hy0 hy1 => ⟨rfl, _, rfl, ?_⟩⟩
        have nDp : D ≠ p := ne_of_none eP hp
        have o3 := (oP.trans (.of (.of (same_upd (o := HO.lst [V.int 2, V.int 3, V.int (m : Int)]) hp)))).trans (.off (Off.upd a _ (.lst [.int x, .int y])))
        have d3 := DeckAt.upd (upd H' p (.lst [V.int 2, V.int 3, V.int (m : Int)])) a x hy0 hy1
        have e3 : upd (upd H' p (.lst [V.int 2, V.int 3, V.int (m : Int)])) a (.lst [.int x, .int y]) D = some (.lst (intsV r)) := by rw [upd_ne nDa, upd_ne nDp]; exact eP
        generalize upd (upd H' p (.lst [V.int 2, V.int 3, V.int (m : Int)])) a (.lst [.int x, .int y]) = H3 at o3 d3 e3
        refine ite2 (fun _ => ?_) (fun _ => ⟨_, r, rfl, o3, d3, ⟨hA.1, fun k hk => Nat.lt_succ_of_lt (hA.2 k hk)⟩, e3⟩)
        have hlen := asc_len hA
        refine ⟨_, rfl, .inl ⟨rfl, _, SqL.of e3⟩, _, rfl, D, _, _, rfl, rfl, e3, (by rw [intsV_len]; exact Nat.lt_of_lt_of_le (by omega : r.length < 1000) (by decide)), some (.int (0 + (i : Int))), r ++ [i], rfl, o3.put nH, deck_put d3 nDa, asc_snoc hA him, ?_⟩
        rw [upd_same, ← intsV_app, Int.zero_add]
        rfl
      · obtain ⟨z, r, rfl, oP, dP, hA, eP⟩ := hP
        rw [en] at hA
        refine ⟨_, rfl, (by show 0 ≤ sizeLine; decide), fun p hp => ⟨_, _, dpW r (SqL.of (same_upd hp _ _ eP)), .lst (SqL.of upd_same) .nil, nats_shaped r, by decide, _, rfl, ?_⟩⟩
        have o3 := oP.trans (.of (.of (same_upd (o := HO.lst []) hp)))
        have d3 := dP.same (same_upd (o := HO.lst []) hp)
        have e3 := same_upd (o := HO.lst []) hp _ _ eP
        generalize upd H' p (.lst []) = H3 at o3 d3 e3
        cases r with
        | nil =>
          refine iteF ⟨_, rfl, _, rfl, a, m, rfl, d3, by omega, log2_small (by omega), fun t x y h0 h1 hy0 hy1 => ⟨(by show 1 ≤ sizeLine; decide), fun p hp => ?_⟩⟩
          obtain ⟨c, rfl⟩ := Int.eq_ofNat_of_zero_le h0
          have d4 := DeckAt.upd H3 a x hy0 hy1
          have o4 := o3.trans (.off (Off.upd a H3 (.lst [.int x, .int y])))
          exact q _ p [c] (o4.trans (.of (.of (same_upd hp)))) (d4.same (same_upd hp)) ⟨List.cons_ne_nil _ _, List.pairwise_singleton _ _, fun k hk => by rw [List.mem_singleton.mp hk]; omega⟩ upd_same
        | cons k r =>
          exact iteT ⟨_, rfl, D, _, rfl, .inl ⟨SqL.of e3, fun p hp => q _ p (k :: r) (o3.trans (.of (.of (same_upd hp)))) (d3.same (same_upd hp)) ⟨by simp, hA⟩ upd_same⟩⟩
theorem ok__law_page (T : Top K mg) (c__law_take : CalD P w K mg base 1 "_law_take" s__law_take ["deck", "many"] (spTake)) (c__law_cells : CalD P w K mg base 2 "_law_cells" s__law_cells ["deck", "many"] (spCells K)) : CalD P w K mg base 3 "_law_page" s__law_page ["deck", "most"] (spPage K) := by
  refine cal_mk T.d__law_page sc__law_page (fun _ _ _ _ _ _ us hl => match us, hl with | [_, _], _ => rfl) (fun vs H Q E h => ?_) (fun f cdv A outer s H vs Q E hr h => ?_)
  · obtain ⟨a, most, rfl, hD, hm1, hm2, q⟩ := h
    rfl
  · obtain ⟨a, most, rfl, hD, hm1, hm2, q⟩ := h
    refine ⟨_, (pss_cons (ps_par (i := 2) (j := 3) rfl sc__law_page.nd rfl rfl (by decide) rfl rfl (pa_cons (pe_op op_add pe_int (pe_f c__law_take hr (by omega) (by rfl) (pa_cons (pv 0) (pa_cons (pv 1) pa_nil)))) (pa_cons (pe_lst pa_nil) pa_nil)) (by rfl))
  (pss_cons (ps_for PassesOwn.never rfl (pi_range1 (by rfl) T.z_range (pa_cons (pe_f c__law_take hr (by omega) (by rfl) (pa_cons (pv 0) (pa_cons (pe_op op_add (pv 1) pe_int) pa_nil))) pa_nil)) (pg_name (i := 4) sc__law_page.nd rfl (Or.inl rfl)) (pss_cons (ps_set (i := 5) sc__law_page.nd rfl (Or.inl rfl) (pe_f c__law_take hr (by omega) (by rfl) (pa_cons (pv 0) (pa_cons pe_int pa_nil))))
  (pss_one (ps_if (PW.pt (pw_and (pt_cmpR op_eq (pv 5) pe_int (nomark _)) (pw_and1 (pt_cmpR (op_neD hr.units) (pv 3) (pe_lst pa_nil) (nomark _))))) (pss_one (ps_expr (pe_bm PySem.F.plainAttrs_list PySem.F.slot_list_append PySem.F.type_list_append mt_append (pv 3) (pa_cons (pe_ix ix_list (pv 3) (pe_f c__law_take hr (by omega) (by rfl) (pa_cons (pv 0) (pa_cons (pe_callB call_len_seq (by rfl) T.z_len PySem.boot_len (pa_cons (pv 3) pa_nil)) pa_nil))) (fun _ _ => rfl)) pa_nil)))) (pss_one (ps_if (pt_cmpR op_eq (pv 5) pe_int (nomark _)) (pss_one (ps_expr (pe_bm PySem.F.plainAttrs_list PySem.F.slot_list_append PySem.F.type_list_append mt_append (pv 3) (pa_cons (pe_tupRg rfl (by rfl) T.z_tuple (prg_1 (by rfl) T.z_range (pv 2))) pa_nil)))) (pss_one (ps_expr (pe_bm PySem.F.plainAttrs_list PySem.F.slot_list_append PySem.F.type_list_append mt_append (pv 3) (pa_cons (pe_f c__law_cells hr (by omega) (by rfl) (pa_cons (pv 0) (pa_cons (pv 2) pa_nil))) pa_nil))))))))))
  (pss_one (ps_ret (pe_tup (pa_cons (pv 2) (pa_cons (pe_callTy call_tuple_of (by rfl) T.z_tuple (by decide +kernel) (pa_cons (pv 3) pa_nil)) pa_nil))))))), ?_⟩
    refine ⟨_, rfl, _, rfl, a, most, rfl, hD, by omega, log2_small (by omega), fun t x y h0 h1 hy0 hy1 => ⟨1, _, rfl, rfl, (by show 0 ≤ sizeLine; decide), fun R nR => ⟨_, _, rfl, ?_⟩⟩⟩
    obtain ⟨m', rfl⟩ := Int.eq_ofNat_of_zero_le h0
    have em : ((1 : Int) + (m' : Int)) = ((m' + 1 : Nat) : Int) := by omega
    have hmm : m' + 1 ≤ most := by omega
    have o0 := OffG.off (Off.upd a H (.lst [.int x, .int y]))
    have d0 := DeckAt.upd H a x hy0 hy1
    obtain ⟨nRa, nH⟩ := new_at o0 d0 nR
    have o1 := o0.trans (.of (.of (same_upd (o := HO.lst []) nR)))
    have d1 := d0.same (same_upd (o := HO.lst []) nR)
    have e1 : upd (upd H a (.lst [.int x, .int y])) R (.lst []) R = some (.lst []) := upd_same
    generalize upd (upd H a (.lst [.int x, .int y])) R (.lst []) = H1 at o1 d1 e1
    clear o0 d0 nR h0 h1
    show tSeq _ _ _ [some (V.ref a), some (V.int (most : Int)), some (V.int ((1 : Int) + (m' : Int))), some (V.ref R), none, none] H1
    rw [em]
    have hm0 : 1 ≤ m' + 1 := Nat.succ_le_succ (Nat.zero_le _)
    generalize m' + 1 = m at hmm hm0
    refine ⟨_, rfl, _, rfl, _, _, rfl, rfl, a, (most : Int) + 1, rfl, d1, by omega, log2_small (by omega), fun t x y h0 h1 hy0 hy1 => ?_⟩
    obtain ⟨n, rfl⟩ := Int.eq_ofNat_of_zero_le h0
    have hn : n ≤ most := by omega
    have o2 := o1.trans (.off (Off.upd a H1 (.lst [.int x, .int y])))
    have d2 := DeckAt.upd H1 a x hy0 hy1
    have e2 : upd H1 a (.lst [.int x, .int y]) R = some (.lst []) := by rw [upd_ne nRa]; exact e1
    generalize upd H1 a (.lst [.int x, .int y]) = H2 at o2 d2 e2
    clear o1 d1 e1
    refine ⟨(n : Int), rfl, by omega, by omega, ?_⟩
    have en : ((n : Nat) : Int).toNat = n := Int.toNat_natCast _
    refine for_range (lo := 0) (n := ((n : Nat) : Int).toNat) (fun i σ H' => ∃ (z z2 : Option V) (rows : List (List Nat)) (xs : List V), σ = [some (.ref a), some (.int (most : Int)), some (.int (m : Int)), some (.ref R), z, z2] ∧ OffG a H H' ∧ DeckAt H' a ∧ rows.length ≤ i ∧ (∀ r ∈ rows, RowOk m r) ∧ H' R = some (.lst xs) ∧ DpAll K H' xs (rows.map rowD))
      ⟨none, none, [], [], rfl, o2, d2, Nat.le_refl _, (fun _ h => absurd h List.not_mem_nil), e2, .nil⟩ (fun i σ H' hi hP => ?_) (fun σ H' hP => ?_)
    · obtain ⟨z, z2, rows, xs, rfl, oP, dP, hlen, hrows, eP, hdp⟩ := hP
      have hin : i < n := by omega
      have hxl : xs.length = rows.length := (DpAll.length _ hdp).trans (List.length_map _)
      refine ⟨_, rfl, a, 8, rfl, dP, by decide, log2_small (by decide), fun t x y h0 h1 hy0 hy1 => ?_⟩
      obtain ⟨way, rfl⟩ := Int.eq_ofNat_of_zero_le h0
      have o3 := oP.trans (.off (Off.upd a H' (.lst [.int x, .int y])))
      have d3 := DeckAt.upd H' a x hy0 hy1
      have t3 := Tup.deck (OffG.off (Off.upd a H' (.lst [.int x, .int y]))) dP
      have e3 : upd H' a (.lst [.int x, .int y]) R = some (.lst xs) := by rw [upd_ne nRa]; exact eP
      have p3 := t3.rows hdp
      generalize upd H' a (.lst [.int x, .int y]) = H3 at o3 d3 e3 p3
      clear oP dP eP hdp t3 h0 h1
      -- one more row
      have more : ∀ (H4 : Hp) (xs' : List V) (r : List Nat) (v : V), OffG a H H4 → DeckAt H4 a → H4 R = some (.lst xs) → DpAll K H4 xs (rows.map rowD) → RowOk m r → Dp K H4 v (rowD r) →
          ∃ (z z2 : Option V) (rows' : List (List Nat)) (xs' : List V), ([some (.ref a), some (.int (most : Int)), some (.int (m : Int)), some (.ref R), some (.int (0 + (i : Int))), some (.int (way : Int))] : L2.St) = [some (.ref a), some (.int (most : Int)), some (.int (m : Int)), some (.ref R), z, z2] ∧ OffG a H (upd H4 R (.lst (xs ++ [v]))) ∧ DeckAt (upd H4 R (.lst (xs ++ [v]))) a ∧ rows'.length ≤ i + 1 ∧ (∀ r ∈ rows', RowOk m r) ∧ upd H4 R (.lst (xs ++ [v])) R = some (.lst xs') ∧ DpAll K (upd H4 R (.lst (xs ++ [v]))) xs' (rows'.map rowD) := fun H4 xs' r v o4 d4 e4 p4 hr4 hv => by
        have t4 := Tup.put (xs ++ [v]) e4
        refine ⟨_, _, rows ++ [r], xs ++ [v], rfl, o4.put nH, deck_put d4 nRa, by rw [List.length_append]; exact Nat.succ_le_succ hlen, fun r' hr' => ?_, upd_same, ?_⟩
        · rcases List.mem_append.mp hr' with h | h
          · exact hrows r' h
          · rw [List.mem_singleton.mp h]; exact hr4
        · rw [List.map_append]
          exact DpAll.app (.cons (t4.row hv) .nil) (t4.rows p4)
      have few : ∀ {H4 : Hp}, H4 R = some (.lst xs) → xs.length < sizeLine := fun _ => by
        rw [hxl]
        exact Nat.lt_of_le_of_lt (by omega : rows.length ≤ 100) (by decide)
      refine ⟨_, rfl, rfl, _, rfl, ite2 (fun hw => ?_) (fun hw => iteF ?els1)⟩
      · refine ⟨_, rfl, (by show 0 ≤ sizeLine; decide), fun pe hpe => ⟨.list (rows.map rowD), .list [], ?_, .lst (SqL.of upd_same) .nil, rows_shaped rows, by decide, _, rfl, ?_⟩⟩
        · exact .lst (SqL.of (same_upd hpe _ _ e3)) (DpAll.same (same_upd hpe) _ _ p3)
        have o4 := o3.trans (.of (.of (same_upd (o := HO.lst []) hpe)))
        have d4 := d3.same (same_upd (o := HO.lst []) hpe)
        have e4 := same_upd (o := HO.lst []) hpe _ _ e3
        have p4 := DpAll.same (same_upd (o := HO.lst []) hpe) _ _ p3
        generalize upd H3 pe (.lst []) = H4 at o4 d4 e4 p4
        clear o3 d3 e3 p3 hpe
        cases rows with
        | nil =>
            refine iteF ?_
            refine ⟨_, rfl, rfl, _, rfl, ite2 (fun h1 => ?_) (fun h1 => ?_)⟩
            · refine ⟨_, rfl, .inl ⟨rfl, _, SqL.of e4⟩, _, rfl, _, rfl, RgOk.of_le (by omega) (by omega) (by omega) (by omega), fun pt hpt => ?_⟩
              rw [rgV_nats]
              have g5 := Gro.of (same_upd (o := HO.tup (intsV (List.range m))) hpt)
              refine ⟨R, _, _, rfl, rfl, g5.at e4, few (g5.at e4), more _ xs (List.range m) (V.ref pt) (o4.trans (.of g5)) (d4.gro g5) (g5.at e4) (DpAll.gro g5 _ _ p4) ⟨?_, asc_range m⟩ (row_mk (SqT.of upd_same))⟩
              intro z
              have z2 := congrArg List.length z
              rw [List.length_range] at z2
              exact absurd z2 (by show ¬ m = 0; omega)
            · refine ⟨_, rfl, .inl ⟨rfl, _, SqL.of e4⟩, _, rfl, _, rfl, a, m, rfl, d4, hm0, by omega, fun H5 pc r o5 d5 hr5 ep => ?_⟩
              have t5 := Tup.deck o5 d4
              have e5 := o5.at nRa e4
              exact ⟨R, _, _, rfl, rfl, e5, few e5, more _ xs r (V.ref pc) (o4.trans o5) d5 e5 (t5.rows p4) hr5 (row_mk (SqT.of ep))⟩
        | cons r0 rows0 =>
          refine iteT ?_
          generalize hrr : r0 :: rows0 = rows at *
          have pos : 1 ≤ rows.length := by rw [← hrr]; exact Nat.succ_le_succ (Nat.zero_le _)
          refine ⟨_, rfl, .inl ⟨rfl, _, SqL.of e4⟩, _, rfl, _, rfl, _, rfl, R, _, rfl, .inl (SqL.of e4), a, (xs.length : Int), rfl, d4, by omega, log2_small (by omega), fun t x y h0 h1 hy0 hy1 => ?_⟩
          obtain ⟨j, rfl⟩ := Int.eq_ofNat_of_zero_le h0
          have o5 := o4.trans (.off (Off.upd a H4 (.lst [.int x, .int y])))
          have d5 := DeckAt.upd H4 a x hy0 hy1
          have t5 := Tup.deck (OffG.off (Off.upd a H4 (.lst [.int x, .int y]))) d4
          have e5 : upd H4 a (.lst [.int x, .int y]) R = some (.lst xs) := by rw [upd_ne nRa]; exact e4
          have p5 := t5.rows p4
          generalize upd H4 a (.lst [.int x, .int y]) = H5 at o5 d5 e5 p5
          have hj : j < rows.length := by omega
          obtain ⟨v, ev, dv⟩ := DpAll.get _ p5 (i := j) (d := rowD rows[j]) (by rw [List.getElem?_map, List.getElem?_eq_getElem hj]; rfl)
          exact ⟨R, xs, _, v, rfl, rfl, SqL.of e5, atI_nat ev, R, _, _, rfl, rfl, e5, few e5, more H5 xs rows[j] v o5 d5 e5 p5 (hrows _ (List.getElem_mem hj)) dv⟩
      case els1 =>
        refine ⟨_, rfl, rfl, _, rfl, ite2 (fun h1 => ?_) (fun h1 => ?_)⟩
        · refine ⟨_, rfl, .inl ⟨rfl, _, SqL.of e3⟩, _, rfl, _, rfl, RgOk.of_le (by omega) (by omega) (by omega) (by omega), fun pt hpt => ?_⟩
          rw [rgV_nats]
          have g5 := Gro.of (same_upd (o := HO.tup (intsV (List.range m))) hpt)
          refine ⟨R, _, _, rfl, rfl, g5.at e3, few (g5.at e3), more _ xs (List.range m) (V.ref pt) (o3.trans (.of g5)) (d3.gro g5) (g5.at e3) (DpAll.gro g5 _ _ p3) ⟨?_, asc_range m⟩ (row_mk (SqT.of upd_same))⟩
          intro z
          have z2 := congrArg List.length z
          rw [List.length_range] at z2
          exact absurd z2 (by show ¬ m = 0; omega)
        · refine ⟨_, rfl, .inl ⟨rfl, _, SqL.of e3⟩, _, rfl, _, rfl, a, m, rfl, d3, hm0, by omega, fun H5 pc r o5 d5 hr5 ep => ?_⟩
          have t5 := Tup.deck o5 d3
          have e5 := o5.at nRa e3
          exact ⟨R, _, _, rfl, rfl, e5, few e5, more _ xs r (V.ref pc) (o3.trans o5) d5 e5 (t5.rows p3) hr5 (row_mk (SqT.of ep))⟩
    · obtain ⟨z, z2, rows, xs, rfl, oP, dP, hlen, hrows, eP, hdp⟩ := hP
      rw [en] at hlen
      refine ⟨_, rfl, _, rfl, R, _, rfl, .inl ⟨SqL.of eP, fun p1 hp1 => ⟨(by show 2 ≤ sizeLine; decide), fun p2 hp2 => ?_⟩⟩⟩
      have g1 := Gro.of (same_upd (o := HO.tup xs) hp1)
      have g2 := Gro.of (same_upd (o := HO.tup [V.int (m : Int), V.ref p1]) hp2)
      exact q _ p2 m rows ((oP.trans (.of g1)).trans (.of g2)) ((dP.gro g1).gro g2) ⟨hm0, by omega, by omega, hrows⟩ hmm (by omega) (page_mk (SqT.of upd_same) (g2.tupS (SqT.of upd_same)) (DpAll.gro (g1.trans g2) _ _ hdp))
theorem ok__law_lot (T : Top K mg) (c__law_take : CalD P w K mg base 1 "_law_take" s__law_take ["deck", "many"] (spTake)) : CalD P w K mg base 2 "_law_lot" s__law_lot ["deck", "page"] (spLot K) := by
  refine cal_mk T.d__law_lot sc__law_lot (fun _ _ _ _ _ _ us hl => match us, hl with | [_, _], _ => rfl) (fun vs H Q E h => ?_) (fun f cdv A outer s H vs Q E hr h => ?_)
  · obtain ⟨a, x, m, rows, rfl, hD, hx, hn, q⟩ := h
    rfl
  · obtain ⟨a, x, m, rows, rfl, hD, hx, hn, q⟩ := h
    refine ⟨_, (pss_cons (ps_set (i := 2) sc__law_lot.nd rfl (Or.inr rfl) (pe_f c__law_take hr (by omega) (by rfl) (pa_cons (pv 0) (pa_cons pe_int pa_nil))))
  (pss_cons (ps_if (pt_cmpR op_eq (pv 2) pe_int (nomark _)) (pss_one (ps_ret (pe_tupRg rfl (by rfl) T.z_tuple (prg_1 (by rfl) T.z_range (pe_callB call_len_seq (by rfl) T.z_len PySem.boot_len (pa_cons (pe_ix ix_tup (pv 1) pe_int (fun _ _ => rfl)) pa_nil)))))) pss_nil)
  (pss_one (ps_ret (pe_callTy call_tuple_of (by rfl) T.z_tuple (by decide +kernel) (pa_cons (pe_lc (own := [("key", 3)]) (g := gName 3) rfl sc__law_lot.nd (pi_range1 (by rfl) T.z_range (pa_cons (pe_callB call_len_seq (by rfl) T.z_len PySem.boot_len (pa_cons (pe_ix ix_tup (pv 1) pe_int (fun _ _ => rfl)) pa_nil)) pa_nil)) (blkOk_by (own := [("key", 3)]) (N := N__law_lot) (sc := defScope s__law_lot) (by decide +kernel)) (fun _ _ _ _ _ => pg_name (i := 3) sc__law_lot.nd rfl (Or.inl rfl)) (fun _ _ _ _ _ => (pts_one (pt_cmpR op_eq (pe_f c__law_take hr (by omega) (by rfl) (pa_cons (pv 0) (pa_cons (pe_ix (ix_list_at K rfl) (pe_lst (pa_cons pe_int (pa_cons pe_int (pa_cons pe_int pa_nil)))) (pe_op op_sub (pv 2) pe_int) (fun _ _ => rfl)) pa_nil))) pe_int (nomark _)))) (fun _ _ _ _ _ => (pv 3))) pa_nil)))))), ?_⟩
    obtain ⟨A1, B1, xs, rfl, hp1, hp2, hp3⟩ := page_inv hx
    have hl : xs.length = rows.length := (DpAll.length _ hp3).trans (List.length_map _)
    refine ⟨_, rfl, a, 4, rfl, hD, by decide, log2_small (by decide), fun t x y h0 h1 hy0 hy1 => ?_⟩
    obtain ⟨way, rfl⟩ := Int.eq_ofNat_of_zero_le h0
    have o1 := OffG.off (Off.upd a H (.lst [.int x, .int y]))
    have d1 := DeckAt.upd H a x hy0 hy1
    have t1 := Tup.deck o1 hD
    generalize upd H a (.lst [.int x, .int y]) = H1 at o1 d1 t1
    refine ⟨_, rfl, rfl, _, rfl, ite2 (fun hw => ?_) (fun hw => ?_)⟩
    · refine ⟨_, rfl, A1, _, 1, .ref B1, rfl, rfl, t1.sqt hp1, rfl, B1, _, rfl, .inr (t1.sqt hp2), _, rfl, RgOk.of_le (by omega) (by omega) (by omega) (by omega), fun p hp => ?_⟩
      rw [rgV_nats, hl]
      exact q _ p (List.range rows.length) (o1.trans (.of (.of (same_upd hp)))) (d1.same (same_upd hp)) (asc_range _) (SqT.of upd_same)
    · have hw2 : way = 1 ∨ way = 2 ∨ way = 3 := by
        have : way ≠ 0 := fun z => hw (decide_eq_true (by rw [z]; rfl))
        omega
      refine ⟨_, rfl, A1, _, 1, .ref B1, rfl, rfl, t1.sqt hp1, rfl, B1, _, rfl, .inr (t1.sqt hp2), _, rfl, by omega, by omega, fun D hDn => ?_⟩
      rw [hl]
      obtain ⟨nDa, nH⟩ := new_at o1 d1 hDn
      have en : ((rows.length : Nat) : Int).toNat = rows.length := Int.toNat_natCast _
      refine lc_range (lo := 0) (n := ((rows.length : Nat) : Int).toNat) (fun i H' => ∃ r : List Nat, OffG a H H' ∧ DeckAt H' a ∧ Asc i r ∧ H' D = some (.lst (intsV r))) ⟨[], o1.trans (.of (.of (same_upd hDn))), d1.same (same_upd hDn), ⟨.nil, fun _ h => by cases h⟩, upd_same⟩ (fun i H' hi hP => ?_) (fun H' hP => ?_)
      · obtain ⟨r, oP, dP, hA, eP⟩ := hP
        have him : i < rows.length := by omega
        refine ⟨rfl, _, rfl, (by show 3 ≤ sizeLine; decide), fun p hp => ⟨_, rfl, _, _, rfl, rfl, ?_⟩⟩
        obtain ⟨j, hj1, hj2, hat⟩ : ∃ j : Nat, 1 ≤ j ∧ j ≤ 1000 ∧ atI [V.int 2, V.int 2, V.int 4] ((way : Int) - 1) = some (.int (j : Int)) := by
          rcases hw2 with rfl | rfl | rfl
          · exact ⟨2, by decide, by decide, rfl⟩
          · exact ⟨2, by decide, by decide, rfl⟩
          · exact ⟨4, by decide, by decide, rfl⟩
        refine ⟨p, _, _, _, rfl, rfl, SqL.of upd_same, hat, a, j, rfl, dP.same (same_upd hp), by omega, log2_small (by omega), fun t x y h0 h1 hy0 hy1 => ⟨rfl, _, rfl, ?_⟩⟩
        have nDp : D ≠ p := ne_of_none eP hp
        have o3 := (oP.trans (.of (.of (same_upd (o := HO.lst [V.int 2, V.int 2, V.int 4]) hp)))).trans (.off (Off.upd a _ (.lst [.int x, .int y])))
        have d3 := DeckAt.upd (upd H' p (.lst [V.int 2, V.int 2, V.int 4])) a x hy0 hy1
        have e3 : upd (upd H' p (.lst [V.int 2, V.int 2, V.int 4])) a (.lst [.int x, .int y]) D = some (.lst (intsV r)) := by rw [upd_ne nDa, upd_ne nDp]; exact eP
        generalize upd (upd H' p (.lst [V.int 2, V.int 2, V.int 4])) a (.lst [.int x, .int y]) = H3 at o3 d3 e3
        refine ite2 (fun _ => ?_) (fun _ => ⟨r, o3, d3, ⟨hA.1, fun k hk => Nat.lt_succ_of_lt (hA.2 k hk)⟩, e3⟩)
        have hlen := asc_len hA
        refine ⟨_, rfl, _, e3, (by rw [intsV_len]; exact Nat.lt_of_lt_of_le (by omega : r.length < 1000) (by decide)), r ++ [i], o3.put nH, deck_put d3 nDa, asc_snoc hA him, ?_⟩
        rw [upd_same, ← intsV_app, Int.zero_add]
        rfl
      · obtain ⟨r, oP, dP, hA, eP⟩ := hP
        rw [en] at hA
        exact ⟨D, _, rfl, .inl ⟨SqL.of eP, fun p hp => q _ p r (oP.trans (.of (.of (same_upd hp)))) (dP.same (same_upd hp)) hA (SqT.of upd_same)⟩⟩
theorem ok__law_right (T : Top K mg) (c__law_page : CalD P w K mg base 3 "_law_page" s__law_page ["deck", "most"] (spPage K)) (c__law_take : CalD P w K mg base 1 "_law_take" s__law_take ["deck", "many"] (spTake)) (c__law_cells : CalD P w K mg base 2 "_law_cells" s__law_cells ["deck", "many"] (spCells K)) (c_with_key : CalD P w K mg base 6 "with_key" s_with_key ["book", "row"] (spWithKey K)) (c_is_book : CalD P w K mg base 4 "is_book" s_is_book ["told"] (spIsBook K)) (c_without_key : CalD P w K mg base 6 "without_key" s_without_key ["book", "key"] (spWithoutKey K)) (c__law_same : CalD P w K mg base 7 "_law_same" s__law_same ["found", "due"] (spSame K 6)) (c__law_lot : CalD P w K mg base 2 "_law_lot" s__law_lot ["deck", "page"] (spLot K)) (c_part : CalD P w K mg base 6 "part" s_part ["book", "lot"] (spPart K)) : CalG P w K mg base 8 "_law_right" s__law_right ["deck"] (spTurn K tf) := by
  refine calG_mk T.d__law_right sc__law_right (fun _ _ _ _ _ _ us hl => match us, hl with | [_], _ => rfl) (fun vs H Q E h => ?_) (fun f cdv A outer s H vs Q E hgd hr h => ?_)
  · obtain ⟨a, rfl, hD, hT, q⟩ := h
    rfl
  · obtain ⟨a, rfl, hD, hT, q⟩ := h
    refine ⟨_, (pss_cons (ps_set (i := 1) sc__law_right.nd rfl (Or.inl rfl) (pe_f c__law_page hr (by omega) (by rfl) (pa_cons (pv 0) (pa_cons (pe_ix ix_list (pe_lst (pa_cons pe_int (pa_cons pe_int (pa_cons pe_int pa_nil)))) (pe_f c__law_take hr (by omega) (by rfl) (pa_cons (pv 0) (pa_cons pe_int pa_nil))) (fun _ _ => rfl)) pa_nil))))
  (pss_cons (ps_asg (pv 1) (pg_tup rfl (pgs_cons (pg_name (i := 2) sc__law_right.nd rfl (Or.inl rfl)) (pgs_cons (pg_name (i := 3) sc__law_right.nd rfl (Or.inr rfl)) pgs_nil))))
  (pss_cons (ps_set (i := 4) sc__law_right.nd rfl (Or.inr rfl) (pe_f c__law_cells hr (by omega) (by rfl) (pa_cons (pv 0) (pa_cons (pv 2) pa_nil))))
  (pss_cons (ps_set (i := 5) sc__law_right.nd rfl (Or.inl rfl) (pe_op op_cat (pe_callTy call_list_of (by rfl) T.z_list (by decide +kernel) (pa_cons (pv 4) pa_nil)) (pe_lc (own := [("turn", 15)]) (g := gName 15) rfl sc__law_right.nd (pi_range1 (by rfl) T.z_range (pa_cons (pe_f c__law_take hr (by omega) (by rfl) (pa_cons (pv 0) (pa_cons pe_int pa_nil))) pa_nil)) (blkOk_by (own := [("turn", 15)]) (N := N__law_right) (sc := defScope s__law_right) (by decide +kernel)) (fun _ _ _ _ _ => pg_name (i := 15) sc__law_right.nd rfl (Or.inl rfl)) (fun _ _ _ _ _ => pts_nil) (fun _ _ _ _ _ => (pe_ix (ix_tup_at K rfl) (pv 4) (pe_f c__law_take hr (by omega) (by rfl) (pa_cons (pv 0) (pa_cons (pe_callB (call_len_seq_at K rfl) (by rfl) T.z_len PySem.boot_len (pa_cons (pv 4) pa_nil)) pa_nil))) (fun _ _ => rfl))))))
  (C8.pss_cut (ps_if (pt_cmpR op_eq (pe_f c__law_take hr (by omega) (by rfl) (pa_cons (pv 0) (pa_cons pe_int pa_nil))) pe_int (nomark _)) (pss_one (ps_set (i := 5) sc__law_right.nd rfl (Or.inl rfl) (pe_revL (pv 5)))) pss_nil)
  (pss_cons (ps_par (i := 6) (j := 7) rfl sc__law_right.nd rfl rfl (by decide) rfl rfl (pa_cons (pe_ix ix_list (pe_lst (pa_cons (pv 5) (pa_cons (pe_callTy call_tuple_of (by rfl) T.z_tuple (by decide +kernel) (pa_cons (pv 5) pa_nil)) pa_nil))) (pe_f c__law_take hr (by omega) (by rfl) (pa_cons (pv 0) (pa_cons pe_int pa_nil))) (fun _ _ => rfl)) (pa_cons (pe_tup (pa_cons (pv 2) (pa_cons (pe_op op_catA (pv 3) (pe_tup (pa_cons (pv 4) pa_nil))) pa_nil))) pa_nil)) (by rfl))
  (pss_cons (ps_set (i := 8) sc__law_right.nd rfl (Or.inl rfl) (pe_callB (call_reprG hgd hr) (by rfl) T.z_repr (by decide +kernel) (pa_cons (pv 6) pa_nil)))
  (pss_cons (ps_set (i := 9) sc__law_right.nd rfl (Or.inl rfl) (pe_lst (pa_cons (pe_f c_with_key hr (by omega) (by rfl) (pa_cons (pv 1) (pa_cons (pv 6) pa_nil))) (pa_cons (pe_k0 ["row", "book"] [1, 0] (fun _ _ _ _ _ _ ws hl => match ws, hl with | [_, _], _ => rfl) c_with_key hr (by omega) (by rfl) (pk_cons (pv 6) (pk_cons (pv 1) pk_nil))) (pa_cons (pe_f c_is_book hr (by omega) (by rfl) (pa_cons (pv 7) pa_nil)) (pa_cons (pe_f c_without_key hr (by omega) (by rfl) (pa_cons (pv 7) (pa_cons (pe_callB call_len_seq (by rfl) T.z_len PySem.boot_len (pa_cons (pv 3) pa_nil)) pa_nil))) pa_nil))))))
  (pss_cons (ps_if (PW.pt (pw_or (pt_not (pt_val (pe_f c__law_same hr (by omega) (by rfl) (pa_cons (pv 9) (pa_cons (pe_lst (pa_cons (pv 7) (pa_cons (pv 7) (pa_cons pe_bl (pa_cons (pv 1) pa_nil))))) pa_nil))))) (pw_or1 (pt_cmpR op_ne (pe_callB (call_reprG hgd hr) (by rfl) T.z_repr (by decide +kernel) (pa_cons (pv 6) pa_nil)) (pv 8) (nomark _))))) (pss_one (ps_ret pe_bl)) pss_nil)
  (pss_cons (ps_set (i := 10) sc__law_right.nd rfl (Or.inr rfl) (pe_f c__law_lot hr (by omega) (by rfl) (pa_cons (pv 0) (pa_cons (pv 1) pa_nil))))
  (pss_cons (ps_set (i := 7) sc__law_right.nd rfl (Or.inl rfl) (pe_tup (pa_cons (pv 2) (pa_cons (pe_callTy call_tuple_of (by rfl) T.z_tuple (by decide +kernel) (pa_cons (pe_lc (own := [("key", 11)]) (g := gName 11) rfl sc__law_right.nd (pi_tup (pv 10)) (blkOk_by (own := [("key", 11)]) (N := N__law_right) (sc := defScope s__law_right) (by decide +kernel)) (fun _ _ _ _ _ => pg_name (i := 11) sc__law_right.nd rfl (Or.inl rfl)) (fun _ _ _ _ _ => pts_nil) (fun _ _ _ _ _ => (pe_ix (ix_tup_at K rfl) (pv 3) (pv 11) (fun _ _ => rfl)))) pa_nil)) pa_nil))))
  (pss_cons (ps_if (pt_not (pt_val (pe_f c__law_same hr (by omega) (by rfl) (pa_cons (pe_lst (pa_cons (pe_f c_part hr (by omega) (by rfl) (pa_cons (pv 1) (pa_cons (pv 10) pa_nil))) (pa_cons (pe_k0 ["lot", "book"] [1, 0] (fun _ _ _ _ _ _ ws hl => match ws, hl with | [_, _], _ => rfl) c_part hr (by omega) (by rfl) (pk_cons (pv 10) (pk_cons (pv 1) pk_nil))) (pa_cons (pe_f c_is_book hr (by omega) (by rfl) (pa_cons (pv 7) pa_nil)) pa_nil)))) (pa_cons (pe_lst (pa_cons (pv 7) (pa_cons (pv 7) (pa_cons pe_bl pa_nil)))) pa_nil))))) (pss_one (ps_ret pe_bl)) pss_nil)
  (pss_cons (ps_set (i := 12) sc__law_right.nd rfl (Or.inl rfl) (pe_f c__law_lot hr (by omega) (by rfl) (pa_cons (pv 0) (pa_cons (pv 7) pa_nil))))
  (pss_cons (ps_set (i := 13) sc__law_right.nd rfl (Or.inl rfl) (pe_callTy call_tuple_of (by rfl) T.z_tuple (by decide +kernel) (pa_cons (pe_lc (own := [("at", 16)]) (g := gName 16) rfl sc__law_right.nd (pi_tup (pv 12)) (blkOk_by (own := [("at", 16)]) (N := N__law_right) (sc := defScope s__law_right) (by decide +kernel)) (fun _ _ _ _ _ => pg_name (i := 16) sc__law_right.nd rfl (Or.inl rfl)) (fun _ _ _ _ _ => pts_nil) (fun _ _ _ _ _ => (pe_ix (ix_tup_at K rfl) (pv 10) (pv 16) (fun _ _ => rfl)))) pa_nil)))
  (pss_cons (ps_set (i := 14) sc__law_right.nd rfl (Or.inl rfl) (pe_tupRg rfl (by rfl) T.z_tuple (prg_1 (by rfl) T.z_range (pe_callB call_len_seq (by rfl) T.z_len PySem.boot_len (pa_cons (pv 3) pa_nil)))))
  (pss_cons (ps_if (pt_not (pt_val (pe_f c__law_same hr (by omega) (by rfl) (pa_cons (pe_lst (pa_cons (pe_f c_part hr (by omega) (by rfl) (pa_cons (pv 7) (pa_cons (pv 12) pa_nil))) (pa_cons (pe_f c_part hr (by omega) (by rfl) (pa_cons (pv 1) (pa_cons (pv 13) pa_nil))) pa_nil))) (pa_cons (pe_op op_rep (pe_lst (pa_cons (pe_tup (pa_cons (pv 2) (pa_cons (pe_callTy call_tuple_of (by rfl) T.z_tuple (by decide +kernel) (pa_cons (pe_lc (own := [("key", 11)]) (g := gName 11) rfl sc__law_right.nd (pi_tup (pv 13)) (blkOk_by (own := [("key", 11)]) (N := N__law_right) (sc := defScope s__law_right) (by decide +kernel)) (fun _ _ _ _ _ => pg_name (i := 11) sc__law_right.nd rfl (Or.inl rfl)) (fun _ _ _ _ _ => pts_nil) (fun _ _ _ _ _ => (pe_ix (ix_tup_at K rfl) (pv 3) (pv 11) (fun _ _ => rfl)))) pa_nil)) pa_nil))) pa_nil)) pe_int) pa_nil))))) (pss_one (ps_ret pe_bl)) pss_nil)
  (pss_cons (ps_if (pt_not (pt_val (pe_f c__law_same hr (by omega) (by rfl) (pa_cons (pe_lst (pa_cons (pe_f c_part hr (by omega) (by rfl) (pa_cons (pv 1) (pa_cons (pv 14) pa_nil))) (pa_cons (pe_f c_part hr (by omega) (by rfl) (pa_cons (pv 1) (pa_cons (pe_tup pa_nil) pa_nil))) pa_nil))) (pa_cons (pe_lst (pa_cons (pv 1) (pa_cons (pe_tup (pa_cons (pv 2) (pa_cons (pe_tup pa_nil) pa_nil))) pa_nil))) pa_nil))))) (pss_one (ps_ret pe_bl)) pss_nil)
  (pss_cons (ps_for PassesOwn.never rfl (pi_list (pe_lst (pa_cons pe_int (pa_cons (pe_op op_sub (pe_callB call_len_seq (by rfl) T.z_len PySem.boot_len (pa_cons (pv 3) pa_nil)) pe_int) (pa_cons (pe_f c__law_take hr (by omega) (by rfl) (pa_cons (pv 0) (pa_cons (pe_callB (call_max2 rfl) (by rfl) T.z_max (by decide +kernel) (pa_cons pe_int (pa_cons (pe_callB call_len_seq (by rfl) T.z_len PySem.boot_len (pa_cons (pv 3) pa_nil)) pa_nil))) pa_nil))) pa_nil))))) (pg_name (i := 11) sc__law_right.nd rfl (Or.inl rfl)) (pss_one (ps_if (PW.pt (pw_and (pt_cmpR op_le pe_int (pv 11) (nomark _)) (pw_and1 (pt_cmpR op_lt (pv 11) (pe_callB call_len_seq (by rfl) T.z_len PySem.boot_len (pa_cons (pv 3) pa_nil)) (nomark _))))) (pss_cons (ps_set (i := 7) sc__law_right.nd rfl (Or.inl rfl) (pe_tup (pa_cons (pv 2) (pa_cons (pe_op op_catA (pe_slice sl_tupA (pv 3) po_none (po_some (pv 11))) (pe_slice sl_tupA (pv 3) (po_some (pe_op op_add (pv 11) pe_int)) po_none)) pa_nil))))
  (pss_cons (ps_set (i := 9) sc__law_right.nd rfl (Or.inl rfl) (pe_lst (pa_cons (pe_f c_without_key hr (by omega) (by rfl) (pa_cons (pv 1) (pa_cons (pv 11) pa_nil))) (pa_cons (pe_k0 ["key", "book"] [1, 0] (fun _ _ _ _ _ _ ws hl => match ws, hl with | [_, _], _ => rfl) c_without_key hr (by omega) (by rfl) (pk_cons (pv 11) (pk_cons (pv 1) pk_nil))) (pa_cons (pe_f c_part hr (by omega) (by rfl) (pa_cons (pv 1) (pa_cons (pe_op op_catA (pe_slice sl_tupA (pv 14) po_none (po_some (pv 11))) (pe_slice sl_tupA (pv 14) (po_some (pe_op op_add (pv 11) pe_int)) po_none)) pa_nil))) pa_nil)))))
  (pss_one (ps_if (pt_not (pt_val (pe_f c__law_same hr (by omega) (by rfl) (pa_cons (pv 9) (pa_cons (pe_lst (pa_cons (pv 7) (pa_cons (pv 7) (pa_cons (pv 7) pa_nil)))) pa_nil))))) (pss_one (ps_ret pe_bl)) pss_nil)))) pss_nil)))
  (pss_one (ps_ret pe_bl)))))))))))))))))))), ?_⟩
    have ta : ("are_integers" : Str) ∈ tf := by decide +kernel
    have tb : ("is_book" : Str) ∈ tf := by decide +kernel
    refine ⟨_, rfl, (by show 3 ≤ sizeLine; decide), fun p1 hp1 => ?_⟩
    refine ⟨_, rfl, a, 3, rfl, hD.same (same_upd hp1), by decide, log2_small (by decide), fun t x y h0 h1 hy0 hy1 => ?_⟩
    obtain ⟨j, rfl⟩ := Int.eq_ofNat_of_zero_le h0
    obtain ⟨hL, o0⟩ := pick_l (K := K) [V.int 4, V.int 10, V.int 39] x y hD hp1
    have d0 := DeckAt.upd (upd H p1 (.lst [V.int 4, V.int 10, V.int 39])) a x hy0 hy1
    obtain ⟨m0, hm0, hm1, hat⟩ : ∃ m0 : Nat, 1 ≤ m0 ∧ m0 ≤ 39 ∧ atI [V.int 4, V.int 10, V.int 39] (j : Int) = some (.int (m0 : Int)) := by
      have h3 : j = 0 ∨ j = 1 ∨ j = 2 := by omega
      rcases h3 with rfl | rfl | rfl
      · exact ⟨4, by decide, by decide, rfl⟩
      · exact ⟨10, by decide, by decide, rfl⟩
      · exact ⟨39, by decide, by decide, rfl⟩
    refine ⟨p1, _, _, _, rfl, rfl, hL, hat, a, m0, rfl, d0, hm0, by omega, fun H1 pg m rows o1 d1 hG hmm hrr hpg => ?_⟩
    have o01 := (OffG.off o0).trans o1
    have t01 := (Tup.deck (OffG.off o0) hD).trans (Tup.deck o1 d0)
    obtain ⟨A1, B, xs, eA, hA1, hB, hxs⟩ := page_inv hpg
    have eA2 := V.ref.inj eA
    subst eA2
    have w1 : PG4 K tf a H pg B m rows H1 := ⟨o01, d1, fun x hx => t01.tg (hT x hx), hpg, xs, hB, hxs⟩
    clear hL o0 d0 hat o1 o01 t01 d1 h0 h1 hp1
    refine ⟨_, rfl, pg, _, rfl, hA1, rfl, _, _, rfl, _, _, rfl, rfl, ?_⟩
    clear hA1 hB hxs hpg
    have hm2 := hG.pos
    have hm3 := hG.few
    refine ⟨_, rfl, _, rfl, a, m, rfl, w1.deck, hm2, hm3, fun H2 pr row o2 d2 hrow er => ?_⟩
    have w2 := w1.turn o2 d2
    have sr2 : SqT K H2 pr (intsV row) := SqT.of er
    clear o2 d2 er w1
    have hrl := asc_len hrow.2
    have rpos : 1 ≤ row.length := List.length_pos_iff.mpr hrow.1
    -- cells
    refine ⟨_, rfl, pr, _, rfl, .inr sr2, fun c0 hc0 => ?_⟩
    have g3 := Gro.of (same_upd (o := HO.lst (intsV row)) hc0)
    have w3 := w2.gro g3
    have sr3 := g3.tupS sr2
    have ec0 : upd H2 c0 (.lst (intsV row)) c0 = some (.lst (intsV row)) := upd_same
    obtain ⟨nc0, _⟩ := new_at w2.off w2.deck hc0
    generalize upd H2 c0 (.lst (intsV row)) = H3 at w3 sr3 ec0
    clear g3 w2 sr2 hc0
    refine ⟨_, rfl, a, 3, rfl, w3.deck, by decide, log2_small (by decide), fun t x y h0 h1 hy0 hy1 => ?_⟩
    obtain ⟨n, rfl⟩ := Int.eq_ofNat_of_zero_le h0
    have o4 := OffG.off (Off.upd a H3 (.lst [.int x, .int y]))
    have t4 := Tup.deck o4 w3.deck
    have w4 := w3.turn o4 (DeckAt.upd H3 a x hy0 hy1)
    have sr4 := t4.sqt sr3
    have ec4 : upd H3 a (.lst [.int x, .int y]) c0 = some (.lst (intsV row)) := o4.at nc0 ec0
    generalize upd H3 a (.lst [.int x, .int y]) = H4 at w4 sr4 ec4
    clear o4 t4 w3 sr3 ec0 h0
    refine ⟨(n : Int), rfl, by omega, by omega, fun D hDn => ?_⟩
    have en : ((n : Nat) : Int).toNat = n := Int.toNat_natCast _
    obtain ⟨nDa, nDH⟩ := new_at w4.off w4.deck hDn
    have g5 := Gro.of (same_upd (o := HO.lst []) hDn)
    refine lc_range (lo := 0) (n := ((n : Nat) : Int).toNat) (fun i H' => ∃ ex : List Nat, ex.length = i ∧ (∀ k ∈ ex, k ∈ row) ∧ PG4 K tf a H pg B m rows H' ∧ SqT K H' pr (intsV row) ∧ H' c0 = some (.lst (intsV row)) ∧ H' D = some (.lst (intsV ex)))
      ⟨[], rfl, (fun _ h => absurd h List.not_mem_nil), w4.gro g5, g5.tupS sr4, g5.at ec4, upd_same⟩ (fun i H' hi hP => ?_) (fun H' hP => ?_)
    · obtain ⟨ex, hx1, hx2, wP, sP, cP, eP⟩ := hP
      refine ⟨rfl, _, rfl, _, rfl, _, rfl, pr, _, rfl, .inr sP, a, _, rfl, wP.deck, ?_, ?_, fun t x y h0 h1 hy0 hy1 => ?_⟩
      · rw [intsV_len]
        omega
      · rw [intsV_len]
        exact log2_small (by omega)
      rw [intsV_len] at h1
      obtain ⟨j, rfl⟩ := Int.eq_ofNat_of_zero_le h0
      have hj : j < row.length := by omega
      have o6 := OffG.off (Off.upd a H' (.lst [.int x, .int y]))
      have t6 := Tup.deck o6 wP.deck
      have w6 := wP.turn o6 (DeckAt.upd H' a x hy0 hy1)
      have e6 : upd H' a (.lst [.int x, .int y]) D = some (.lst (intsV ex)) := o6.at nDa eP
      have c6 : upd H' a (.lst [.int x, .int y]) c0 = some (.lst (intsV row)) := o6.at nc0 cP
      have s6 := t6.sqt sP
      generalize upd H' a (.lst [.int x, .int y]) = H6 at w6 e6 c6 s6
      refine ⟨pr, _, _, _, rfl, rfl, s6, atI_nat (intsV_get hj), _, e6, (by rw [intsV_len]; exact Nat.lt_of_lt_of_le (by omega : ex.length < 1000) (by decide)), ex ++ [row[j]], by rw [List.length_append, hx1]; rfl, fun k hk => ?_, ?_, ?_, ?_, ?_⟩
      · rcases List.mem_append.mp hk with h | h
        · exact hx2 k h
        · rw [List.mem_singleton.mp h]
          exact List.getElem_mem hj
      · have t7 := Tup.put (intsV ex ++ [V.int (row[j] : Int)]) e6
        obtain ⟨ys, r1, r2⟩ := w6.rows
        exact ⟨w6.off.put nDH, deck_put w6.deck nDa, fun x hx => t7.tg (w6.tabs x hx), t7.page w6.page, ys, t7.sqt r1, t7.rows r2⟩
      · exact (Tup.put (intsV ex ++ [V.int (row[j] : Int)]) e6).sqt s6
      · have n7 : c0 ≠ D := ne_of_none ec4 hDn
        rw [upd_ne n7]
        exact c6
      · rw [upd_same, ← intsV_app]
        rfl
    · obtain ⟨ex, hx1, hx2, w7, s7, c7, e7⟩ := hP
      rw [en] at hx1
      clear w4 sr4 ec4 hDn g5
      refine ⟨c0, D, _, _, rfl, rfl, c7, e7, (by rw [intsV_len, intsV_len]; exact Nat.le_trans (by omega : row.length + ex.length ≤ 2000) (by decide)), fun C hC => ?_⟩
      rw [intsV_app]
      obtain ⟨nCa, _⟩ := new_at w7.off w7.deck hC
      have g8 := Gro.of (same_upd (o := HO.lst (intsV (row ++ ex))) hC)
      have w8 := w7.gro g8
      have s8 := g8.tupS s7
      have e8 : upd H' C (.lst (intsV (row ++ ex))) C = some (.lst (intsV (row ++ ex))) := upd_same
      generalize upd H' C (.lst (intsV (row ++ ex))) = H8 at w8 s8 e8
      clear g8 w7 s7 c7 e7 hC
      have same0 : ∀ k, k ∈ row ++ ex ↔ k ∈ row := fun k => ⟨fun h => (List.mem_append.mp h).elim id (hx2 k), fun h => List.mem_append_left _ h⟩
      have few0 : (row ++ ex).length ≤ 42 := by
        rw [List.length_append]
        omega
      generalize row ++ ex = cells at same0 few0 e8
      refine ⟨fun σ' H' => ∃ (C : Addr) (cells : List Nat), σ' = [some (.ref a), some (.ref pg), some (.int (m : Int)), some (.ref B), some (.ref pr), some (.ref C), none, none, none, none, none, none, none, none, none, none, none] ∧ C ≠ a ∧ PG4 K tf a H pg B m rows H' ∧ SqT K H' pr (intsV row) ∧ H' C = some (.lst (intsV cells)) ∧ (∀ k, k ∈ cells ↔ k ∈ row) ∧ cells.length ≤ 42, ?_, fun σ' H' hM => ?_⟩
      · refine ⟨_, rfl, a, 2, rfl, w8.deck, by decide, log2_small (by decide), fun t x y h0 h1 hy0 hy1 => ⟨rfl, _, rfl, ?_⟩⟩
        have o9 := OffG.off (Off.upd a H8 (.lst [.int x, .int y]))
        have t9 := Tup.deck o9 w8.deck
        have w9 := w8.turn o9 (DeckAt.upd H8 a x hy0 hy1)
        have s9 := t9.sqt s8
        have e9 : upd H8 a (.lst [.int x, .int y]) C = some (.lst (intsV cells)) := o9.at nCa e8
        generalize upd H8 a (.lst [.int x, .int y]) = H9 at w9 s9 e9
        refine ite2 (fun _ => ?_) (fun _ => ⟨C, cells, rfl, nCa, w9, s9, e9, same0, few0⟩)
        refine ⟨_, rfl, C, _, rfl, SqL.of e9, fun C2 hC2 => ?_⟩
        have g10 := Gro.of (same_upd (o := HO.lst (intsV cells).reverse) hC2)
        refine ⟨C2, cells.reverse, rfl, (new_at w9.off w9.deck hC2).1, w9.gro g10, g10.tupS s9, ?_, fun k => List.mem_reverse.trans (same0 k), by rw [List.length_reverse]; exact few0⟩
        rw [upd_same]
        unfold intsV
        rw [List.map_reverse]
      · clear w8 s8 e8 same0 few0 nCa
        obtain ⟨C, cells, rfl, nCa, w9, s9, e9, same9, few9⟩ := hM
        have told : Told m cells := by
          refine ⟨fun z => ?_, fun c hc => hrow.2.2 c ((same9 c).mp hc), by omega⟩
          cases row with
          | nil => exact hrow.1 rfl
          | cons k r =>
            have := (same9 k).mpr List.mem_cons_self
            rw [z] at this
            cases this
        -- given
        refine ⟨_, rfl, _, rfl, C, _, rfl, .inl ⟨SqL.of e9, fun pt hpt => ⟨(by show 2 ≤ sizeLine; decide), fun pl hpl => ?_⟩⟩⟩
        have g10 := (Gro.of (same_upd (o := HO.tup (intsV cells)) hpt)).trans (.of (same_upd (o := HO.lst [V.ref C, V.ref pt]) hpl))
        have w10 := w9.gro g10
        have s10 := g10.tupS s9
        have e10 := g10.at e9
        have k10 : upd (upd H' pt (.tup (intsV cells))) pl (.lst [V.ref C, V.ref pt]) pt = some (.tup (intsV cells)) := (Gro.of (same_upd (o := HO.lst [V.ref C, V.ref pt]) hpl)).at upd_same
        have l10 : upd (upd H' pt (.tup (intsV cells))) pl (.lst [V.ref C, V.ref pt]) pl = some (.lst [V.ref C, V.ref pt]) := upd_same
        obtain ⟨npl, _⟩ := new_at (w9.gro (Gro.of (same_upd (o := HO.tup (intsV cells)) hpt))).off (w9.gro (Gro.of (same_upd (o := HO.tup (intsV cells)) hpt))).deck hpl
        generalize upd (upd H' pt (.tup (intsV cells))) pl (.lst [V.ref C, V.ref pt]) = H10 at w10 s10 e10 k10 l10
        clear g10 w9 s9 e9 hpt hpl
        refine ⟨_, rfl, a, 2, rfl, w10.deck, by decide, log2_small (by decide), fun t x y h0 h1 hy0 hy1 => ?_⟩
        obtain ⟨j, rfl⟩ := Int.eq_ofNat_of_zero_le h0
        have o11 := OffG.off (Off.upd a H10 (.lst [.int x, .int y]))
        have t11 := Tup.deck o11 w10.deck
        have w11 := w10.turn o11 (DeckAt.upd H10 a x hy0 hy1)
        have s11 := t11.sqt s10
        have e11 : upd H10 a (.lst [.int x, .int y]) C = some (.lst (intsV cells)) := o11.at nCa e10
        have k11 : SqT K (upd H10 a (.lst [.int x, .int y])) pt (intsV cells) := t11.sqt (SqT.of k10)
        have l11 : upd H10 a (.lst [.int x, .int y]) pl = some (.lst [V.ref C, V.ref pt]) := o11.at npl l10
        generalize upd H10 a (.lst [.int x, .int y]) = H11 at w11 s11 e11 k11 l11
        clear o11 t11 w10 s10 e10 k10 l10
        obtain ⟨gv, hat, wg⟩ : ∃ gv : Addr, atI [V.ref C, V.ref pt] (j : Int) = some (.ref gv) ∧ WordsAt K H11 gv cells := by
          have h2 : j = 0 ∨ j = 1 := by omega
          rcases h2 with rfl | rfl
          · exact ⟨C, rfl, .inl (SqL.of e11)⟩
          · exact ⟨pt, rfl, .inr k11⟩
        refine ⟨pl, _, _, _, rfl, rfl, SqL.of l11, hat, ?_⟩
        clear hat l11 k11 e11 h0 h1 nCa npl
        -- due
        obtain ⟨xs, hB, hxs⟩ := w11.rows
        have hxl : xs.length = rows.length := (DpAll.length _ hxs).trans (List.length_map _)
        refine ⟨_, rfl, _, rfl, _, rfl, (by show 1 ≤ sizeLine; decide), fun p3 hp3 => ?_⟩
        have g12 := Gro.of (same_upd (o := HO.tup [V.ref pr]) hp3)
        refine cat_of (g12.tupS hB) (SqT.of upd_same) (by rw [hxl]; exact Nat.le_trans (by show rows.length + 1 ≤ 2000; omega) (by decide)) fun p4 H12 g13 s12 => ⟨(by show 2 ≤ sizeLine; decide), fun pd hpd => ⟨_, _, rfl, ?_⟩⟩
        have g14 := Gro.of (same_upd (o := HO.tup [V.int (m : Int), V.ref p4]) hpd)
        have gA := (g12.trans g13).trans g14
        have w13 := w11.gro gA
        have wg13 := wg.gro gA
        have s13 := gA.tupS s11
        have du13 : Dp K (upd H12 pd (.tup [V.int (m : Int), V.ref p4])) (.ref pd) (pageD m (rows ++ [row])) := by
          refine page_mk (SqT.of upd_same) (g14.tupS s12) ?_
          rw [List.map_append]
          exact DpAll.app (.cons (row_mk s13) .nil) (DpAll.gro gA _ _ hxs)
        generalize upd H12 pd (.tup [V.int (m : Int), V.ref p4]) = H13 at w13 wg13 s13 du13
        clear gA g14 g13 s12 g12 hp3 hpd wg w11 s11 hB hxs hxl xs
        have gG : Good m (rows ++ [row]) := hG.snoc hrow (by omega)
        -- kept
        obtain ⟨dg, hdg, k1, k2, k3, k4⟩ := words_shown wg13 (fun n hn => Nat.lt_of_lt_of_le (told.low n hn) (Nat.le_trans hm3 (by decide +kernel))) (by omega)
        refine ⟨_, rfl, gv, dg, rfl, hdg, k1, k2, k3, k4, ?_⟩
        generalize ekp : dg.shown = kept
        have uniq : ∀ r, IsRow cells r → r = row := fun r hr => isRow_uniq hr.1 hrow.2.1 fun k => (hr.2 k).trans (same9 k)
        -- found
        refine ⟨_, rfl, _, rfl, .ref pg, gv, m, rows, cells, rfl, w13.page, hG, wg13, told, w13.tabs _ ta, w13.tabs _ tb, fun H14 f1 r1 g14 hr1 df1 => ?_⟩
        rw [uniq r1 hr1] at df1
        have w14 := w13.gro g14
        have wg14 := wg13.gro g14
        have du14 := Dp.gro g14 _ _ du13
        have s14 := g14.tupS s13
        have dg14 := Dp.gro g14 _ _ hdg
        clear g14 w13 wg13 du13 s13 hdg
        refine ⟨_, rfl, _, rfl, rfl, .ref pg, gv, m, rows, cells, rfl, w14.page, hG, wg14, told, w14.tabs _ ta, w14.tabs _ tb, fun H15 f2 r2 g15 hr2 df2 => ?_⟩
        rw [uniq r2 hr2] at df2
        have w15 := w14.gro g15
        have df1 := Dp.gro g15 _ _ df1
        have du15 := Dp.gro g15 _ _ du14
        have s15 := g15.tupS s14
        have dg15 := Dp.gro g15 _ _ dg14
        clear g15 w14 wg14 du14 s14 dg14
        refine ⟨_, rfl, .ref pd, _, rfl, du15, page_shaped _ _, w15.tabs _ tb, fun H16 g16 => ?_⟩
        rw [gG.book]
        have w16 := w15.gro g16
        have df1 := Dp.gro g16 _ _ df1
        have df2 := Dp.gro g16 _ _ df2
        have du16 := Dp.gro g16 _ _ du15
        have s16 := g16.tupS s15
        have dg16 := Dp.gro g16 _ _ dg15
        clear g16 w15 du15 s15 dg15
        obtain ⟨xs, hB, hxs⟩ := w16.rows
        have hxl : xs.length = rows.length := (DpAll.length _ hxs).trans (List.length_map _)
        refine ⟨_, rfl, _, rfl, B, xs, rfl, .inr hB, .ref pd, m, rows ++ [row], rows.length, by rw [hxl]; rfl, du16, gG, by rw [List.length_append]; exact Nat.lt_succ_self _, w16.tabs _ tb, fun H17 f3 g17 df3 => ⟨(by show 4 ≤ sizeLine; decide), fun pf hpf => ?_⟩⟩
        have eR : (rows ++ [row]).take rows.length ++ (rows ++ [row]).drop (rows.length + 1) = rows := by
          rw [List.take_left', List.drop_eq_nil_of_le (by rw [List.length_append]; exact Nat.le_refl _), List.append_nil]
          rfl
        rw [eR] at df3
        have g18 := Gro.of (same_upd (o := HO.lst [V.ref f1, V.ref f2, V.bl true, V.ref f3]) hpf)
        have gB := g17.trans g18
        have w18 := w16.gro gB
        have df1 := Dp.gro gB _ _ df1
        have df2 := Dp.gro gB _ _ df2
        have df3 := Dp.gro g18 _ _ df3
        have du18 := Dp.gro gB _ _ du16
        have s18 := gB.tupS s16
        have dg18 := Dp.gro gB _ _ dg16
        have ef : upd H17 pf (.lst [V.ref f1, V.ref f2, V.bl true, V.ref f3]) pf = some (.lst [V.ref f1, V.ref f2, V.bl true, V.ref f3]) := upd_same
        generalize upd H17 pf (.lst [V.ref f1, V.ref f2, V.bl true, V.ref f3]) = H18 at w18 df1 df2 df3 du18 s18 dg18 ef
        clear gB g18 g17 w16 du16 s16 dg16 hB hxs hxl hpf
        refine ⟨_, rfl, _, rfl, _, rfl, _, rfl, (by show 4 ≤ sizeLine; decide), fun pe hpe => ?_⟩
        have g19 := Gro.of (same_upd (o := HO.lst [V.ref pd, V.ref pd, V.bl true, V.ref pg]) hpe)
        have w19 := w18.gro g19
        have t1 := same_l (K := K) (ds := [pageD m (rows ++ [row]), pageD m (rows ++ [row]), .bool true, pageD m rows]) (g19.at ef) upd_same
          (.cons (Dp.gro g19 _ _ df1) (.cons (Dp.gro g19 _ _ df2) (.cons (.bl true) (.cons (Dp.gro g19 _ _ df3) .nil))))
          (.cons (Dp.gro g19 _ _ du18) (.cons (Dp.gro g19 _ _ du18) (.cons (.bl true) (.cons w19.page .nil))))
        have fit4 : ∀ ds : List PyData, ds.length ≤ 100 → (∀ e ∈ ds, Fit 5 e) → Fit 6 (.list ds) := fun ds h1 h2 => ⟨by omega, h2⟩
        have fP : ∀ {rows' : List (List Nat)}, Good m rows' → Fit 5 (pageD m rows') := fun h => fit_page 1 h
        refine ⟨_, _, _, rfl, t1.1, t1.2, fit4 _ (by show 4 ≤ 100; decide) (fun e he => ?_), fun H20 s20 => ⟨_, rfl, iteF ?_⟩⟩
        · rcases List.mem_cons.mp he with rfl | he
          · exact fP gG
          · rcases List.mem_cons.mp he with rfl | he
            · exact fP gG
            · rcases List.mem_cons.mp he with rfl | he
              · exact trivial
              · rw [List.mem_singleton.mp he]
                exact fP hG
        have gC := g19.trans (.of s20)
        have w20 := w18.gro gC
        have dg20 := Dp.gro gC _ _ dg18
        clear t1 s20 g19 w19 w18 dg18 df1 df2 df3 du18 s18 ef hpe gC
        refine ⟨_, rfl, gv, dg, rfl, dg20, k1, k2, k3, k4, _, rfl, ?_⟩
        rw [ekp]
        refine ⟨rfl, _, rfl, ?_⟩
        rw [decide_eq_true rfl]
        refine iteF ?_
        clear dg20 k1 k2 k3 k4 ekp
        -- lot
        refine ⟨_, rfl, _, rfl, a, .ref pg, m, rows, rfl, w20.deck, w20.page, by omega, fun H21 lo lot o21 d21 hA sL => ?_⟩
        have w21 := w20.turn o21 d21
        clear w20 o21 d21
        obtain ⟨xs, hB, hxs⟩ := w21.rows
        have hxl : xs.length = rows.length := (DpAll.length _ hxs).trans (List.length_map _)
        have hll := asc_len hA
        refine ⟨_, rfl, _, rfl, lo, rfl, ⟨_, sL⟩, fun D2 hD2 => lc_at sL hD2 hB (by rw [hxl]; exact hA.2) (by omega) (fun v => rfl) (fun k v H' Q' hs hat q' => ⟨_, rfl, _, rfl, B, xs, (k : Int), v, rfl, rfl, hs, hat, q'⟩) ?_⟩
        refine ⟨D2, _, rfl, .inl ⟨SqL.of upd_same, fun pt2 hpt2 => ⟨(by show 2 ≤ sizeLine; decide), fun pd2 hpd2 => ?_⟩⟩⟩
        have gD := ((Gro.of (same_upd (o := HO.lst ((intsV lot).map (atV xs))) hD2)).trans (.of (same_upd (o := HO.tup ((intsV lot).map (atV xs))) hpt2))).trans (.of (same_upd (o := HO.tup [V.int (m : Int), V.ref pt2]) hpd2))
        have w22 := w21.gro gD
        have sL22 := gD.tupS sL
        have gP : Good m (pick rows lot) := hG.sub (pick_mem hA.2) (by rw [pick_len]; omega)
        have du22 : Dp K (upd (upd (upd H21 D2 (.lst ((intsV lot).map (atV xs)))) pt2 (.tup ((intsV lot).map (atV xs)))) pd2 (.tup [V.int (m : Int), V.ref pt2])) (.ref pd2) (pageD m (pick rows lot)) :=
          page_mk (SqT.of upd_same) (Gro.tupS (.of (same_upd hpd2)) (SqT.of upd_same)) (atV_rows (DpAll.gro gD _ _ hxs) hA.2)
        generalize upd (upd (upd H21 D2 (.lst ((intsV lot).map (atV xs)))) pt2 (.tup ((intsV lot).map (atV xs)))) pd2 (.tup [V.int (m : Int), V.ref pt2]) = H22 at w22 sL22 du22
        clear gD hD2 hpt2 hpd2 w21 sL hB hxs hxl
        refine ⟨_, rfl, _, rfl, .ref pg, .ref lo, m, rows, lot, rfl, w22.page, hG, row_mk sL22, hA, w22.tabs _ tb, fun H23 f1 g23 df1 => ?_⟩
        have w23 := w22.gro g23
        have sL23 := g23.tupS sL22
        have du23 := Dp.gro g23 _ _ du22
        clear g23 w22 sL22 du22
        refine ⟨_, rfl, _, rfl, rfl, .ref pg, .ref lo, m, rows, lot, rfl, w23.page, hG, row_mk sL23, hA, w23.tabs _ tb, fun H24 f2 g24 df2 => ?_⟩
        have w24 := w23.gro g24
        have sL24 := g24.tupS sL23
        have du24 := Dp.gro g24 _ _ du23
        have df1 := Dp.gro g24 _ _ df1
        clear g24 w23 sL23 du23
        refine ⟨_, rfl, .ref pd2, _, rfl, du24, page_shaped _ _, w24.tabs _ tb, fun H25 g25 => ?_⟩
        rw [gP.book]
        refine ⟨(by show 3 ≤ sizeLine; decide), fun l1 hl1 => ⟨_, rfl, _, rfl, (by show 3 ≤ sizeLine; decide), fun l2 hl2 => ?_⟩⟩
        have gE := Gro.of (same_upd (o := HO.lst [V.ref pd2, V.ref pd2, V.bl true]) hl2)
        have gF := ((g25.trans (.of (same_upd (o := HO.lst [V.ref f1, V.ref f2, V.bl true]) hl1))).trans gE)
        have du26 := Dp.gro gF _ _ du24
        have t2 := same_l (K := K) (ds := [pageD m (pick rows lot), pageD m (pick rows lot), .bool true]) (gE.at upd_same) upd_same
          (.cons (Dp.gro gF _ _ df1) (.cons (Dp.gro gF _ _ df2) (.cons (.bl true) .nil))) (.cons du26 (.cons du26 (.cons (.bl true) .nil)))
        refine ⟨_, _, _, rfl, t2.1, t2.2, fit4 _ (by show 3 ≤ 100; decide) (fun e he => ?_), fun H27 s27 => ⟨_, rfl, iteF ?_⟩⟩
        · rcases List.mem_cons.mp he with rfl | he
          · exact fP gP
          · rcases List.mem_cons.mp he with rfl | he
            · exact fP gP
            · rw [List.mem_singleton.mp he]
              exact trivial
        have w27 := w24.gro (gF.trans (.of s27))
        have sL27 := (gF.trans (.of s27)).tupS sL24
        have du27 := Dp.same s27 _ _ du26
        clear t2 s27 du26 gF gE hl1 hl2 g25 df1 df2 w24 sL24 du24
        -- inner
        refine ⟨_, rfl, _, rfl, a, .ref pd2, m, pick rows lot, rfl, w27.deck, du27, by rw [pick_len]; omega, fun H28 inn inner o28 d28 hI sI => ?_⟩
        rw [pick_len] at hI
        have t28 := Tup.deck o28 w27.deck
        have w28 := w27.turn o28 d28
        have sL28 := t28.sqt sL27
        have du28 := t28.page du27
        clear t28 o28 d28 w27 sL27 du27
        have hil := asc_len hI
        refine ⟨_, rfl, inn, rfl, ⟨_, sI⟩, fun D3 hD3 => lc_at sI hD3 sL28 (by rw [intsV_len]; exact hI.2) (by omega) (fun v => rfl) (fun k v H' Q' hs hat q' => ⟨_, rfl, _, rfl, lo, _, (k : Int), v, rfl, rfl, hs, hat, q'⟩) ?_⟩
        rw [atV_ints hI.2]
        have hBo := asc_pick hA hI
        have hpp := pick_pick (rows := rows) hI.2
        have hbl : (inner.map fun k => lot.getD k 0).length ≤ 1000 := by rw [List.length_map]; omega
        generalize (inner.map fun k => lot.getD k 0) = both at hBo hpp hbl
        refine ⟨D3, _, rfl, .inl ⟨SqL.of upd_same, fun pb hpb => ?_⟩⟩
        have gG2 := (Gro.of (same_upd (o := HO.lst (intsV both)) hD3)).trans (.of (same_upd (o := HO.tup (intsV both)) hpb))
        have w29 := w28.gro gG2
        have sI29 := gG2.tupS sI
        have du29 := Dp.gro gG2 _ _ du28
        have sB29 : SqT K (upd (upd H28 D3 (.lst (intsV both))) pb (.tup (intsV both))) pb (intsV both) := SqT.of upd_same
        generalize upd (upd H28 D3 (.lst (intsV both))) pb (.tup (intsV both)) = H29 at w29 sI29 du29 sB29
        clear gG2 hD3 hpb w28 sI du28 sL28
        obtain ⟨xs, hB, hxs⟩ := w29.rows
        have hxl : xs.length = rows.length := (DpAll.length _ hxs).trans (List.length_map _)
        refine ⟨_, rfl, B, xs, rfl, .inr hB, _, rfl, RgOk.of_le (by omega) (by omega) (by omega) (by omega), fun pw hpw => ?_⟩
        rw [rgV_nats, hxl]
        have g30 := Gro.of (same_upd (o := HO.tup (intsV (List.range rows.length))) hpw)
        have w30 := w29.gro g30
        have sI30 := g30.tupS sI29
        have du30 := Dp.gro g30 _ _ du29
        have sB30 := g30.tupS sB29
        have sW30 : SqT K (upd H29 pw (.tup (intsV (List.range rows.length)))) pw (intsV (List.range rows.length)) := SqT.of upd_same
        generalize upd H29 pw (.tup (intsV (List.range rows.length))) = H30 at w30 sI30 du30 sB30 sW30
        clear g30 hpw w29 sI29 du29 sB29 hB hxs hxl xs
        have gQ : Good m (pick rows both) := hG.sub (pick_mem hBo.2) (by rw [pick_len]; exact hbl)
        have hI' : Asc (pick rows lot).length inner := by rw [pick_len]; exact hI
        refine ⟨_, rfl, _, rfl, .ref pd2, .ref inn, m, pick rows lot, inner, rfl, du30, gP, row_mk sI30, hI', w30.tabs _ tb, fun H31 f1 g31 df1 => ?_⟩
        rw [hpp] at df1
        have w31 := w30.gro g31
        have sB31 := g31.tupS sB30
        have sW31 := g31.tupS sW30
        clear g31 w30 sI30 du30 sB30 sW30
        refine ⟨_, rfl, _, rfl, .ref pg, .ref pb, m, rows, both, rfl, w31.page, hG, row_mk sB31, hBo, w31.tabs _ tb, fun H32 f2 g32 df2 => ⟨(by show 2 ≤ sizeLine; decide), fun l1 hl1 => ?_⟩⟩
        have g33 := g32.trans (.of (same_upd (o := HO.lst [V.ref f1, V.ref f2]) hl1))
        have w33 := w31.gro g33
        have sB33 := g33.tupS sB31
        have sW33 := g33.tupS sW31
        have df1 := Dp.gro g33 _ _ df1
        have df2 := Dp.gro (.of (same_upd (o := HO.lst [V.ref f1, V.ref f2]) hl1)) _ _ df2
        have e33 : upd H32 l1 (.lst [V.ref f1, V.ref f2]) l1 = some (.lst [V.ref f1, V.ref f2]) := upd_same
        generalize upd H32 l1 (.lst [V.ref f1, V.ref f2]) = H33 at w33 sB33 sW33 df1 df2 e33
        clear g33 g32 hl1 w31 sB31 sW31
        obtain ⟨xs, hB, hxs⟩ := w33.rows
        have hxl : xs.length = rows.length := (DpAll.length _ hxs).trans (List.length_map _)
        refine ⟨_, rfl, _, rfl, pb, rfl, ⟨_, sB33⟩, fun D4 hD4 => lc_at sB33 hD4 hB (by rw [hxl]; exact hBo.2) hbl (fun v => rfl) (fun k v H' Q' hs hat q' => ⟨_, rfl, _, rfl, B, xs, (k : Int), v, rfl, rfl, hs, hat, q'⟩) ?_⟩
        refine ⟨D4, _, rfl, .inl ⟨SqL.of upd_same, fun p5 hp5 => ⟨(by show 2 ≤ sizeLine; decide), fun p6 hp6 => ⟨(by show 1 ≤ sizeLine; decide), fun p7 hp7 => ⟨p7, 2, _, rfl, rfl, upd_same, by decide, by decide, (by show 1 * 2 ≤ sizeLine; decide), fun p8 hp8 => ?_⟩⟩⟩⟩⟩
        have g34 := Gro.of (same_upd (o := HO.tup [V.int (m : Int), V.ref p5]) hp6)
        have g35 := Gro.of (same_upd (o := HO.lst [V.ref p6]) hp7)
        have g36 := Gro.of (same_upd (o := HO.lst (List.replicate ((2 : Int)).toNat [V.ref p6]).flatten) hp8)
        have gA := (Gro.of (same_upd (o := HO.lst ((intsV both).map (atV xs))) hD4)).trans (.of (same_upd (o := HO.tup ((intsV both).map (atV xs))) hp5))
        have gZ := ((gA.trans g34).trans g35).trans g36
        have dz := page_mk (K := K) (m := m) (rows := pick rows both) (SqT.of (H := upd (upd (upd H33 D4 (.lst ((intsV both).map (atV xs)))) p5 (.tup ((intsV both).map (atV xs)))) p6 (.tup [V.int (m : Int), V.ref p5])) upd_same) (g34.tupS (SqT.of upd_same)) (atV_rows (DpAll.gro (gA.trans g34) _ _ hxs) hBo.2)
        have dz2 := Dp.gro (g35.trans g36) _ _ dz
        have t3 := same_l (K := K) (ds := [pageD m (pick rows both), pageD m (pick rows both)]) (gZ.at e33) upd_same (.cons (Dp.gro gZ _ _ df1) (.cons (Dp.gro gZ _ _ df2) .nil)) (.cons dz2 (.cons dz2 .nil))
        refine ⟨_, _, _, rfl, t3.1, t3.2, fit4 _ (by show 2 ≤ 100; decide) (fun e he => ?_), fun H37 s37 => ⟨_, rfl, iteF ?_⟩⟩
        · rcases List.mem_cons.mp he with rfl | he
          · exact fP gQ
          · rw [List.mem_singleton.mp he]
            exact fP gQ
        have w37 := w33.gro (gZ.trans (.of s37))
        have sW37 := (gZ.trans (.of s37)).tupS sW33
        clear t3 dz dz2 gZ gA g34 g35 g36 s37 hp5 hp6 hp7 hp8 hD4 w33 sB33 sW33 df1 df2 e33 hB hxs hxl xs
        -- whole, none
        refine ⟨_, rfl, _, rfl, .ref pg, .ref pw, m, rows, List.range rows.length, rfl, w37.page, hG, row_mk sW37, asc_range _, w37.tabs _ tb, fun H38 f1 g38 df1 => ?_⟩
        rw [pick_range] at df1
        refine ⟨_, rfl, (by show 0 ≤ sizeLine; decide), fun pe hpe => ?_⟩
        have g39 := g38.trans (.of (same_upd (o := HO.tup []) hpe))
        have w39 := w37.gro g39
        have sW39 := g39.tupS sW37
        have df1 := Dp.gro (.of (same_upd (o := HO.tup []) hpe)) _ _ df1
        have sE : SqT K (upd H38 pe (.tup [])) pe (intsV []) := SqT.of upd_same
        generalize upd H38 pe (.tup []) = H39 at w39 sW39 df1 sE
        clear g39 g38 hpe w37 sW37
        refine ⟨.ref pg, .ref pe, m, rows, [], rfl, w39.page, hG, row_mk sE, ⟨.nil, fun _ h => by cases h⟩, w39.tabs _ tb, fun H40 f2 g40 df2 => ⟨(by show 2 ≤ sizeLine; decide), fun l1 hl1 => ⟨_, rfl, _, rfl, (by show 0 ≤ sizeLine; decide), fun p5 hp5 => ⟨(by show 2 ≤ sizeLine; decide), fun p6 hp6 => ⟨(by show 2 ≤ sizeLine; decide), fun l2 hl2 => ?_⟩⟩⟩⟩⟩
        have g41 := Gro.of (same_upd (o := HO.lst [V.ref f1, V.ref f2]) hl1)
        have g42 := Gro.of (same_upd (o := HO.tup []) hp5)
        have g43 := Gro.of (same_upd (o := HO.tup [V.int (m : Int), V.ref p5]) hp6)
        have g44 := Gro.of (same_upd (o := HO.lst [V.ref pg, V.ref p6]) hl2)
        have gZ := ((g42.trans g43).trans g44)
        have gY := g40.trans (g41.trans gZ)
        have dz := page_mk (K := K) (m := m) (rows := []) (SqT.of (H := upd (upd (upd H40 l1 (.lst [V.ref f1, V.ref f2])) p5 (.tup [])) p6 (.tup [V.int (m : Int), V.ref p5])) upd_same) (g43.tupS (SqT.of upd_same)) .nil
        have t4 := same_l (K := K) (ds := [pageD m rows, pageD m []]) (gZ.at upd_same) upd_same (.cons (Dp.gro gY _ _ df1) (.cons (Dp.gro (g41.trans gZ) _ _ df2) .nil)) (.cons (Dp.gro gY _ _ w39.page) (.cons (Dp.gro g44 _ _ dz) .nil))
        refine ⟨_, _, _, rfl, t4.1, t4.2, fit4 _ (by show 2 ≤ 100; decide) (fun e he => ?_), fun H45 s45 => ⟨_, rfl, iteF ?_⟩⟩
        · rcases List.mem_cons.mp he with rfl | he
          · exact fP hG
          · rw [List.mem_singleton.mp he]
            exact fP ⟨hm2, hm3, Nat.zero_le _, fun r h => by cases h⟩
        have w45 := w39.gro (gY.trans (.of s45))
        have sW45 := (gY.trans (.of s45)).tupS sW39
        clear t4 dz gZ gY g41 g42 g43 g44 g40 s45 hl1 hl2 hp5 hp6 df1 df2 sE w39 sW39
        -- keys
        obtain ⟨xs, hB, hxs⟩ := w45.rows
        have hxl : xs.length = rows.length := (DpAll.length _ hxs).trans (List.length_map _)
        refine ⟨_, rfl, B, xs, rfl, .inr hB, _, _, rfl, rfl, _, rfl, _, rfl, B, xs, rfl, .inr hB, 1, _, rfl, ?_⟩
        generalize hmx : (if (xs.length : Int) > 1 then (xs.length : Int) else 1) = mx
        have hmx2 : 1 ≤ mx ∧ mx ≤ 1000 := by
          rw [← hmx]
          split <;> omega
        refine ⟨a, mx, rfl, w45.deck, by omega, log2_small (by omega), fun t x y h0 h1 hy0 hy1 => ⟨(by show 3 ≤ sizeLine; decide), fun pL hpL => ?_⟩⟩
        have o46 := OffG.off (Off.upd a H45 (.lst [.int x, .int y]))
        have t46 := Tup.deck o46 w45.deck
        have w46 := w45.turn o46 (DeckAt.upd H45 a x hy0 hy1)
        have sW46 := t46.sqt sW45
        have g47 := Gro.of (same_upd (o := HO.lst [V.int 0, V.int ((xs.length : Int) - 1), V.int t]) hpL)
        have w47 := w46.gro g47
        have sW47 := g47.tupS sW46
        have eL : upd (upd H45 a (.lst [.int x, .int y])) pL (.lst [V.int 0, V.int ((xs.length : Int) - 1), V.int t]) pL = some (.lst [V.int 0, V.int ((xs.length : Int) - 1), V.int t]) := upd_same
        generalize upd (upd H45 a (.lst [.int x, .int y])) pL (.lst [V.int 0, V.int ((xs.length : Int) - 1), V.int t]) = H47 at w47 sW47 eL
        clear g47 w46 sW46 t46 o46 w45 sW45 hpL hB hxs
        have allI : ∀ v ∈ [V.int 0, V.int ((xs.length : Int) - 1), V.int t], ∃ z : Int, v = .int z := fun v hv => by
          rcases List.mem_cons.mp hv with rfl | hv
          · exact ⟨_, rfl⟩
          · rcases List.mem_cons.mp hv with rfl | hv
            · exact ⟨_, rfl⟩
            · exact ⟨_, List.mem_singleton.mp hv⟩
        generalize [V.int 0, V.int ((xs.length : Int) - 1), V.int t] = kl at allI eL
        clear hxl hmx xs
        refine ⟨pL, rfl, ⟨_, SqL.of eL⟩, ?_⟩
        refine for_list (fun i σ H' => ∃ dz fz kz : Option V, σ = [some (.ref a), some (.ref pg), some (.int (m : Int)), some (.ref B), some (.ref pr), some (.ref C), some (.ref gv), dz, some (.str kept), fz, some (.ref lo), kz, some (.ref inn), some (.ref pb), some (.ref pw), none, none] ∧ PG4 K tf a H pg B m rows H' ∧ SqT K H' pw (intsV (List.range rows.length)) ∧ H' pL = some (.lst kl))
          ⟨_, _, none, rfl, w47, sW47, eL⟩ (fun i σ H' _ hP => by obtain ⟨_, _, _, _, _, _, e⟩ := hP; exact SqL.of e) (fun i v σ H' ev hP => ?_) (fun σ H' hP => ?_)
        · obtain ⟨dz, fz, kz, rfl, wP, sP, eP⟩ := hP
          obtain ⟨z, rfl⟩ := allI v (List.mem_of_getElem? ev)
          obtain ⟨xs, hB, hxs⟩ := wP.rows
          have hxl : xs.length = rows.length := (DpAll.length _ hxs).trans (List.length_map _)
          refine ⟨_, rfl, _, _, rfl, rfl, _, rfl, ite2 (fun hz => ?_) (fun _ => iteF ⟨dz, fz, _, rfl, wP, sP, eP⟩)⟩
          obtain ⟨k, rfl⟩ := Int.eq_ofNat_of_zero_le (of_decide_eq_true hz)
          refine ⟨_, rfl, _, rfl, B, xs, rfl, .inr hB, _, _, rfl, rfl, _, rfl, ite2 (fun hlt => ?_) (fun _ => ⟨dz, fz, _, rfl, wP, sP, eP⟩)⟩
          have hk : k < rows.length := by
            have := of_decide_eq_true hlt
            omega
          refine ⟨_, rfl, _, rfl, _, rfl, (k : Int), rfl, sl_of hB fun q1 H2 g2 s1 => ?_⟩
          rw [cut_to (by omega)] at s1
          refine ⟨_, rfl, _, rfl, _, _, rfl, rfl, ((k : Int) + 1), rfl, ?_⟩
          dsimp only [tNoPart]
          refine sl_of (g2.tupS hB) fun q2 H3 g3 s2 => ?_
          rw [show ((k : Int) + 1) = ((k + 1 : Nat) : Int) by omega, cut_from (by omega)] at s2
          refine cat_of (g3.tupS s1) s2 ?_ fun q3 H4 g4 s3 => ⟨(by show 2 ≤ sizeLine; decide), fun q4 hq4 => ?_⟩
          · rw [List.length_take, List.length_drop]
            exact Nat.le_trans (by omega : _ ≤ 2000) (by decide)
          have g5 := Gro.of (same_upd (o := HO.tup [V.int (m : Int), V.ref q3]) hq4)
          have gA := ((g2.trans g3).trans g4).trans g5
          have dd : Dp K (upd H4 q4 (.tup [V.int (m : Int), V.ref q3])) (.ref q4) (pageD m (rows.take k ++ rows.drop (k + 1))) := by
            refine page_mk (SqT.of upd_same) (g5.tupS s3) ?_
            rw [List.map_append, List.map_take, List.map_drop]
            have h4 := DpAll.gro gA _ _ hxs
            exact DpAll.app (DpAll.drop (k + 1) h4) (DpAll.take k h4)
          have w5 := wP.gro gA
          have s5 := gA.tupS sP
          have e5 := gA.at eP
          generalize upd H4 q4 (.tup [V.int (m : Int), V.ref q3]) = H5 at dd w5 s5 e5
          clear gA g5 g4 g3 g2 s1 s2 s3 hq4 hB hxs hxl xs wP sP eP hlt
          have gK : Good m (rows.take k ++ rows.drop (k + 1)) := hG.sub (fun r hr => (List.mem_append.mp hr).elim List.mem_of_mem_take List.mem_of_mem_drop) (by rw [List.length_append, List.length_take, List.length_drop]; omega)
          refine ⟨_, rfl, _, rfl, .ref pg, m, rows, k, rfl, w5.page, hG, hk, w5.tabs _ tb, fun H6 f1 g6 df1 => ?_⟩
          have w6 := w5.gro g6
          have s6 := g6.tupS s5
          have e6 := g6.at e5
          have dd := Dp.gro g6 _ _ dd
          clear g6 w5 s5 e5
          refine ⟨_, rfl, _, rfl, rfl, .ref pg, m, rows, k, rfl, w6.page, hG, hk, w6.tabs _ tb, fun H7 f2 g7 df2 => ?_⟩
          have w7 := w6.gro g7
          have s7 := g7.tupS s6
          have e7 := g7.at e6
          have dd := Dp.gro g7 _ _ dd
          have df1 := Dp.gro g7 _ _ df1
          clear g7 w6 s6 e6
          have hrl2 : (intsV (List.range rows.length)).length = rows.length := by rw [intsV_len, List.length_range]
          refine ⟨_, rfl, _, rfl, _, rfl, (k : Int), rfl, sl_of s7 fun q5 H8 g8 s8 => ?_⟩
          rw [cut_to (by omega)] at s8
          refine ⟨_, rfl, _, rfl, _, _, rfl, rfl, ((k : Int) + 1), rfl, ?_⟩
          dsimp only [tNoPart]
          refine sl_of (g8.tupS s7) fun q6 H9 g9 s9 => ?_
          rw [show ((k : Int) + 1) = ((k + 1 : Nat) : Int) by omega, cut_from (by omega)] at s9
          refine cat_of (g9.tupS s8) s9 ?_ fun q7 H10 g10 s10 => ?_
          · rw [List.length_take, List.length_drop]
            exact Nat.le_trans (by omega : _ ≤ 2000) (by decide)
          have gB := (g8.trans g9).trans g10
          have w10 := w7.gro gB
          have eC : (intsV (List.range rows.length)).take k ++ (intsV (List.range rows.length)).drop (k + 1) = intsV ((List.range rows.length).take k ++ (List.range rows.length).drop (k + 1)) := by
            unfold intsV
            rw [List.map_append, List.map_take, List.map_drop]
          rw [eC] at s10
          refine ⟨.ref pg, .ref q7, m, rows, _, rfl, w10.page, hG, row_mk s10, asc_cut _ k, w10.tabs _ tb, fun H11 f3 g11 df3 => ⟨(by show 3 ≤ sizeLine; decide), fun l1 hl1 => ⟨_, rfl, _, rfl, _, rfl, _, rfl, (by show 3 ≤ sizeLine; decide), fun l2 hl2 => ?_⟩⟩⟩
          rw [pick_cut] at df3
          have gC := Gro.of (same_upd (o := HO.lst [V.ref f1, V.ref f2, V.ref f3]) hl1)
          have gD := Gro.of (same_upd (o := HO.lst [V.ref q4, V.ref q4, V.ref q4]) hl2)
          have gE := (gB.trans g11).trans (gC.trans gD)
          have d1 := Dp.gro gE _ _ df1
          have d2 := Dp.gro gE _ _ df2
          have d3 := Dp.gro (gC.trans gD) _ _ df3
          have d4 := Dp.gro gE _ _ dd
          have t5 := same_l (K := K) (ds := [pageD m (rows.take k ++ rows.drop (k + 1)), pageD m (rows.take k ++ rows.drop (k + 1)), pageD m (rows.take k ++ rows.drop (k + 1))]) (gD.at upd_same) upd_same (.cons d1 (.cons d2 (.cons d3 .nil))) (.cons d4 (.cons d4 (.cons d4 .nil)))
          refine ⟨_, _, _, rfl, t5.1, t5.2, fit4 _ (by show 3 ≤ 100; decide) (fun e he => ?_), fun H12 s12 => ⟨_, rfl, iteF ?_⟩⟩
          · rcases List.mem_cons.mp he with rfl | he
            · exact fP gK
            · rcases List.mem_cons.mp he with rfl | he
              · exact fP gK
              · rw [List.mem_singleton.mp he]
                exact fP gK
          have gF := gE.trans (.of s12)
          exact ⟨_, _, _, rfl, w7.gro gF, gF.tupS s7, gF.at e7⟩
        · obtain ⟨dz, fz, kz, rfl, wP, sP, eP⟩ := hP
          exact q _ wP.off
theorem ok_law (T : Top K mg) (c__law_right : CalG P w K mg base 8 "_law_right" s__law_right ["deck"] (spTurn K tf)) (c__law_deck : CalD P w K mg base 1 "_law_deck" s__law_deck ["script", "at"] (spDeck K)) : CalG P w K mg base 9 "law" s_law ["script"] (spLawT K tf) := by
  refine calG_mk T.d_law sc_law (fun _ _ _ _ _ _ us hl => match us, hl with | [_], _ => rfl) (fun vs H Q E h => ?_) (fun f cdv A outer s H vs Q E hgd hr h => ?_)
  · obtain ⟨l, ns, rfl, hS, hlen, hT, q⟩ := h
    rfl
  · obtain ⟨l, ns, rfl, hS, hlen, hT, q⟩ := h
    refine ⟨_, (pss_cons (ps_for PassesOwn.never rfl (pi_range1 (by rfl) T.z_range (pa_cons (pe_callB (call_max2 rfl) (by rfl) T.z_max (by decide +kernel) (pa_cons pe_int (pa_cons (pe_callB (call_min2 rfl) (by rfl) T.z_min (by decide +kernel) (pa_cons (pe_callB call_len_seq (by rfl) T.z_len PySem.boot_len (pa_cons (pv 0) pa_nil)) (pa_cons pe_int pa_nil))) pa_nil))) pa_nil)) (pg_name (i := 1) sc_law.nd rfl (Or.inl rfl)) (pss_one (ps_if (pt_not (pt_val (pe_g c__law_right hgd hr (by omega) (by rfl) (pa_cons (pe_f c__law_deck hr (by omega) (by rfl) (pa_cons (pv 0) (pa_cons (pv 1) pa_nil))) pa_nil)))) (pss_one (ps_ret pe_bl)) pss_nil)))
  (pss_one (ps_ret pe_bl))), ?_⟩
    have hl2 : (ns.map V.int).length ≤ 63 := by
      rw [List.length_map]
      exact hlen
    refine ⟨_, rfl, l, _, rfl, .inl hS, _, _, rfl, ?_⟩
    generalize hg : (if (12 : Int) < ((ns.map V.int).length : Int) then (12 : Int) else ((ns.map V.int).length : Int)) = g
    have hg2 : 0 ≤ g ∧ g ≤ 63 := by
      rw [← hg]
      split <;> omega
    refine ⟨2, g, rfl, ?_⟩
    generalize hg3 : (if g > 2 then g else 2) = g3
    have hg4 : 0 ≤ g3 ∧ g3 ≤ 63 := by
      rw [← hg3]
      split <;> omega
    refine ⟨g3, rfl, by omega, by omega, ?_⟩
    refine for_range (lo := 0) (n := g3.toNat) (fun i σ H' => ∃ z : Option V, σ = [some (.ref l), z] ∧ Gro H H') ⟨none, rfl, Gro.refl H⟩ (fun i σ H' hi hP => ?_) (fun σ H' hP => ?_)
    · obtain ⟨z, rfl, sP⟩ := hP
      rw [Int.zero_add]
      refine ⟨_, rfl, _, rfl, l, ns, i, rfl, Gro.seq sP hS, by omega, fun H1 p s1 np hD => ⟨p, rfl, hD, fun x hx => (sP.trans (.of s1)).tg (hT x hx), fun H2 o2 => ⟨_, rfl, iteF ⟨_, rfl, sP.trans (o2.gro (.of s1) np)⟩⟩⟩⟩
    · exact q _
end
/-! ### the head -/
def fn : List He.DefD := [⟨("is_integer", none), "is_integer", "is_integer", defArgs s_is_integer, defBody s_is_integer, defScope s_is_integer, [], []⟩,
  ⟨("is_below", none), "is_below", "is_below", defArgs s_is_below, defBody s_is_below, defScope s_is_below, [], []⟩,
  ⟨("are_integers", none), "are_integers", "are_integers", defArgs s_are_integers, defBody s_are_integers, defScope s_are_integers, [], []⟩,
  ⟨("is_ascending", none), "is_ascending", "is_ascending", defArgs s_is_ascending, defBody s_is_ascending, defScope s_is_ascending, [], []⟩,
  ⟨("is_book", none), "is_book", "is_book", defArgs s_is_book, defBody s_is_book, defScope s_is_book, [], []⟩,
  ⟨("with_key", none), "with_key", "with_key", defArgs s_with_key, defBody s_with_key, defScope s_with_key, [], []⟩,
  ⟨("without_key", none), "without_key", "without_key", defArgs s_without_key, defBody s_without_key, defScope s_without_key, [], []⟩,
  ⟨("part", none), "part", "part", defArgs s_part, defBody s_part, defScope s_part, [], []⟩,
  ⟨("row_of_cells", none), "row_of_cells", "row_of_cells", defArgs s_row_of_cells, defBody s_row_of_cells, defScope s_row_of_cells, [], []⟩,
  ⟨("check_book", none), "check_book", "check_book", defArgs s_check_book, defBody s_check_book, defScope s_check_book, [], []⟩,
  ⟨("check_key", none), "check_key", "check_key", defArgs s_check_key, defBody s_check_key, defScope s_check_key, [], []⟩,
  ⟨("check_lot", none), "check_lot", "check_lot", defArgs s_check_lot, defBody s_check_lot, defScope s_check_lot, [], []⟩,
  ⟨("_law_deck", none), "_law_deck", "_law_deck", defArgs s__law_deck, defBody s__law_deck, defScope s__law_deck, [], []⟩,
  ⟨("_law_take", none), "_law_take", "_law_take", defArgs s__law_take, defBody s__law_take, defScope s__law_take, [], []⟩,
  ⟨("_law_same", none), "_law_same", "_law_same", defArgs s__law_same, defBody s__law_same, defScope s__law_same, [], []⟩,
  ⟨("_law_cells", none), "_law_cells", "_law_cells", defArgs s__law_cells, defBody s__law_cells, defScope s__law_cells, [], []⟩,
  ⟨("_law_page", none), "_law_page", "_law_page", defArgs s__law_page, defBody s__law_page, defScope s__law_page, [], []⟩,
  ⟨("_law_lot", none), "_law_lot", "_law_lot", defArgs s__law_lot, defBody s__law_lot, defScope s__law_lot, [], []⟩,
  ⟨("_law_right", none), "_law_right", "_law_right", defArgs s__law_right, defBody s__law_right, defScope s__law_right, [], []⟩,
  ⟨("law", none), "law", "law", defArgs s_law, defBody s_law, defScope s_law, [], []⟩]
def fa : List He.Fa := [.glo "is_integer", .glo "is_below", .glo "are_integers", .glo "is_ascending", .glo "is_book", .glo "with_key", .glo "without_key", .glo "part", .glo "row_of_cells", .glo "check_book", .glo "check_key", .glo "check_lot", .glo "_law_deck", .glo "_law_take", .glo "_law_same", .glo "_law_cells", .glo "_law_page", .glo "_law_lot", .glo "_law_right", .glo "law", .free "all", .free "bool", .free "int", .free "isinstance", .free "len", .free "list", .free "max", .free "min", .free "range", .free "repr", .free "set", .free "sorted", .free "str", .free "tuple"]
abbrev R : PySem.W.OpenRow := PySem.W.OpenLaw.row PySem.Challenge.rw_keytellers_k04_whole_keys_more_and_less
abbrev tq : List He.Defn := tf.map fun x => (x, none)
abbrev exF : PySem.W.Frag → Bool := (fun _ => true)
abbrev hk : PySem.W.Hook := He.hookX 4 fa fn [] tq exF
def ob (s : PySem.W.SharedT) : He.AlX := He.obsX 4 fa fn [] tq exF (HandSHeadRun.getT s)
theorem ob_eq (s : PySem.W.SharedT) : ob s = hk.obs s.abs := He.obsX_eq (HandSHeadRun.getT_eq s)
def loose : List PySem.Str := (["TellError", "InvalidBook", "InvalidKey", "InvalidRow", "InvalidLot", "is_integer", "is_below", "are_integers", "is_ascending", "is_book", "with_key", "without_key", "part", "row_of_cells", "check_book", "check_key", "check_lot", "_law_deck", "_law_take", "_law_same", "_law_cells", "_law_page", "_law_lot", "_law_right"] : List PySem.Str)
theorem run (w : World) : HandSHeadRun.RunEq R (PySem.W.view R.prog [28]) hk ob 2000 loose w := by
  intro os
  kernel_rfl
theorem top_of {K : PySem.W.Frag} {h : Heap} {mg : Str → Option Value} (X : K.In h) (G : h.Ns mainGlobals mg) (c : He.SaysD fa fn K) : Top K mg where
  d_is_integer := here_mk X G c 0 0 rfl rfl
  d_is_below := here_mk X G c 1 1 rfl rfl
  d_are_integers := hereT_mk X G c 2 2 rfl rfl
  d_is_ascending := here_mk X G c 3 3 rfl rfl
  d_is_book := hereT_mk X G c 4 4 rfl rfl
  d_with_key := here_mk X G c 5 5 rfl rfl
  d_without_key := here_mk X G c 6 6 rfl rfl
  d_part := here_mk X G c 7 7 rfl rfl
  d_row_of_cells := here_mk X G c 8 8 rfl rfl
  d_check_book := here_mk X G c 9 9 rfl rfl
  d_check_key := here_mk X G c 10 10 rfl rfl
  d_check_lot := here_mk X G c 11 11 rfl rfl
  d__law_deck := here_mk X G c 12 12 rfl rfl
  d__law_take := here_mk X G c 13 13 rfl rfl
  d__law_same := here_mk X G c 14 14 rfl rfl
  d__law_cells := here_mk X G c 15 15 rfl rfl
  d__law_page := here_mk X G c 16 16 rfl rfl
  d__law_lot := here_mk X G c 17 17 rfl rfl
  d__law_right := here_mk X G c 18 18 rfl rfl
  d_law := here_mk X G c 19 19 rfl rfl
  z_all := He.free_ok X G (c.fact 20 (f := .free "all") rfl)
  z_bool := He.free_ok X G (c.fact 21 (f := .free "bool") rfl)
  z_int := He.free_ok X G (c.fact 22 (f := .free "int") rfl)
  z_isinstance := He.free_ok X G (c.fact 23 (f := .free "isinstance") rfl)
  z_len := He.free_ok X G (c.fact 24 (f := .free "len") rfl)
  z_list := He.free_ok X G (c.fact 25 (f := .free "list") rfl)
  z_max := He.free_ok X G (c.fact 26 (f := .free "max") rfl)
  z_min := He.free_ok X G (c.fact 27 (f := .free "min") rfl)
  z_range := He.free_ok X G (c.fact 28 (f := .free "range") rfl)
  z_repr := He.free_ok X G (c.fact 29 (f := .free "repr") rfl)
  z_set := He.free_ok X G (c.fact 30 (f := .free "set") rfl)
  z_sorted := He.free_ok X G (c.fact 31 (f := .free "sorted") rfl)
  z_str := He.free_ok X G (c.fact 32 (f := .free "str") rfl)
  z_tuple := He.free_ok X G (c.fact 33 (f := .free "tuple") rfl)
theorem law_ok {P : Program} {w : World} {K : PySem.W.Frag} {mg : Str → Option Value} {base : Heap} (T : Top K mg) (B : ∀ x ∈ tf, GxR.TabB base mg (cA K x) (tA K x)) : CalG P w K mg base 9 "law" s_law ["script"] (spLawT K tf) := by
  have c_is_integer := ok_is_integer (P := P) (w := w) (base := base) T 
  have c_is_below := ok_is_below (P := P) (w := w) (base := base) T c_is_integer
  have B_are_integers := B "are_integers" (by decide +kernel)
  have c_are_integers := ok_are_integers (P := P) (w := w) (base := base) T B_are_integers c_is_integer
  have c_is_ascending := ok_is_ascending (P := P) (w := w) (base := base) T c_is_integer
  have B_is_book := B "is_book" (by decide +kernel)
  have c_is_book := ok_is_book (P := P) (w := w) (base := base) T B_is_book c_is_integer c_is_ascending
  have c_check_book := ok_check_book (P := P) (w := w) (base := base) T c_is_book
  have c_row_of_cells := ok_row_of_cells (P := P) (w := w) (base := base) T c_are_integers
  have c_with_key := ok_with_key (P := P) (w := w) (base := base) T c_check_book c_row_of_cells
  have c_check_key := ok_check_key (P := P) (w := w) (base := base) T c_is_below
  have c_without_key := ok_without_key (P := P) (w := w) (base := base) T c_check_book c_check_key
  have c_check_lot := ok_check_lot (P := P) (w := w) (base := base) T c_is_ascending
  have c_part := ok_part (P := P) (w := w) (base := base) T c_check_book c_check_lot
  have c__law_deck := ok__law_deck (P := P) (w := w) (base := base) T 
  have c__law_take := ok__law_take (P := P) (w := w) (base := base) T 
  have c__law_same := ok__law_same (P := P) (w := w) (base := base) T 6
  have c__law_cells := ok__law_cells (P := P) (w := w) (base := base) T c__law_take
  have c__law_page := ok__law_page (P := P) (w := w) (base := base) T c__law_take c__law_cells
  have c__law_lot := ok__law_lot (P := P) (w := w) (base := base) T c__law_take
  have c__law_right := ok__law_right (P := P) (w := w) (base := base) T c__law_page c__law_take c__law_cells c_with_key c_is_book c_without_key c__law_same c__law_lot c_part
  exact ok_law T c__law_right c__law_deck
end K04
open PySem PySem.W PySem.Calls PyProof.Rows
theorem PySem.Challenge.cw_keytellers_k04_whole_keys_more_and_less_holds : PySem.Challenge.rw_keytellers_k04_whole_keys_more_and_less.Holds := by
  w_on; o_law
  refine HandSHeadRun.head_any (r := OpenLaw.row PySem.Challenge.rw_keytellers_k04_whole_keys_more_and_less) (q := view (OpenLaw.row PySem.Challenge.rw_keytellers_k04_whole_keys_more_and_less).prog [28]) (H := K04.hk) (ob := K04.ob) (M := 2000) (loose := K04.loose) (d := HandSHeadRun.topDef (OpenLaw.row PySem.Challenge.rw_keytellers_k04_whole_keys_more_and_less).prog 28) (kwd := []) K04.ob_eq
    (by kernel_rfl) (fun s => by kernel_rfl) K04.run (by kernel_rfl) (by kernel_rfl) (by kernel_rfl) (by rfl) (by first | assumption | decide +kernel) (by decide +kernel) ⟨rfl, rfl, rfl, rfl, rfl, by decide +kernel⟩ ?hw ?hc
  case hw => w_witness2
  case hc =>
    refine Ky.walk_ofG (l := PySem.Challenge.rw_keytellers_k04_whole_keys_more_and_less) (n := 63) (k := 9) (x := "script") rfl (by decide) (by kernel_rfl) ⟨rfl, by decide, by decide⟩ ?F
    intro w mg fa h Y G hmg0
    obtain ⟨K, KX, c⟩ := Y
    have hmg : mg ("law" : PySem.Str) = some (.ref fa) := by
      have e : (HandSHeadRun.topDef (OpenLaw.row PySem.Challenge.rw_keytellers_k04_whole_keys_more_and_less).prog 28).name = ("law" : PySem.Str) := by kernel_rfl
      rw [← e]
      exact hmg0
    exact Ky.law_finG (P := (PySem.Challenge.rw_keytellers_k04_whole_keys_more_and_less).prog) (w := w) KX G c hmg (K04.top_of KX G c.t.d).d_law (fun _ _ _ _ _ _ us hl => match us, hl with | [_], _ => rfl) (fun base hB => K04.law_ok (base := base) (K04.top_of KX G c.t.d) hB)
