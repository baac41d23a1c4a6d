import PyProof.Rows.All
import Wide.All
import OpenK.AllK
import Wide.FinOn
import KE.KStateDown
import Lean
import HandS.ForMost
import HandS.Codes
import HandS.Defaults
import HandS.IsInst
import HandS.Wide
import HandS.WideBits
import HandS.Flow
import HandS.Deep
import HandS.Style
import HandS.Ends
import HandS.Small
import HandS.TupAny
import HandS.SortInts
import HandS.Head0
import HandS.Head1
import HandS.Head2
import HandS.HeadEnd
import HandS.HeadHook1
import HandS.HeadHook2
import PySem.Challenge.RW_keytellers_k01_whole_words
set_option Elab.async false
set_option linter.all false
set_option maxRecDepth 100000
set_option maxHeartbeats 4000000
/-! ### what my proofs share: bundles of a def, calls by names alone, decks, data -/
namespace Ky
open PySem PySem.Spec PyProof.Rows L2
/-- a def of the text as it stands behind the top -/
structure Here (K : PySem.W.Frag) (mg : Str → Option Value) (x : Str) (st : Stmt) : Prop where
  ex : ∃ (f : Addr) (fd : FuncData), FunD K x x (defArgs st) (defBody st) (defScope st) [] [] f fd ∧ mg x = some (.ref f)
/-- .. and it keeps a promise -/
structure CalD (P : Program) (w : World) (K : PySem.W.Frag) (mg : Str → Option Value) (base : Heap) (k : Nat) (x : Str) (st : Stmt) (ps : List Str) (sp : Sp) : Prop where
  ex : ∃ (f : Addr) (fd : FuncData), FnOk P w K mg base CX0 k f fd ps sp ∧ FunD K x x (defArgs st) (defBody st) (defScope st) [] [] f fd ∧ mg x = some (.ref f) ∧ Binds K fd ps []
section
variable {P : Program} {w : World} {K : PySem.W.Frag} {mg : Str → Option Value} {base : Heap} {k : Nat} {x : Str} {st : Stmt} {ps : List Str} {sp : Sp}
theorem cal_mk {N : List Str} (D : Here K mg x st) (S : FnScope N ps (defScope st))
    (hb : ∀ (kV doc pm : Value) (an : Option Addr) (cdv ct : Value) (us : List Value), us.length = ps.length → bindArgs (PySem.W.fnOf x x (defArgs st) (defBody st) (defScope st) .none kV doc pm an cdv ct) ⟨us, []⟩ = pure (ps.zip us))
    (len : ∀ vs H Q E, sp vs H Q E → vs.length = ps.length)
    (hbody : ∀ (f : Addr) (cdv : Value) (A : Around) (outer : List Env) (s : Shared) (H : Hp) (vs : List V) (Q : VK) (E : XK), Room k (A.deeper (envOfC x (defScope st) s.heap.objs.size f cdv)) → sp vs H Q E →
      ∃ t, PSs (cxOf CX0 P w K mg base N x (defScope st) f cdv A outer s H E).nox (defBody st) t ∧ t { nx := fun _ H' => Q .non H', rt := Q } (start N vs) H) : CalD P w K mg base (k + 1) x st ps sp := by
  obtain ⟨f, fd, F, g⟩ := D.ex
  refine ⟨f, fd, F.ok S len fun cdv A outer s H vs Q E hr h => ?_, F, g, F.bindsN hb⟩
  obtain ⟨t, h1, h2⟩ := hbody f cdv A outer s H vs Q E hr h
  exact ⟨t, h1.nox, h2⟩
end
theorem pe_f {X : Cx} {k j : Nat} {x : Str} {st : Stmt} {ps : List Str} {sp : Sp} {p pos : Pos} {e : Expr} {es : List Expr} {t : TA} (c : CalD X.prog X.w X.K X.mg X.base k x st ps sp) (hr : Room j X.A) (hk : k ≤ j) (hg : Gl X x) (ha : PA X (e :: es) t)
    (hdb : (x == ("__debug__" : Str)) = false := by decide) (he : starEach (e :: es) X.env = (false, eval e X.env) :: starEach es X.env := by rfl) (hpl : (backTo pos (starEach es X.env)).any (·.1) = false := by rfl) :
    PE X (.Call (.Name x p) (e :: es) [] pos) (tCall sp [] E0 t) := by
  obtain ⟨f, fd, F, D, hm, b⟩ := c.ex
  exact pe_call F (hr.mono hk) hg hm D.kp b .nil pass0 ha hdb he hpl
/-! ### f(k = v, ..), names alone -/
def permL {α : Type} (perm : List Nat) (zs : List α) : List α := perm.filterMap fun i => zs[i]?
theorem permL_rel {vs : List V} {us : List Value} (r : Vals vs us) : ∀ perm : List Nat, Vals (permL perm vs) (permL perm us)
  | [] => .nil
  | i :: is => by
    unfold permL
    rw [List.filterMap_cons, List.filterMap_cons]
    have ih := permL_rel r is
    cases e : vs[i]? with
    | none =>
      rw [r.none_of e]
      exact ih
    | some v =>
      obtain ⟨u, e2, r2⟩ := r.get e
      rw [e2]
      exact .cons r2 ih
def tCallP (n : Nat) (perm : List Nat) (sp : Sp) (tk : TA) : TE := fun σ H Q => tk σ H fun zs H2 => zs.length = n ∧ sp (permL perm zs) H2 Q E0
theorem pe_k0 {X : Cx} {k j : Nat} {x : Str} {st : Stmt} {ps : List Str} {sp : Sp} {p pos : Pos} {kws : List Keyword} {tk : TA} (ks : List Str) (perm : List Nat)
    (h : ∀ (kV doc pm : Value) (an : Option Addr) (cdv ct : Value) (ws : List Value), ws.length = ks.length → bindArgs (PySem.W.fnOf x x (defArgs st) (defBody st) (defScope st) .none kV doc pm an cdv ct) ⟨[], ks.zip ws⟩ = pure (ps.zip (permL perm ws)))
    (c : CalD X.prog X.w X.K X.mg X.base k x st ps sp) (hr : Room j X.A) (hk : k ≤ j) (hg : Gl X x) (hkw : PK X kws tk)
    (hall : (backToKw pos (keywordEach kws X.env)).all (·.1.isSome) = true := by rfl) (hks : (backToKw pos (keywordEach kws X.env)).filterMap (·.1) = ks := by rfl) (hdb : (x == ("__debug__" : Str)) = false := by decide)
    (hpl : ((backTo pos (starEach [] X.env)).any (·.1) || (backToKw pos (keywordEach kws X.env)).any (·.1.isNone)) = false := by rfl) :
    PE X (.Call (.Name x p) [] kws pos) (tCallP ks.length perm sp tk) := by
  obtain ⟨f, fd, F, D, hm, b⟩ := c.ex
  have kb : KBn X.K fd ps 0 ks (fun _ ws => permL perm ws) (fun _ zs => permL perm zs) := by
    obtain ⟨oc, od, dV, kV, doc, pm, an, cdv, ct, osl, rfl, lk, hcd, hD, hK⟩ := D.ex
    rcases hD with ⟨_, rfl⟩ | ⟨e, _⟩
    · refine ⟨fun s us ws _ l1 l2 => ?_, fun _ r => permL_rel r perm⟩
      have e := List.eq_nil_of_length_eq_zero l1
      subst e
      exact .of_eq (h kV doc pm an cdv ct ws l2)
    · exact absurd rfl e
  refine ⟨fun pins s σ H Q I hh => ?_⟩
  refine wpAny_Call_Name_kw (ld_glob I hg hm ?_ hdb)
  refine PySem.W.callWith_KW0 (h₀ := X.base) I.ok.mod.kin D.kp hall ?_ hpl
  refine thn (hkw.run pos pins s σ H _ I hh) fun ws s2 ⟨zs, H2, I2, rz, l2, q2⟩ => ⟨I2.kIn, ?_⟩
  rw [hks]
  exact run_fnN (us := []) (vs := []) (F.mono hk) hr kb pass0 I2 .nil rz rfl l2 q2
/-! ### the heap but for one object -/
def Off (a : Addr) (H H' : Hp) : Prop := ∀ b o, b ≠ a → H b = some o → H' b = some o
theorem Off.refl (a : Addr) (H : Hp) : Off a H H := fun _ _ _ h => h
theorem Off.trans {a : Addr} {H H1 H2 : Hp} (h : Off a H H1) (h2 : Off a H1 H2) : Off a H H2 := fun b o n e => h2 b o n (h b o n e)
theorem Off.of {a : Addr} {H H' : Hp} (h : Same H H') : Off a H H' := fun b o _ e => h b o e
theorem Off.upd (a : Addr) (H : Hp) (o : HO) : Off a H (upd H a o) := fun b u n e => by rw [upd_ne n]; exact e
theorem same_upd {H : Hp} {p : Addr} {o : HO} (h : H p = none) : Same H (upd H p o) := fun b x e => by
  rw [upd_ne (ne_of_none e h)]
  exact e
theorem Same.tupS {K : PySem.W.Frag} {H H' : Hp} {a : Addr} {xs : List V} (e : Same H H') (h : SqT K H a xs) : SqT K H' a xs := by
  rcases h with (h | ⟨o, h⟩) | h
  · exact .inl (.inl (e _ _ h))
  · exact .inl (.inr ⟨o, e _ _ h⟩)
  · exact .inr h
theorem log2_small {z : Int} (h : z.natAbs < 2 ^ 200) : z.natAbs.log2 < 9000 := Nat.lt_of_lt_of_le (PySem.Flt.log2_lt_of (by decide) h) (by decide)
/-! ### decks of drawn numbers -/
def DeckAt (H : Hp) (a : Addr) : Prop := ∃ x y : Int, H a = some (.lst [.int x, .int y]) ∧ 0 ≤ y ∧ y < 18446744073709551616
theorem DeckAt.upd (H : Hp) (a : Addr) (x : Int) {y : Int} (h0 : 0 ≤ y) (h1 : y < 18446744073709551616) : DeckAt (upd H a (.lst [.int x, .int y])) a := ⟨x, y, upd_same, h0, h1⟩
theorem DeckAt.same {H H' : Hp} {a : Addr} (h : DeckAt H a) (s : Same H H') : DeckAt H' a := by
  obtain ⟨x, y, e, h0, h1⟩ := h
  exact ⟨x, y, s _ _ e, h0, h1⟩
def spTake : Sp := fun vs H Q _ => ∃ (a : Addr) (m : Int), vs = [.ref a, .int m] ∧ DeckAt H a ∧ 0 < m ∧ m.natAbs.log2 < 9000 ∧
  ∀ (t x y : Int), 0 ≤ t → t < m → 0 ≤ y → y < 18446744073709551616 → Q (.int t) (upd H a (.lst [.int x, .int y]))
def spDeck (K : PySem.W.Frag) : Sp := fun vs H Q _ => ∃ (s : Addr) (ns : List Int) (j : Nat), vs = [.ref s, .int (j : Int)] ∧ SqL K H s (ns.map V.int) ∧ j < 1000000 ∧
  ∀ (H' : Hp) (p : Addr), Same H H' → H p = none → DeckAt H' p → Q (.ref p) H'
theorem em61 (z : Int) : (z % 2305843009213693951).natAbs < 2 ^ 61 := by
  have h1 := Int.emod_nonneg z (show (2305843009213693951 : Int) ≠ 0 by decide)
  have h2 := Int.emod_lt_of_pos z (show (0 : Int) < 2305843009213693951 by decide)
  omega
/-! ### data -/
mutual
theorem Dp.same {K : PySem.W.Frag} {H H' : Hp} (s : Same H H') : ∀ (d : PyData) (v : V), Dp K H v d → Dp K H' v d
  | .none, _, h => by cases h; exact .non
  | .bool b, _, h => by cases h; exact .bl b
  | .int i, _, h => by cases h; exact .int i
  | .str x, _, h => by cases h; exact .str x
  | .list ds, _, h => by
    cases h with
    | lst h1 h2 => exact .lst (s.seq h1) (DpAll.same s ds _ h2)
  | .tuple ds, _, h => by
    cases h with
    | tup h1 h2 => exact .tup (Same.tupS s h1) (DpAll.same s ds _ h2)
  | .dict _, _, h => nomatch h
theorem DpAll.same {K : PySem.W.Frag} {H H' : Hp} (s : Same H H') : ∀ (ds : List PyData) (vs : List V), DpAll K H vs ds → DpAll K H' vs ds
  | [], _, h => by cases h; exact .nil
  | d :: ds, _, h => by
    cases h with
    | cons h1 h2 => exact .cons (Dp.same s d _ h1) (DpAll.same s ds _ h2)
end
/-- of nesting below n, no dicts, lists and tuples of fewer than 2 ^ 62 items -/
def Fit : Nat → PyData → Prop
  | 0, _ => False
  | _ + 1, .none => True
  | _ + 1, .bool _ => True
  | _ + 1, .int _ => True
  | _ + 1, .str _ => True
  | n + 1, .list ds => ds.length < 4611686018427387904 ∧ ∀ e ∈ ds, Fit n e
  | n + 1, .tuple ds => ds.length < 4611686018427387904 ∧ ∀ e ∈ ds, Fit n e
  | _ + 1, .dict _ => False
theorem DpAll.get {K : PySem.W.Frag} {H : Hp} : ∀ (ds : List PyData) {vs : List V} {i : Nat} {d : PyData}, DpAll K H vs ds → ds[i]? = some d → ∃ v, vs[i]? = some v ∧ Dp K H v d
  | [], _, _, _, _, e => by simp at e
  | d0 :: ds, _, i, d, h, e => by
    cases h with
    | cons h1 h2 =>
      cases i with
      | zero =>
        have e2 := Option.some.inj (show some d0 = some d from e)
        subst e2
        exact ⟨_, rfl, h1⟩
      | succ i =>
        obtain ⟨v, e1, e2⟩ := DpAll.get ds (i := i) h2 (by simpa using e)
        exact ⟨v, by simpa using e1, e2⟩
theorem DpAll.length {K : PySem.W.Frag} {H : Hp} : ∀ (ds : List PyData) {vs : List V}, DpAll K H vs ds → vs.length = ds.length
  | [], _, h => by cases h; rfl
  | d :: ds, _, h => by
    cases h with
    | cons h1 h2 => exact congrArg (· + 1) (DpAll.length ds h2)
theorem ty_list {K : PySem.W.Frag} {H : Hp} {a : Addr} {xs : List V} (h : SqL K H a xs) : TyX K H (.ref a) (.type "list") := by
  rcases h with (h | ⟨o, h⟩) | ⟨o, its, n, hk, hc, _⟩
  · exact .base (.lst h)
  · exact .base (.frz h)
  · exact .kList hk hc
theorem ty_tuple {K : PySem.W.Frag} {H : Hp} {a : Addr} {xs : List V} (h : SqT K H a xs) : TyX K H (.ref a) (.type "tuple") := by
  rcases h with (h | ⟨o, h⟩) | ⟨o, its, n, hk, hc, _⟩
  · exact .base (.tup h)
  · exact .fTuple h
  · exact .kTuple hk hc
/-- the built-in type of such data -/
def tyD : PyData → String
  | .none => "NoneType"
  | .bool _ => "bool"
  | .int _ => "int"
  | .str _ => "str"
  | .list _ => "list"
  | .tuple _ => "tuple"
  | .dict _ => "dict"
theorem ty_data {K : PySem.W.Frag} {H : Hp} {v : V} {d : PyData} (h : Dp K H v d) : TyX K H v (.type (tyD d)) := by
  cases h with
  | non => exact .base .non
  | bl b => exact .base (.bl b)
  | int i => exact .base (.int i)
  | str x => exact .base (.str x)
  | lst h _ => exact ty_list h
  | tup h _ => exact ty_tuple h
theorem kit2 {K : PySem.W.Frag} {a b c : String} {r s : Bool} (h1 : kitB a b = some r) (h2 : kitB a c = some s) : PySem.W.kitAny K (.type a) [.type b, .type c] = some (r || s) := by
  unfold PySem.W.kitAny
  rw [kit_ty h1]
  cases r with
  | true => rfl
  | false =>
    show PySem.W.kitAny K (.type a) [.type c] = some s
    unfold PySem.W.kitAny
    rw [kit_ty h2]
    cases s <;> rfl
/-- the same data at both: True -/
def spSame (K : PySem.W.Frag) (n : Nat) : Sp := fun vs H Q _ => ∃ (x y : V) (d : PyData), vs = [x, y] ∧ Dp K H x d ∧ Dp K H y d ∧ Fit n d ∧ ∀ H', Same H H' → Q (.bl true) H'
theorem dpI {K : PySem.W.Frag} {H : Hp} : ∀ l : List Int, DpAll K H (l.map V.int) (l.map PyData.int)
  | [] => .nil
  | i :: l => .cons (.int i) (dpI l)
theorem dpB {K : PySem.W.Frag} {H : Hp} : ∀ l : List Bool, DpAll K H (l.map V.bl) (l.map PyData.bool)
  | [] => .nil
  | i :: l => .cons (.bl i) (dpB l)
theorem fitI (n : Nat) (l : List Int) (h : l.length < 1000000) : Fit (n + 2) (.list (l.map PyData.int)) ∧ Fit (n + 2) (.tuple (l.map PyData.int)) := by
  have h1 : (l.map PyData.int).length < 4611686018427387904 := by
    rw [List.length_map]
    omega
  have h2 : ∀ e ∈ l.map PyData.int, Fit (n + 1) e := fun e he => by
    obtain ⟨i, _, rfl⟩ := List.mem_map.mp he
    exact trivial
  exact ⟨⟨h1, h2⟩, ⟨h1, h2⟩⟩
theorem fitB (n : Nat) (l : List Bool) (h : l.length < 1000000) : Fit (n + 2) (.list (l.map PyData.bool)) := by
  have h1 : (l.map PyData.bool).length < 4611686018427387904 := by
    rw [List.length_map]
    omega
  exact ⟨h1, fun e he => by
    obtain ⟨i, _, rfl⟩ := List.mem_map.mp he
    exact trivial⟩
/-- two lists of ints, one behind the other, that hold the same -/
theorem two_i {K : PySem.W.Frag} {H : Hp} {p1 p2 : Addr} (l l' : List Int) (e : l = l') (h1 : H p1 = some (.lst (l.map V.int))) (h2 : H p2 = none) :
    Dp K (upd H p2 (.lst (l'.map V.int))) (.ref p1) (.list (l.map PyData.int)) ∧ Dp K (upd H p2 (.lst (l'.map V.int))) (.ref p2) (.list (l.map PyData.int)) := by
  subst e
  exact ⟨.lst (SqL.of (same_upd h2 _ _ h1)) (dpI l), .lst (SqL.of upd_same) (dpI l)⟩
theorem two_b {K : PySem.W.Frag} {H : Hp} {p1 p2 : Addr} (l l' : List Bool) (e : l = l') (h1 : H p1 = some (.lst (l.map V.bl))) (h2 : H p2 = none) :
    Dp K (upd H p2 (.lst (l'.map V.bl))) (.ref p1) (.list (l.map PyData.bool)) ∧ Dp K (upd H p2 (.lst (l'.map V.bl))) (.ref p2) (.list (l.map PyData.bool)) := by
  subst e
  exact ⟨.lst (SqL.of (same_upd h2 _ _ h1)) (dpB l), .lst (SqL.of upd_same) (dpB l)⟩
/-! ### rules with the written part named (within a comprehension) -/
section
variable {X : Cx}
def tTru (K : PySem.W.Frag) (ta : TE) : TT := fun σ H Q => ta σ H fun x H' => ∃ k, TruV K x H' k ∧ Q k H'
theorem pt_truth_at (K : PySem.W.Frag) (e : X.K = K) {a : Expr} {ta : TE} (ha : PE X a ta) (he : ∀ whole, isTrue a X.env whole = (do let v ← whole; standAt a.pos; holding [v] (truthy v))) :
    PT X a (tTru K ta) := by subst e; exact pt_truth ha he
theorem ix_seq_at (K : PySem.W.Frag) (e : X.K = K) : IxR X (rIx K) := by subst e; exact ix_seq
theorem ix_list_at (K : PySem.W.Frag) (e : X.K = K) : IxR X (rIxL K) := by subst e; exact ix_list
theorem ix_tup_at (K : PySem.W.Frag) (e : X.K = K) : IxR X (rIxT K) := by subst e; exact ix_tup
theorem call_isi_at (K : PySem.W.Frag) (e : X.K = K) : CallR X (.builtin "isinstance") (rIsi K) := by subst e; exact call_isi
theorem call_isiT_at (K : PySem.W.Frag) (e : X.K = K) : CallR X (.builtin "isinstance") (rIsiT K) := by subst e; exact call_isiT
theorem call_len_seq_at (K : PySem.W.Frag) (e : X.K = K) : CallR X (.builtin "len") (fun xs H Q => ∃ p ys, xs = [.ref p] ∧ (SqL K H p ys ∨ SqT K H p ys) ∧ Q (.int ys.length) H) := by subst e; exact call_len_seq
end
/-! ### the end -/
theorem here_mk {fa : List He.Fa} {fn : List He.DefD} {K : PySem.W.Frag} {h : Heap} {mg : Str → Option Value} (X : K.In h) (G : h.Ns mainGlobals mg) (c : He.SaysD fa fn K) (i j : Nat) {x : Str} {st : Stmt}
    (hi : fn[i]? = some ⟨(x, none), x, x, defArgs st, defBody st, defScope st, [], []⟩) (hj : fa[j]? = some (.glo x)) : Here K mg x st := by
  obtain ⟨fd, F⟩ := c.def_ i hi
  exact ⟨_, fd, F, He.glo_ok X G (c.fact j hj)⟩
/-- a law over the script's list: True -/
def spLaw (K : PySem.W.Frag) : Sp := fun vs H Q _ => ∃ (s : Addr) (ns : List Int), vs = [.ref s] ∧ SqL K H s (ns.map V.int) ∧ ns.length ≤ 63 ∧ ∀ H', Q (.bl true) H'
theorem law_fin {P : Program} {w : World} {K : PySem.W.Frag} {h : Heap} {mg : Str → Option Value} {fa : Addr} {k : Nat} {st : Stmt} (X : K.In h) (G : h.Ns mainGlobals mg) (hmg : mg ("law" : Str) = some (.ref fa)) (D : Here K mg "law" st)
    (hb : ∀ (kV doc pm : Value) (an : Option Addr) (cdv ct : Value) (us : List Value), us.length = (["script"] : List Str).length → bindArgs (PySem.W.fnOf "law" "law" (defArgs st) (defBody st) (defScope st) .none kV doc pm an cdv ct) ⟨us, []⟩ = pure ((["script"] : List Str).zip us))
    (C : ∀ base : Heap, CalD P w K mg base k "law" st ["script"] (spLaw K)) :
    ∃ (K : PySem.W.Frag) (fd : FuncData) (sp : Sp), K.In h ∧ (∀ (s : Shared) (u : Value), BindsTo s fd ⟨[u], []⟩ [(("script" : Str), u)]) ∧
      (∀ (H : Hp) (a : Addr) (ns : List Int), ns.length ≤ 63 → Only H → SqL K H a (ns.map V.int) → sp [.ref a] H (fun v _ => v = .bl true) fun _ _ _ => False) ∧
      ∀ base : Heap, K.In base → base.Ns mainGlobals mg → FnOk P w K mg base CX0 k fa fd ["script"] sp := by
  obtain ⟨f, fd, F, g⟩ := D.ex
  have e := hmg.symm.trans g
  cases e
  have b := FunD.bindsA (ps := ["script"]) F hb
  refine ⟨K, fd, spLaw K, X, fun s v => b s [v] rfl, fun H a ns hl _ hS => ⟨a, ns, rfl, hS, hl, fun _ => rfl⟩, fun base _ _ => ?_⟩
  obtain ⟨f2, fd2, F2, D2, g2, _⟩ := (C base).ex
  have e2 := g.symm.trans g2
  cases e2
  have e3 : fd = fd2 := by
    obtain ⟨_, _, _, _, _, _, _, _, _, _, _, l1, _⟩ := F.ex
    obtain ⟨_, _, _, _, _, _, _, _, _, _, _, l2, _⟩ := D2.ex
    have l3 := l1.symm.trans l2
    injection l3 with l4
    injection l4 with _ _ l5
    injection l5
  rw [e3]
  exact F2
end Ky
/-! ### words as naturals -/
namespace Ky
open PySem PySem.Spec PyProof.Rows L2
theorem or_eq : ∀ (k n m : Nat), n < 2 ^ k → m < 2 ^ k → n ||| m = (n ^^^ m) + (n &&& m)
  | 0, n, m, hn, hm => by
    have e1 : n = 0 := by simpa using hn
    have e2 : m = 0 := by simpa using hm
    subst e1 e2
    rfl
  | k + 1, n, m, hn, hm => by
    have ih := or_eq k (n / 2) (m / 2) (by rw [Nat.pow_succ] at hn; omega) (by rw [Nat.pow_succ] at hm; omega)
    rw [← Nat.or_div_two, ← Nat.xor_div_two, ← Nat.and_div_two] at ih
    have h1 : (n ||| m) % 2 = (n ^^^ m) % 2 + (n &&& m) % 2 := by
      have a1 := Nat.or_mod_two_pow (a := n) (b := m) (n := 1)
      have a2 := Nat.xor_mod_two_pow (a := n) (b := m) (n := 1)
      have a3 := Nat.and_mod_two_pow (a := n) (b := m) (n := 1)
      rw [Nat.pow_one] at a1 a2 a3
      rw [a1, a2, a3]
      rcases Nat.mod_two_eq_zero_or_one n with e | e <;> rcases Nat.mod_two_eq_zero_or_one m with f | f <;> rw [e, f] <;> rfl
    omega
theorem lt_pow_self2 (n m : Nat) : n < 2 ^ (n + m) ∧ m < 2 ^ (n + m) := by
  have h := Nat.lt_two_pow_self (n := n + m)
  omega
theorem bitXor_nat (n m : Nat) : Builtin.bitXor (n : Int) (m : Int) = ((n ^^^ m : Nat) : Int) := by
  have h := or_eq (n + m) n m (lt_pow_self2 n m).1 (lt_pow_self2 n m).2
  show Builtin.bitOr (n : Int) (m : Int) - Builtin.bitAnd (n : Int) (m : Int) = _
  have e2 : Builtin.bitAnd (n : Int) (m : Int) = ((n &&& m : Nat) : Int) := by
    have h1 : (0 : Int) ≤ (n : Int) := by omega
    have h2 : (0 : Int) ≤ (m : Int) := by omega
    unfold Builtin.bitAnd
    simp [h1, h2]
  rw [bitOr_nn (by omega) (by omega), e2, Int.toNat_natCast, Int.toNat_natCast, h]
  omega
/-- how many bits -/
def bl (n : Nat) : Nat := if n = 0 then 0 else n.log2 + 1
theorem bl_int (n : Nat) : Builtin.Int.intBits (n : Int) = bl n := by
  unfold Builtin.Int.intBits bl
  by_cases h : n = 0
  · subst h
    rfl
  · have h1 : ¬ ((n : Int) == 0) = true := by simpa using h
    rw [if_neg h1, if_neg h]
    rfl
theorem bl_le (n w : Nat) : bl n ≤ w ↔ n < 2 ^ w := by
  unfold bl
  by_cases h : n = 0
  · subst h
    rw [if_pos rfl]
    exact ⟨fun _ => Nat.pow_pos (by decide), fun _ => Nat.zero_le _⟩
  · rw [if_neg h]
    have := Nat.log2_lt (n := n) (k := w) h
    omega
/-- the width -/
def wid (n : Nat) : Nat := max 1 (bl n)
theorem wid_of {n f : Nat} (h1 : 1 ≤ f) (h : n < 2 ^ f) (h2 : f = 1 ∨ 2 ^ (f - 1) ≤ n) : f = wid n := by
  have a := (bl_le n f).mpr h
  unfold wid
  rcases h2 with e | e
  · omega
  · have b : ¬ bl n ≤ f - 1 := fun q => by
      have := (bl_le n (f - 1)).mp q
      omega
    omega
/-- the places of the bits below t -/
def plc (n t : Nat) : List Nat := (List.range t).filter fun k => n.testBit k
theorem plc_succ (n t : Nat) : plc n (t + 1) = plc n t ++ if n.testBit t = true then [t] else [] := by
  unfold plc
  rw [List.range_succ, List.filter_append]
  congr 1
  by_cases h : n.testBit t = true
  · rw [if_pos h]
    simp [h]
  · rw [if_neg h]
    simp [h]
theorem plc_more {n t : Nat} (h : n < 2 ^ t) : ∀ d, plc n (t + d) = plc n t
  | 0 => rfl
  | d + 1 => by
    have e : n.testBit (t + d) = false := Nat.testBit_lt_two_pow (Nat.lt_of_lt_of_le h (Nat.pow_le_pow_right (by decide) (Nat.le_add_right _ _)))
    rw [show t + (d + 1) = (t + d) + 1 from rfl, plc_succ, plc_more h d, if_neg (by rw [e]; decide), List.append_nil]
theorem plc_eq {n t s : Nat} (h : n < 2 ^ t) (h2 : n < 2 ^ s) : plc n t = plc n s := by
  rcases Nat.le_total t s with e | e
  · obtain ⟨d, rfl⟩ := Nat.le.dest e
    exact (plc_more h d).symm
  · obtain ⟨d, rfl⟩ := Nat.le.dest e
    exact plc_more h2 d
theorem plc_len (n t : Nat) : (plc n t).length ≤ t := by
  unfold plc
  exact Nat.le_trans (List.length_filter_le _ _) (by rw [List.length_range]; exact Nat.le_refl _)
theorem testBit_mod (n t : Nat) : n.testBit t = decide (n / 2 ^ t % 2 = 1) := Nat.testBit_eq_decide_div_mod_eq
/-- bits by halves -/
theorem low_succ (x t : Nat) : x % 2 ^ (t + 1) = x % 2 ^ t + 2 ^ t * (x / 2 ^ t % 2) := by
  rw [Nat.pow_succ, Nat.mod_mul]
theorem xor_bit (n m t : Nat) : (n ^^^ m) / 2 ^ t % 2 = if n / 2 ^ t % 2 = m / 2 ^ t % 2 then 0 else 1 := by
  have h : (n ^^^ m).testBit t = (n.testBit t ^^ m.testBit t) := Nat.testBit_xor ..
  rw [testBit_mod, testBit_mod, testBit_mod] at h
  rcases Nat.mod_two_eq_zero_or_one (n / 2 ^ t) with e | e <;> rcases Nat.mod_two_eq_zero_or_one (m / 2 ^ t) with f | f <;> rcases Nat.mod_two_eq_zero_or_one ((n ^^^ m) / 2 ^ t) with g | g <;> simp_all
theorem half_pow (n t : Nat) : n / 2 ^ t / 2 = n / 2 ^ (t + 1) := by
  rw [Nat.div_div_eq_div_mul, Nat.pow_succ]
theorem lt_of_div {n t : Nat} (h : n / 2 ^ t = 0) : n < 2 ^ t := by
  have := Nat.div_eq_zero_iff.mp h
  have p : 0 < 2 ^ t := Nat.pow_pos (by decide)
  omega
theorem nat_zero {a : Nat} (h : ¬ decide ((0 : Int) < (a : Int)) = true) : a = 0 := by
  have h1 : ¬ (0 : Int) < (a : Int) := fun e => h (decide_eq_true e)
  omega
theorem nat_pos {a : Nat} (h : decide ((0 : Int) < (a : Int)) = true) : a ≠ 0 := by
  have h1 : (0 : Int) < (a : Int) := of_decide_eq_true h
  omega
theorem cast_half (a : Nat) : (a : Int) / 2 = ((a / 2 : Nat) : Int) := by omega
theorem cast_mod2 (a : Nat) : (a : Int) % 2 = ((a % 2 : Nat) : Int) := by omega
theorem half_lt {a b : Nat} (h : ¬ (a = 0 ∧ b = 0)) : a / 2 + b / 2 < a + b := by omega
theorem half_lt1 {a : Nat} (h : a ≠ 0) : a / 2 < a := by omega
end Ky
/-! ### the promises of the words' functions -/
namespace Ky
open PySem PySem.Spec PyProof.Rows L2
def isIntD : PyData → Int → Bool
  | .int i, l => decide (l ≤ i)
  | _, _ => false
def spIsInt (K : PySem.W.Frag) : Sp := fun vs H Q _ => ∃ (x : V) (d : PyData) (l : Int), vs = [x, .int l] ∧ Dp K H x d ∧ Q (.bl (isIntD d l)) H
def spCheckWord : Sp := fun vs H Q _ => ∃ n : Nat, vs = [.int (n : Int)] ∧ Q .non H
def spAdded : Sp := fun vs H Q _ => ∃ n m : Nat, vs = [.int (n : Int), .int (m : Int)] ∧ Q (.int ((n ^^^ m : Nat) : Int)) H
def intsV (l : List Nat) : List V := l.map fun (k : Nat) => V.int (k : Int)
def spBits : Sp := fun vs H Q _ => ∃ n : Nat, vs = [.int (n : Int)] ∧ bl n ≤ 100000 ∧ ∀ (H' : Hp) (p : Addr), Same H H' → H' p = some (.tup (intsV (plc n (bl n)))) → Q (.ref p) H'
def spWidth : Sp := fun vs H Q _ => ∃ n : Nat, vs = [.int (n : Int)] ∧ Q (.int (wid n : Int)) H
def isWordD : PyData → Nat → Bool
  | .int i, w => decide (0 ≤ i) && decide (i < 2 ^ w)
  | _, _ => false
def spIsWord (K : PySem.W.Frag) : Sp := fun vs H Q _ => ∃ (x : V) (d : PyData) (w : Nat), vs = [.int (w : Int), x] ∧ 1 ≤ w ∧ Dp K H x d ∧ Q (.bl (isWordD d w)) H
/-- a drawn word -/
def spWord : Sp := fun vs H Q _ => ∃ (a : Addr) (most : Nat), vs = [.ref a, .int (most : Int)] ∧ DeckAt H a ∧ most ≤ 1000 ∧ ∀ (n : Nat) (H' : Hp), n < 2 ^ (most + 2) → Off a H H' → DeckAt H' a → Q (.int (n : Int)) H'
def spSum : Sp := fun vs H Q _ => ∃ n m : Nat, vs = [.int (n : Int), .int (m : Int)] ∧ n < 2 ^ 1100 ∧ m < 2 ^ 1100 ∧ ∀ H', Same H H' → Q (.int ((n ^^^ m : Nat) : Int)) H'
def spPower : Sp := fun vs H Q _ => ∃ n : Nat, vs = [.int (n : Int)] ∧ n ≤ 100000 ∧ Q (.int ((2 ^ n : Nat) : Int)) H
def spPlaces : Sp := fun vs H Q _ => ∃ n : Nat, vs = [.int (n : Int)] ∧ bl n ≤ 100000 ∧ ∀ (H' : Hp) (p : Addr), Same H H' → H' p = some (.tup (intsV (plc n (bl n)))) → Q (.ref p) H'
def spWidthL : Sp := fun vs H Q _ => ∃ n : Nat, vs = [.int (n : Int)] ∧ bl n ≤ 100000 ∧ ∀ H', Same H H' → Q (.int (wid n : Int)) H'
def spRight : Sp := fun vs H Q _ => ∃ a : Addr, vs = [.ref a] ∧ DeckAt H a ∧ ∀ H', Off a H H' → Q (.bl true) H'
theorem cmulx {n m a b : Nat} (h1 : n < 2 ^ a) (h2 : m < 2 ^ b) (h : a + b ≤ 134217728) : CMulX (n : Int) (m : Int) := mulx_ok (a := a) (b := b) (by simpa using h1) (by simpa using h2) h
theorem cast_pow (t : Nat) : ((2 ^ t : Nat) : Int) = (2 : Int) ^ t := by
  rw [Int.natCast_pow]
  rfl
theorem bl_pow_le {n w : Nat} (h : n < 2 ^ w) : bl n ≤ w := (bl_le n w).mpr h
theorem intsV_map (l : List Nat) : intsV l = (l.map fun k : Nat => (k : Int)).map V.int := by
  unfold intsV
  rw [List.map_map]
  rfl
/-- two tuples of naturals -/
theorem dpT {K : PySem.W.Frag} {H : Hp} {p : Addr} (l : List Nat) (h : H p = some (.tup (intsV l))) : Dp K H (.ref p) (.tuple ((l.map fun k : Nat => (k : Int)).map PyData.int)) := by
  rw [intsV_map] at h
  exact .tup (SqT.of h) (dpI _)
theorem wid_pos (n : Nat) : 1 ≤ wid n := by
  unfold wid
  omega
theorem wid_lt (n : Nat) : n < 2 ^ wid n := (bl_le n (wid n)).mp (by unfold wid; omega)
theorem wid_le {n w : Nat} (hw : 1 ≤ w) : n < 2 ^ w ↔ wid n ≤ w := by
  have := bl_le n w
  unfold wid
  omega
theorem isWord_nat (n w : Nat) : isWordD (.int (n : Int)) w = decide (n < 2 ^ w) := by
  show (decide (0 ≤ (n : Int)) && decide ((n : Int) < 2 ^ w)) = _
  rw [decide_eq_true (by omega : 0 ≤ (n : Int)), Bool.true_and, ← cast_pow]
  by_cases h : n < 2 ^ w
  · rw [decide_eq_true h, decide_eq_true (Int.ofNat_lt.mpr h)]
  · rw [decide_eq_false h, decide_eq_false (fun e => h (Int.ofNat_lt.mp e))]
theorem isWord_3 (n low : Nat) (h : 1 ≤ low) : [isWordD (.int (n : Int)) (wid n), isWordD (.int (n : Int)) low, isWordD (.int (n : Int)) (wid n + 1)] = [true, decide ((wid n : Int) ≤ (low : Int)), true] := by
  have h1 := wid_lt n
  have h2 : n < 2 ^ (wid n + 1) := Nat.lt_trans h1 (Nat.pow_lt_pow_right (by decide) (by omega))
  rw [isWord_nat, isWord_nat, isWord_nat, decide_eq_true h1, decide_eq_true h2]
  have h3 := wid_le (n := n) h
  by_cases h4 : n < 2 ^ low
  · rw [decide_eq_true h4, decide_eq_true (Int.ofNat_le.mpr (h3.mp h4))]
  · rw [decide_eq_false h4, decide_eq_false (fun e => h4 (h3.mpr (Int.ofNat_le.mp e)))]
theorem isWord_less {n : Nat} (h : 1 < wid n) : isWordD (.int (n : Int)) (wid n - 1) = false := by
  rw [isWord_nat]
  refine decide_eq_false fun e => ?_
  have := (wid_le (n := n) (w := wid n - 1) (by omega)).mp e
  omega
theorem isWord_pow (low : Nat) : [isWordD (.int ((2 ^ low : Nat) : Int)) low, isWordD (.int (((2 ^ low : Nat) : Int) - 1)) low] = [false, true] := by
  have hp : 0 < 2 ^ low := Nat.pow_pos (by decide)
  rw [show (((2 ^ low : Nat) : Int) - 1) = ((2 ^ low - 1 : Nat) : Int) by omega, isWord_nat, isWord_nat, decide_eq_false (Nat.lt_irrefl _), decide_eq_true (by omega)]
theorem isWord_neg {i : Int} (h : i < 0) (w : Nat) : isWordD (.int i) w = false := by
  show (decide (0 ≤ i) && _) = false
  rw [decide_eq_false (by omega), Bool.false_and]
def spCheckNum : Sp := fun vs H Q _ => ∃ n l : Nat, vs = [.int (n : Int), .int (l : Int)] ∧ l ≤ n ∧ Q .non H
def isBelowD : PyData → Int → Bool
  | .int i, t => decide (0 ≤ i) && decide (i < t)
  | _, _ => false
def spIsBelow (K : PySem.W.Frag) : Sp := fun vs H Q _ => ∃ (x : V) (d : PyData) (t : Int), vs = [x, .int t] ∧ Dp K H x d ∧ Q (.bl (isBelowD d t)) H
theorem isBelow_no {d : PyData} {t : Int} (h : ¬ isIntD d 0 = true) : isBelowD d t = isIntD d 0 := by
  cases d with
  | int i =>
    have e : isIntD (.int i) 0 = false := Bool.not_eq_true _ ▸ h
    rw [e]
    show (decide (0 ≤ i) && decide (i < t)) = false
    have e2 : decide (0 ≤ i) = false := e
    rw [e2, Bool.false_and]
  | _ => rfl
theorem isBelow_nat {k t : Nat} (h : k < t) : isBelowD (.int (k : Int)) (t : Int) = true := by
  show (decide (0 ≤ (k : Int)) && decide ((k : Int) < (t : Int))) = true
  rw [decide_eq_true (Int.natCast_nonneg k), decide_eq_true (Int.ofNat_lt.mpr h)]
  rfl
end Ky
namespace K01
open PySem PySem.Spec PyProof.Rows L2 Ky
def topS (i : Nat) : Stmt := PySem.Challenge.pw_keytellers_k01_whole_words.main.body.getD i (.Pass ⟨0, 0, 0, 0⟩)
abbrev s_is_integer : Stmt := topS 5
abbrev N_is_integer : List Str := ["told", "least"]
theorem sc_is_integer : FnScope ["told", "least"] ["told", "least"] (defScope s_is_integer) := ⟨rfl, rfl, rfl, by decide +kernel, rfl, by decide +kernel, by decide +kernel⟩
abbrev s_check_number : Stmt := topS 6
abbrev N_check_number : List Str := ["told", "least"]
theorem sc_check_number : FnScope ["told", "least"] ["told", "least"] (defScope s_check_number) := ⟨rfl, rfl, rfl, by decide +kernel, rfl, by decide +kernel, by decide +kernel⟩
abbrev s_added : Stmt := topS 8
abbrev N_added : List Str := ["a", "b"]
theorem sc_added : FnScope ["a", "b"] ["a", "b"] (defScope s_added) := ⟨rfl, rfl, rfl, by decide +kernel, rfl, by decide +kernel, by decide +kernel⟩
abbrev s_bits : Stmt := topS 9
abbrev N_bits : List Str := ["a", "place"]
theorem sc_bits : FnScope ["a", "place"] ["a"] (defScope s_bits) := ⟨rfl, rfl, rfl, by decide +kernel, rfl, by decide +kernel, by decide +kernel⟩
abbrev s_width : Stmt := topS 10
abbrev N_width : List Str := ["a"]
theorem sc_width : FnScope ["a"] ["a"] (defScope s_width) := ⟨rfl, rfl, rfl, by decide +kernel, rfl, by decide +kernel, by decide +kernel⟩
abbrev s_is_word : Stmt := topS 11
abbrev N_is_word : List Str := ["w", "told"]
theorem sc_is_word : FnScope ["w", "told"] ["w", "told"] (defScope s_is_word) := ⟨rfl, rfl, rfl, by decide +kernel, rfl, by decide +kernel, by decide +kernel⟩
abbrev s_check_word : Stmt := topS 12
abbrev N_check_word : List Str := ["told"]
theorem sc_check_word : FnScope ["told"] ["told"] (defScope s_check_word) := ⟨rfl, rfl, rfl, by decide +kernel, rfl, by decide +kernel, by decide +kernel⟩
abbrev s__law_deck : Stmt := topS 14
abbrev N__law_deck : List Str := ["script", "at", "cell", "stir"]
theorem sc__law_deck : FnScope ["script", "at", "cell", "stir"] ["script", "at"] (defScope s__law_deck) := ⟨rfl, rfl, rfl, by decide +kernel, rfl, by decide +kernel, by decide +kernel⟩
abbrev s__law_take : Stmt := topS 15
abbrev N__law_take : List Str := ["deck", "many", "taken"]
theorem sc__law_take : FnScope ["deck", "many", "taken"] ["deck", "many"] (defScope s__law_take) := ⟨rfl, rfl, rfl, by decide +kernel, rfl, by decide +kernel, by decide +kernel⟩
abbrev s__law_same : Stmt := topS 16
abbrev N__law_same : List Str := ["found", "due", "at"]
theorem sc__law_same : FnScope ["found", "due", "at"] ["found", "due"] (defScope s__law_same) := ⟨rfl, rfl, rfl, by decide +kernel, rfl, by decide +kernel, by decide +kernel⟩
abbrev s__law_word : Stmt := topS 17
abbrev N__law_word : List Str := ["deck", "most", "wide", "found", "power", "turn"]
theorem sc__law_word : FnScope ["deck", "most", "wide", "found", "power", "turn"] ["deck", "most"] (defScope s__law_word) := ⟨rfl, rfl, rfl, by decide +kernel, rfl, by decide +kernel, by decide +kernel⟩
abbrev s__law_sum : Stmt := topS 18
abbrev N__law_sum : List Str := ["a_word", "b_word", "found", "power"]
theorem sc__law_sum : FnScope ["a_word", "b_word", "found", "power"] ["a_word", "b_word"] (defScope s__law_sum) := ⟨rfl, rfl, rfl, by decide +kernel, rfl, by decide +kernel, by decide +kernel⟩
abbrev s__law_power : Stmt := topS 19
abbrev N__law_power : List Str := ["many", "found", "turn"]
theorem sc__law_power : FnScope ["many", "found", "turn"] ["many"] (defScope s__law_power) := ⟨rfl, rfl, rfl, by decide +kernel, rfl, by decide +kernel, by decide +kernel⟩
abbrev s__law_places : Stmt := topS 20
abbrev N__law_places : List Str := ["word", "found", "at"]
theorem sc__law_places : FnScope ["word", "found", "at"] ["word"] (defScope s__law_places) := ⟨rfl, rfl, rfl, by decide +kernel, rfl, by decide +kernel, by decide +kernel⟩
abbrev s__law_width : Stmt := topS 21
abbrev N__law_width : List Str := ["word", "found", "power"]
theorem sc__law_width : FnScope ["word", "found", "power"] ["word"] (defScope s__law_width) := ⟨rfl, rfl, rfl, by decide +kernel, rfl, by decide +kernel, by decide +kernel⟩
abbrev s__law_right : Stmt := topS 22
abbrev N__law_right : List Str := ["deck", "most", "first", "second", "due", "places", "wide", "low", "found", "odd"]
theorem sc__law_right : FnScope ["deck", "most", "first", "second", "due", "places", "wide", "low", "found", "odd"] ["deck"] (defScope s__law_right) := ⟨rfl, rfl, rfl, by decide +kernel, rfl, by decide +kernel, by decide +kernel⟩
abbrev s_law : Stmt := topS 23
abbrev N_law : List Str := ["script", "at"]
theorem sc_law : FnScope ["script", "at"] ["script"] (defScope s_law) := ⟨rfl, rfl, rfl, by decide +kernel, rfl, by decide +kernel, by decide +kernel⟩
/-- what the top has written -/
structure Top (K : PySem.W.Frag) (mg : Str → Option Value) : Prop where
  d_is_integer : Here K mg "is_integer" s_is_integer
  d_check_number : Here K mg "check_number" s_check_number
  d_added : Here K mg "added" s_added
  d_bits : Here K mg "bits" s_bits
  d_width : Here K mg "width" s_width
  d_is_word : Here K mg "is_word" s_is_word
  d_check_word : Here K mg "check_word" s_check_word
  d__law_deck : Here K mg "_law_deck" s__law_deck
  d__law_take : Here K mg "_law_take" s__law_take
  d__law_same : Here K mg "_law_same" s__law_same
  d__law_word : Here K mg "_law_word" s__law_word
  d__law_sum : Here K mg "_law_sum" s__law_sum
  d__law_power : Here K mg "_law_power" s__law_power
  d__law_places : Here K mg "_law_places" s__law_places
  d__law_width : Here K mg "_law_width" s__law_width
  d__law_right : Here K mg "_law_right" s__law_right
  d_law : Here K mg "law" s_law
  z_bool : mg "bool" = none
  z_int : mg "int" = none
  z_isinstance : mg "isinstance" = none
  z_len : mg "len" = none
  z_list : mg "list" = none
  z_max : mg "max" = none
  z_min : mg "min" = none
  z_range : mg "range" = none
  z_str : mg "str" = none
  z_tuple : mg "tuple" = none
section
variable {P : Program} {w : World} {K : PySem.W.Frag} {mg : Str → Option Value} {base : Heap}
theorem ok_is_integer (T : Top K mg)  : CalD P w K mg base 1 "is_integer" s_is_integer ["told", "least"] (spIsInt K) := by
  refine cal_mk T.d_is_integer sc_is_integer (fun _ _ _ _ _ _ us hl => match us, hl with | [_, _], _ => rfl) (fun vs H Q E h => ?_) (fun f cdv A outer s H vs Q E hr h => ?_)
  · obtain ⟨x, d, l, rfl, hx, q⟩ := h
    rfl
  · obtain ⟨x, d, l, rfl, hx, q⟩ := h
    refine ⟨_, (pss_one (ps_ret (pe_and (pe_callB call_isi (by rfl) T.z_isinstance (by decide +kernel) (pa_cons (pv 0) (pa_cons (pe_bltn (v := .ty "int") (by rfl) T.z_int (by decide +kernel) rfl) pa_nil))) (pe_and (pe_not (pe_callB call_isi (by rfl) T.z_isinstance (by decide +kernel) (pa_cons (pv 0) (pa_cons (pe_bltn (v := .ty "bool") (by rfl) T.z_bool (by decide +kernel) rfl) pa_nil)))) (pe_one (pe_cmpR op_ge (pv 0) (pv 1) (nomark _))))))), ?_⟩
    cases d with
    | none =>
      cases hx
      exact ⟨_, rfl, _, _, _, _, false, rfl, .ty _, .base .non, kit_ty (by decide +kernel), _, rfl, iteF q⟩
    | bool b =>
      cases hx
      exact ⟨_, rfl, _, _, _, _, true, rfl, .ty _, .base (.bl _), kit_ty (by decide +kernel), _, rfl, iteT ⟨_, rfl, _, _, _, _, true, rfl, .ty _, .base (.bl _), kit_ty (by decide +kernel), _, rfl, _, rfl, iteF q⟩⟩
    | int i =>
      cases hx
      exact ⟨_, rfl, _, _, _, _, true, rfl, .ty _, .base (.int _), kit_ty (by decide +kernel), _, rfl, iteT ⟨_, rfl, _, _, _, _, false, rfl, .ty _, .base (.int _), kit_ty (by decide +kernel), _, rfl, _, rfl, iteT ⟨_, rfl, _, rfl, _, _, rfl, rfl, q⟩⟩⟩
    | str z =>
      cases hx
      exact ⟨_, rfl, _, _, _, _, false, rfl, .ty _, .base (.str _), kit_ty (by decide +kernel), _, rfl, iteF q⟩
    | list ds =>
      exact ⟨_, rfl, _, _, _, _, false, rfl, .ty _, ty_data hx, kit_ty (show kitB "list" "int" = some false by decide +kernel), _, rfl, iteF q⟩
    | tuple ds =>
      exact ⟨_, rfl, _, _, _, _, false, rfl, .ty _, ty_data hx, kit_ty (show kitB "tuple" "int" = some false by decide +kernel), _, rfl, iteF q⟩
    | dict kvs => cases hx
theorem ok_check_number (T : Top K mg) (c_is_integer : CalD P w K mg base 1 "is_integer" s_is_integer ["told", "least"] (spIsInt K)) : CalD P w K mg base 2 "check_number" s_check_number ["told", "least"] (spCheckNum) := by
  refine cal_mk T.d_check_number sc_check_number (fun _ _ _ _ _ _ us hl => match us, hl with | [_, _], _ => rfl) (fun vs H Q E h => ?_) (fun f cdv A outer s H vs Q E hr h => ?_)
  · obtain ⟨n, l, rfl, hl, q⟩ := h
    rfl
  · obtain ⟨n, l, rfl, hl, q⟩ := h
    refine ⟨_, (pss_one (ps_if (pt_not (pt_val (pe_f c_is_integer hr (by omega) (by rfl) (pa_cons (pv 0) (pa_cons (pv 1) pa_nil))))) (pss_one ps_never) pss_nil)), ?_⟩
    refine ⟨_, rfl, _, rfl, .int (n : Int), .int (n : Int), (l : Int), rfl, .int _, _, rfl, ?_⟩
    have e : isIntD (.int (n : Int)) (l : Int) = true := by
      show decide ((l : Int) ≤ (n : Int)) = true
      exact decide_eq_true (by omega)
    rw [e]
    exact iteF q
theorem ok_check_word (T : Top K mg) (c_is_integer : CalD P w K mg base 1 "is_integer" s_is_integer ["told", "least"] (spIsInt K)) : CalD P w K mg base 2 "check_word" s_check_word ["told"] (spCheckWord) := by
  refine cal_mk T.d_check_word sc_check_word (fun _ _ _ _ _ _ us hl => match us, hl with | [_], _ => rfl) (fun vs H Q E h => ?_) (fun f cdv A outer s H vs Q E hr h => ?_)
  · obtain ⟨n, rfl, q⟩ := h
    rfl
  · obtain ⟨n, rfl, q⟩ := h
    refine ⟨_, (pss_one (ps_if (pt_not (pt_val (pe_f c_is_integer hr (by omega) (by rfl) (pa_cons (pv 0) (pa_cons pe_int pa_nil))))) (pss_one ps_never) pss_nil)), ?_⟩
    refine ⟨_, rfl, .int (n : Int), .int (n : Int), 0, rfl, .int _, _, rfl, ?_⟩
    have e : isIntD (.int (n : Int)) 0 = true := by
      show decide ((0 : Int) ≤ (n : Int)) = true
      exact decide_eq_true (by omega)
    rw [e]
    exact iteF q
theorem ok_added (T : Top K mg) (c_check_word : CalD P w K mg base 2 "check_word" s_check_word ["told"] (spCheckWord)) : CalD P w K mg base 3 "added" s_added ["a", "b"] (spAdded) := by
  refine cal_mk T.d_added sc_added (fun _ _ _ _ _ _ us hl => match us, hl with | [_, _], _ => rfl) (fun vs H Q E h => ?_) (fun f cdv A outer s H vs Q E hr h => ?_)
  · obtain ⟨n, m, rfl, q⟩ := h
    rfl
  · obtain ⟨n, m, rfl, q⟩ := h
    refine ⟨_, (pss_cons (ps_expr (pe_f c_check_word hr (by omega) (by rfl) (pa_cons (pv 0) pa_nil)))
  (pss_cons (ps_expr (pe_f c_check_word hr (by omega) (by rfl) (pa_cons (pv 1) pa_nil)))
  (pss_one (ps_ret (pe_op op_xor (pv 0) (pv 1)))))), ?_⟩
    refine ⟨_, rfl, n, rfl, _, rfl, m, rfl, _, rfl, _, rfl, _, _, rfl, rfl, ?_⟩
    show Q (.int (Builtin.bitXor (n : Int) (m : Int))) H
    rw [bitXor_nat]
    exact q
theorem ok_bits (T : Top K mg) (c_check_word : CalD P w K mg base 2 "check_word" s_check_word ["told"] (spCheckWord)) : CalD P w K mg base 3 "bits" s_bits ["a"] (spBits) := by
  refine cal_mk T.d_bits sc_bits (fun _ _ _ _ _ _ us hl => match us, hl with | [_], _ => rfl) (fun vs H Q E h => ?_) (fun f cdv A outer s H vs Q E hr h => ?_)
  · obtain ⟨n, rfl, hn, q⟩ := h
    rfl
  · obtain ⟨n, rfl, hn, q⟩ := h
    refine ⟨_, (pss_cons (ps_expr (pe_f c_check_word hr (by omega) (by rfl) (pa_cons (pv 0) pa_nil)))
  (pss_one (ps_ret (pe_callTy call_tuple_of (by rfl) T.z_tuple (by decide +kernel) (pa_cons (pe_lc (own := [("place", 1)]) (g := gName 1) rfl sc_bits.nd (pi_range1 (by rfl) T.z_range (pa_cons (pe_bits (pv 0)) pa_nil)) (blkOk_by (own := [("place", 1)]) (N := N_bits) (sc := defScope s_bits) (by decide +kernel)) (fun _ _ _ _ _ => pg_name (i := 1) sc_bits.nd rfl (Or.inl rfl)) (fun _ _ _ _ _ => (pts_one (pt_truth_at K rfl (pe_op op_and (pe_op op_shrN (pv 0) (pv 1)) pe_int) (fun _ => rfl)))) (fun _ _ _ _ _ => (pv 1))) pa_nil))))), ?_⟩
    refine ⟨_, rfl, n, rfl, _, rfl, _, rfl, _, rfl, ?_⟩
    rw [bl_int]
    refine ⟨by omega, by omega, fun D hD => ?_⟩
    have en : ((bl n : Nat) : Int).toNat = bl n := Int.toNat_natCast _
    refine lc_range (lo := 0) (n := ((bl n : Nat) : Int).toNat) (fun i H' => Same H H' ∧ H' D = some (.lst (intsV (plc n i)))) ⟨same_upd hD, upd_same⟩ (fun i H' hi hP => ?_) (fun H' hP => ?_)
    · obtain ⟨sP, eP⟩ := hP
      have e0 : (0 : Int) + (i : Int) = (i : Int) := Int.zero_add _
      rw [e0]
      refine ⟨rfl, ?_⟩
      refine ⟨_, rfl, _, rfl, (n : Int), i, rfl, rfl, _, _, rfl, rfl, decide (n / 2 ^ i % 2 = 1), ?_, ?_⟩
      · show decide (n / 2 ^ i % 2 = 1) = (Builtin.bitAnd ((n : Int) / 2 ^ i) 1 != 0)
        rw [bitAnd_m1, show ((n : Int) / 2 ^ i) = ((n / 2 ^ i : Nat) : Int) by rw [Int.natCast_ediv, cast_pow]]
        rcases Nat.mod_two_eq_zero_or_one (n / 2 ^ i) with e | e
        · rw [e, show (((n / 2 ^ i : Nat) : Int) % 2) = 0 by omega]
          rfl
        · rw [e, show (((n / 2 ^ i : Nat) : Int) % 2) = 1 by omega]
          rfl
      · rw [← testBit_mod]
        refine ite2 (fun hb => ?_) (fun hb => ?_)
        · refine ⟨_, rfl, _, eP, ?_, ?_, ?_⟩
          · have := plc_len n i
            show ((plc n i).map _).length < sizeLine
            rw [List.length_map]
            exact Nat.lt_of_le_of_lt (by omega : _ ≤ 100000) (by decide)
          · intro b o e
            have hb2 : b ≠ D := ne_of_none e hD
            rw [upd_ne hb2]
            exact sP b o e
          · rw [upd_same, plc_succ, if_pos hb]
            show _ = some (HO.lst ((plc n i ++ [i]).map _))
            rw [List.map_append]
            rfl
        · refine ⟨sP, ?_⟩
          rw [eP, plc_succ, if_neg hb, List.append_nil]
    · obtain ⟨sP, eP⟩ := hP
      rw [en] at eP
      exact ⟨_, _, rfl, .inl ⟨SqL.of eP, fun p hp => q _ _ (sP.trans (same_upd hp)) upd_same⟩⟩
theorem ok_width (T : Top K mg) (c_check_word : CalD P w K mg base 2 "check_word" s_check_word ["told"] (spCheckWord)) : CalD P w K mg base 3 "width" s_width ["a"] (spWidth) := by
  refine cal_mk T.d_width sc_width (fun _ _ _ _ _ _ us hl => match us, hl with | [_], _ => rfl) (fun vs H Q E h => ?_) (fun f cdv A outer s H vs Q E hr h => ?_)
  · obtain ⟨n, rfl, q⟩ := h
    rfl
  · obtain ⟨n, rfl, q⟩ := h
    refine ⟨_, (pss_cons (ps_expr (pe_f c_check_word hr (by omega) (by rfl) (pa_cons (pv 0) pa_nil)))
  (pss_one (ps_ret (pe_callB (call_max2 rfl) (by rfl) T.z_max (by decide +kernel) (pa_cons pe_int (pa_cons (pe_bits (pv 0)) pa_nil)))))), ?_⟩
    refine ⟨_, rfl, n, rfl, _, rfl, _, rfl, _, _, rfl, ?_⟩
    show Q (.int (if ((Builtin.Int.intBits (n : Int) : Nat) : Int) > 1 then ((Builtin.Int.intBits (n : Int) : Nat) : Int) else 1)) H
    rw [bl_int]
    have e : (if ((bl n : Nat) : Int) > 1 then ((bl n : Nat) : Int) else 1) = (wid n : Int) := by
      unfold wid
      split <;> omega
    rw [e]
    exact q
theorem ok_is_word (T : Top K mg) (c_check_number : CalD P w K mg base 2 "check_number" s_check_number ["told", "least"] (spCheckNum)) (c_is_integer : CalD P w K mg base 1 "is_integer" s_is_integer ["told", "least"] (spIsInt K)) : CalD P w K mg base 3 "is_word" s_is_word ["w", "told"] (spIsWord K) := by
  refine cal_mk T.d_is_word sc_is_word (fun _ _ _ _ _ _ us hl => match us, hl with | [_, _], _ => rfl) (fun vs H Q E h => ?_) (fun f cdv A outer s H vs Q E hr h => ?_)
  · obtain ⟨x, d, w, rfl, hw, hx, q⟩ := h
    rfl
  · obtain ⟨x, d, w, rfl, hw, hx, q⟩ := h
    refine ⟨_, (pss_cons (ps_expr (pe_f c_check_number hr (by omega) (by rfl) (pa_cons (pv 0) (pa_cons pe_int pa_nil))))
  (pss_one (ps_ret (pe_and (pe_f c_is_integer hr (by omega) (by rfl) (pa_cons (pv 1) (pa_cons pe_int pa_nil))) (pe_one (pe_cmpR op_le (pe_bits (pv 1)) (pv 0) (nomark _))))))), ?_⟩
    refine ⟨_, rfl, w, 1, rfl, hw, ?_⟩
    refine ⟨_, rfl, x, d, 0, rfl, hx, _, rfl, ?_⟩
    cases d with
    | int i =>
      cases hx
      by_cases h0 : 0 ≤ i
      · obtain ⟨n, rfl⟩ := Int.eq_ofNat_of_zero_le h0
        have e1 : isIntD (.int (n : Int)) 0 = true := decide_eq_true h0
        rw [e1]
        refine iteT ⟨_, rfl, _, rfl, _, rfl, _, _, rfl, rfl, ?_⟩
        have e2 : decide (((bl n : Nat) : Int) ≤ (w : Int)) = isWordD (.int (n : Int)) w := by
          have h1 := bl_le n w
          show _ = (decide (0 ≤ (n : Int)) && decide ((n : Int) < 2 ^ w))
          rw [decide_eq_true h0, Bool.true_and, ← cast_pow]
          by_cases h2 : n < 2 ^ w
          · rw [decide_eq_true (show ((bl n : Nat) : Int) ≤ (w : Int) by have := h1.mpr h2; omega), decide_eq_true (by omega)]
          · rw [decide_eq_false (show ¬ ((bl n : Nat) : Int) ≤ (w : Int) by intro h3; exact h2 (h1.mp (by omega))), decide_eq_false (by omega)]
        show Q (.bl (decide ((Builtin.Int.intBits (n : Int) : Int) ≤ (w : Int)))) H
        rw [bl_int, e2]
        exact q
      · have e1 : isIntD (.int i) 0 = false := decide_eq_false h0
        have e2 : isWordD (.int i) w = false := by
          show (decide (0 ≤ i) && _) = false
          rw [decide_eq_false h0, Bool.false_and]
        rw [e1]
        rw [e2] at q
        exact iteF q
    | _ => exact iteF q
theorem ok__law_deck (T : Top K mg)  : CalD P w K mg base 1 "_law_deck" s__law_deck ["script", "at"] (spDeck K) := by
  refine cal_mk T.d__law_deck sc__law_deck (fun _ _ _ _ _ _ us hl => match us, hl with | [_, _], _ => rfl) (fun vs H Q E h => ?_) (fun f cdv A outer s H vs Q E hr h => ?_)
  · obtain ⟨l, ns, j, rfl, hS, hj, q⟩ := h
    rfl
  · obtain ⟨l, ns, j, rfl, hS, hj, q⟩ := h
    refine ⟨_, (pss_cons (ps_set (i := 2) sc__law_deck.nd rfl (Or.inl rfl) pe_int)
  (pss_cons (ps_if (pt_cmpR op_lt (pv 1) (pe_callB call_len_seq (by rfl) T.z_len PySem.boot_len (pa_cons (pv 0) pa_nil)) (nomark _)) (pss_one (ps_set (i := 2) sc__law_deck.nd rfl (Or.inl rfl) (pe_ix ix_list (pv 0) (pv 1) (fun _ _ => rfl)))) pss_nil)
  (pss_cons (ps_set (i := 3) sc__law_deck.nd rfl (Or.inl rfl) (pe_op op_mod (pe_callTy call_int1 (by rfl) T.z_int (by decide +kernel) (pa_cons (pe_op op_add (pe_op op_add (pv 2) (pe_op op_mulX pe_int (pv 1))) pe_int) pa_nil)) pe_int))
  (pss_cons (ps_set (i := 3) sc__law_deck.nd rfl (Or.inl rfl) (pe_op op_mod (pe_callTy call_int1 (by rfl) T.z_int (by decide +kernel) (pa_cons (pe_op op_add (pe_op op_add (pe_op op_mulX (pe_op op_mulX (pv 3) (pv 3)) (pv 3)) (pe_op op_mulX pe_int (pv 1))) pe_int) pa_nil)) pe_int))
  (pss_cons (ps_if (pt_cmpR op_lt (pv 2) (pe_op op_pow pe_int pe_int) (nomark _)) (pss_one (ps_ret (pe_lst (pa_cons pe_int (pa_cons (pv 3) pa_nil))))) pss_nil)
  (pss_one (ps_ret (pe_lst (pa_cons (pe_op op_sub (pv 2) (pe_op op_pow pe_int pe_int)) (pa_cons (pv 3) pa_nil)))))))))), ?_⟩
    have hlt : decide ((j : Int) < ((ns.map V.int).length : Int)) = true → j < ns.length := fun e => by
      have e1 := of_decide_eq_true e
      rw [List.length_map] at e1
      omega
    refine ⟨.int (j : Int), rfl, .ref l, rfl, l, _, rfl, .inl hS, _, _, rfl, rfl, _, rfl, ite2 (fun e => ⟨.ref l, rfl, .int (j : Int), rfl, l, _, (j : Int), .int (ns[j]'(hlt e)), rfl, rfl, hS, atI_nat (by rw [List.getElem?_map, List.getElem?_eq_getElem (hlt e)]; rfl), ?_⟩) (fun e => ?_)⟩
    all_goals
      refine ⟨_, rfl, .int (j : Int), rfl, 7919, _, rfl, rfl, mulx_ok (a := 13) (b := 20) (by decide) (by omega) (by decide), _, _, rfl, rfl, _, _, rfl, rfl, .inl ⟨_, rfl, _, _, rfl, rfl, (by show (0 : Int) < 2305843009213693951; decide), ?_⟩⟩
      refine ⟨_, rfl, _, rfl, _, _, rfl, rfl, mulx_ok (em61 _) (em61 _) (by decide), _, rfl, _, _, rfl, rfl, mulx_ok (wide_lt (em61 _) (em61 _)) (em61 _) (by decide), .int (j : Int), rfl, 31, _, rfl, rfl, mulx_ok (a := 13) (b := 20) (by decide) (by omega) (by decide), _, _, rfl, rfl, _, _, rfl, rfl, .inl ⟨_, rfl, _, _, rfl, rfl, (by show (0 : Int) < 2305843009213693951; decide), ?_⟩⟩
      refine ⟨_, rfl, 10, 18, rfl, rfl, ⟨by decide, by decide, by decide⟩, _, _, rfl, rfl, _, rfl, ite2 (fun _ => ?_) (fun _ => ?_)⟩
      · exact ⟨_, rfl, (by show 2 ≤ sizeLine; decide), fun p hp => q _ p (same_upd hp) hp ⟨_, _, upd_same, Int.emod_nonneg _ (by decide), Int.lt_trans (Int.emod_lt_of_pos _ (by decide)) (by decide)⟩⟩
      · exact ⟨_, rfl, 10, 18, rfl, rfl, ⟨by decide, by decide, by decide⟩, _, _, rfl, rfl, _, rfl, (by show 2 ≤ sizeLine; decide), fun p hp => q _ p (same_upd hp) hp ⟨_, _, upd_same, Int.emod_nonneg _ (by decide), Int.lt_trans (Int.emod_lt_of_pos _ (by decide)) (by decide)⟩⟩
theorem ok__law_take (T : Top K mg)  : CalD P w K mg base 1 "_law_take" s__law_take ["deck", "many"] (spTake) := by
  refine cal_mk T.d__law_take sc__law_take (fun _ _ _ _ _ _ us hl => match us, hl with | [_, _], _ => rfl) (fun vs H Q E h => ?_) (fun f cdv A outer s H vs Q E hr h => ?_)
  · obtain ⟨a, m, rfl, ⟨x, y, hD, hy0, hy1⟩, h0, h9, q⟩ := h
    rfl
  · obtain ⟨a, m, rfl, ⟨x, y, hD, hy0, hy1⟩, h0, h9, q⟩ := h
    refine ⟨_, (pss_cons (ps_if (pt_cmpR op_gt (pe_ix ix_list (pv 0) pe_int (fun _ _ => rfl)) pe_int (nomark _)) (pss_cons (ps_set (i := 2) sc__law_take.nd rfl (Or.inl rfl) (pe_op op_mod (pe_callTy call_int1 (by rfl) T.z_int (by decide +kernel) (pa_cons (pe_ix ix_list (pv 0) pe_int (fun _ _ => rfl)) pa_nil)) (pv 1)))
  (pss_cons (ps_asg (pe_op op_fdivW (pe_ix ix_list (pv 0) pe_int (fun _ _ => rfl)) (pv 1)) (pg_sub (pv 0) pe_int set_list))
  (pss_one (ps_ret (pv 2))))) pss_nil)
  (pss_cons (ps_asg (pe_op op_mod (pe_callTy call_int1 (by rfl) T.z_int (by decide +kernel) (pa_cons (pe_op op_add (pe_op op_mulX (pe_ix ix_list (pv 0) pe_int (fun _ _ => rfl)) pe_int) pe_int) pa_nil)) (pe_op op_pow pe_int pe_int)) (pg_sub (pv 0) pe_int set_list))
  (pss_one (ps_ret (pe_op op_mod (pe_op op_fdivW (pe_ix ix_list (pv 0) pe_int (fun _ _ => rfl)) (pe_op op_pow pe_int pe_int)) (pv 1)))))), ?_⟩
    have hS : SqL K H a [.int x, .int y] := SqL.of hD
    refine ⟨.ref a, rfl, a, _, 0, .int x, rfl, rfl, hS, rfl, x, 0, rfl, rfl, _, rfl, ite2 (fun e => ?_) (fun e => ?_)⟩
    · refine ⟨.ref a, rfl, a, _, 0, .int x, rfl, rfl, hS, rfl, .inl ⟨x, rfl, .int m, rfl, x, m, rfl, rfl, h0, ?_⟩⟩
      refine ⟨.ref a, rfl, a, _, 0, .int x, rfl, rfl, hS, rfl, .int m, rfl, x, m, rfl, rfl, ⟨h0, h9⟩, .ref a, rfl, a, _, 0, 0, rfl, rfl, hD, rfl, .int (x % m), rfl, ?_⟩
      exact q _ _ _ (Int.emod_nonneg _ (by omega)) (Int.emod_lt_of_pos _ h0) hy0 hy1
    · refine ⟨.ref a, rfl, a, _, 1, .int y, rfl, rfl, hS, rfl, y, 6364136223846793005, rfl, rfl, mulx_ok (a := 64) (b := 63) (by omega) (by decide) (by decide), _, _, rfl, rfl, .inl ⟨_, rfl, 2, 64, rfl, rfl, ⟨by decide, by decide, by decide⟩, _, _, rfl, rfl, (by show (0 : Int) < 2 ^ (64 : Int).toNat; decide), ?_⟩⟩
      have e64 : ((2 : Int) ^ (64 : Int).toNat) = 18446744073709551616 := by decide
      rw [e64]
      have hz0 : 0 ≤ (y * 6364136223846793005 + 1442695040888963407) % 18446744073709551616 := Int.emod_nonneg _ (by decide)
      have hz1 : (y * 6364136223846793005 + 1442695040888963407) % 18446744073709551616 < 18446744073709551616 := Int.emod_lt_of_pos _ (by decide)
      refine ⟨.ref a, rfl, a, _, 1, 1, rfl, rfl, hD, rfl, .ref a, rfl, a, _, 1, _, rfl, rfl, SqL.of upd_same, rfl, 2, _, rfl, rfl, ⟨by decide, by decide, by decide⟩, _, _, rfl, rfl, wide_div (b := 40) (by show (0 : Int) < 2 ^ Int.toNat _; decide) (by show (2 ^ Int.toNat _ : Int).natAbs < 2 ^ 40; decide) (by decide) (by decide), .int m, rfl, _, m, rfl, rfl, h0, ?_⟩
      exact q _ _ _ (Int.emod_nonneg _ (by omega)) (Int.emod_lt_of_pos _ h0) hz0 hz1
theorem ok__law_same (T : Top K mg) : ∀ n : Nat, CalD P w K mg base (n + 1) "_law_same" s__law_same ["found", "due"] (spSame K n) := by
  intro n
  induction n with
  | zero =>
    refine cal_mk T.d__law_same sc__law_same (fun _ _ _ _ _ _ us hl => match us, hl with | [_, _], _ => rfl) (fun vs H Q E h => ?_) (fun f cdv A outer s H vs Q E hr h => ?_)
    · obtain ⟨x, y, d, rfl, _⟩ := h
      rfl
    · obtain ⟨x, y, d, rfl, _, _, hf, _⟩ := h
      exact hf.elim
  | succ n ih =>
  have c__law_same := ih
  refine cal_mk T.d__law_same sc__law_same (fun _ _ _ _ _ _ us hl => match us, hl with | [_, _], _ => rfl) (fun vs H Q E h => ?_) (fun f cdv A outer s H vs Q E hr h => ?_)
  · obtain ⟨x, y, d, rfl, _⟩ := h
    rfl
  · obtain ⟨x, y, d, rfl, hx, hy, hfit, q⟩ := h
    refine ⟨_, (pss_cons (ps_if (pt_val (pe_callB call_isiT (by rfl) T.z_isinstance (by decide +kernel) (pa_cons (pv 1) (pa_cons (pe_tup (pa_cons (pe_bltn (v := .ty "tuple") (by rfl) T.z_tuple (by decide +kernel) rfl) (pa_cons (pe_bltn (v := .ty "list") (by rfl) T.z_list (by decide +kernel) rfl) pa_nil))) pa_nil)))) (pss_cons (ps_if (PW.pt (pw_or (pt_cmpR op_ne (pe_callB call_isi (by rfl) T.z_isinstance (by decide +kernel) (pa_cons (pv 0) (pa_cons (pe_bltn (v := .ty "tuple") (by rfl) T.z_tuple (by decide +kernel) rfl) pa_nil))) (pe_callB call_isi (by rfl) T.z_isinstance (by decide +kernel) (pa_cons (pv 1) (pa_cons (pe_bltn (v := .ty "tuple") (by rfl) T.z_tuple (by decide +kernel) rfl) pa_nil))) (nomark _)) (pw_or1 (pt_cmpR op_ne (pe_callB call_isi (by rfl) T.z_isinstance (by decide +kernel) (pa_cons (pv 0) (pa_cons (pe_bltn (v := .ty "list") (by rfl) T.z_list (by decide +kernel) rfl) pa_nil))) (pe_callB call_isi (by rfl) T.z_isinstance (by decide +kernel) (pa_cons (pv 1) (pa_cons (pe_bltn (v := .ty "list") (by rfl) T.z_list (by decide +kernel) rfl) pa_nil))) (nomark _))))) (pss_one (ps_ret pe_bl)) pss_nil)
  (pss_cons (ps_if (pt_cmpR op_ne (pe_callB call_len_seq (by rfl) T.z_len PySem.boot_len (pa_cons (pv 0) pa_nil)) (pe_callB call_len_seq (by rfl) T.z_len PySem.boot_len (pa_cons (pv 1) pa_nil)) (nomark _)) (pss_one (ps_ret pe_bl)) pss_nil)
  (pss_one (ps_ret (pe_cmpR (op_eqD hr.units) (pe_lc (own := [("at", 2)]) (g := gName 2) rfl sc__law_same.nd (pi_range1 (by rfl) T.z_range (pa_cons (pe_callB call_len_seq (by rfl) T.z_len PySem.boot_len (pa_cons (pv 1) pa_nil)) pa_nil)) (blkOk_by (own := [("at", 2)]) (N := N__law_same) (sc := defScope s__law_same) (by decide +kernel)) (fun _ _ _ _ _ => pg_name (i := 2) sc__law_same.nd rfl (Or.inl rfl)) (fun _ _ _ _ _ => (pts_one (pt_not (pt_val (pe_f c__law_same hr (by omega) (by rfl) (pa_cons (pe_ix (ix_seq_at K rfl) (pv 0) (pv 2) (fun _ _ => rfl)) (pa_cons (pe_ix (ix_seq_at K rfl) (pv 1) (pv 2) (fun _ _ => rfl)) pa_nil))))))) (fun _ _ _ _ _ => (pv 2))) (pe_lst pa_nil) (nomark _)))))) pss_nil)
  (pss_cons (ps_if (pt_cmpR op_isN (pv 1) pe_non (nomark _)) (pss_one (ps_ret (pe_cmpR op_isN (pv 0) pe_non (nomark _)))) pss_nil)
  (pss_cons (ps_if (pt_val (pe_callB call_isi (by rfl) T.z_isinstance (by decide +kernel) (pa_cons (pv 1) (pa_cons (pe_bltn (v := .ty "str") (by rfl) T.z_str (by decide +kernel) rfl) pa_nil)))) (pss_one (ps_ret (pe_and (pe_callB call_isi (by rfl) T.z_isinstance (by decide +kernel) (pa_cons (pv 0) (pa_cons (pe_bltn (v := .ty "str") (by rfl) T.z_str (by decide +kernel) rfl) pa_nil))) (pe_one (pe_cmpR op_eq (pv 0) (pv 1) (nomark _)))))) pss_nil)
  (pss_cons (ps_if (PW.pt (pw_or (pt_val (pe_callB call_isi (by rfl) T.z_isinstance (by decide +kernel) (pa_cons (pv 1) (pa_cons (pe_bltn (v := .ty "bool") (by rfl) T.z_bool (by decide +kernel) rfl) pa_nil)))) (pw_or1 (pt_val (pe_callB call_isi (by rfl) T.z_isinstance (by decide +kernel) (pa_cons (pv 0) (pa_cons (pe_bltn (v := .ty "bool") (by rfl) T.z_bool (by decide +kernel) rfl) pa_nil))))))) (pss_one (ps_ret (pe_and (pe_callB call_isi (by rfl) T.z_isinstance (by decide +kernel) (pa_cons (pv 1) (pa_cons (pe_bltn (v := .ty "bool") (by rfl) T.z_bool (by decide +kernel) rfl) pa_nil))) (pe_and (pe_callB call_isi (by rfl) T.z_isinstance (by decide +kernel) (pa_cons (pv 0) (pa_cons (pe_bltn (v := .ty "bool") (by rfl) T.z_bool (by decide +kernel) rfl) pa_nil))) (pe_one (pe_cmpR op_eq (pv 0) (pv 1) (nomark _))))))) pss_nil)
  (pss_one (ps_ret (pe_and (pe_callB call_isi (by rfl) T.z_isinstance (by decide +kernel) (pa_cons (pv 0) (pa_cons (pe_bltn (v := .ty "int") (by rfl) T.z_int (by decide +kernel) rfl) pa_nil))) (pe_one (pe_cmpR op_eq (pv 0) (pv 1) (nomark _)))))))))), ?_⟩
    rcases d with _ | _ | _ | _ | _ | _ | _
    · -- none
      cases hx
      cases hy
      refine ⟨_, rfl, (by show 2 ≤ sizeLine; decide), fun t ht => ⟨_, t, _, _, _, _, rfl, upd_same, .cons (.ty _) (.cons (.ty _) .nil), .base .non, kit2 (r := false) (s := false) (by decide +kernel) (by decide +kernel), _, rfl, iteF ?_⟩⟩
      have s1 := same_upd (o := HO.tup [V.ty "tuple", V.ty "list"]) ht
      refine ⟨_, rfl, rfl, _, rfl, iteT ?_⟩
      exact ⟨_, rfl, rfl, q _ s1⟩
    · -- bool
      cases hx
      cases hy
      refine ⟨_, rfl, (by show 2 ≤ sizeLine; decide), fun t ht => ⟨_, t, _, _, _, _, rfl, upd_same, .cons (.ty _) (.cons (.ty _) .nil), .base (.bl _), kit2 (r := false) (s := false) (by decide +kernel) (by decide +kernel), _, rfl, iteF ?_⟩⟩
      have s1 := same_upd (o := HO.tup [V.ty "tuple", V.ty "list"]) ht
      refine ⟨_, rfl, rfl, _, rfl, iteF ?_⟩
      refine ⟨_, rfl, _, _, _, _, false, rfl, .ty _, .base (.bl _), kit_ty (by decide +kernel), _, rfl, iteF ?_⟩
      refine ⟨_, rfl, _, _, _, _, true, rfl, .ty _, .base (.bl _), kit_ty (by decide +kernel), _, rfl, iteT (iteT ?_)⟩
      refine ⟨_, rfl, _, _, _, _, true, rfl, .ty _, .base (.bl _), kit_ty (by decide +kernel), _, rfl, iteT ?_⟩
      refine ⟨_, rfl, _, _, _, _, true, rfl, .ty _, .base (.bl _), kit_ty (by decide +kernel), _, rfl, iteT ?_⟩
      refine ⟨_, rfl, _, rfl, rfl, ?_⟩
      rw [decide_eq_true rfl]
      exact q _ s1
    · -- int
      cases hx
      cases hy
      refine ⟨_, rfl, (by show 2 ≤ sizeLine; decide), fun t ht => ⟨_, t, _, _, _, _, rfl, upd_same, .cons (.ty _) (.cons (.ty _) .nil), .base (.int _), kit2 (r := false) (s := false) (by decide +kernel) (by decide +kernel), _, rfl, iteF ?_⟩⟩
      have s1 := same_upd (o := HO.tup [V.ty "tuple", V.ty "list"]) ht
      refine ⟨_, rfl, rfl, _, rfl, iteF ?_⟩
      refine ⟨_, rfl, _, _, _, _, false, rfl, .ty _, .base (.int _), kit_ty (by decide +kernel), _, rfl, iteF ?_⟩
      refine ⟨_, rfl, _, _, _, _, false, rfl, .ty _, .base (.int _), kit_ty (by decide +kernel), _, rfl, iteF ?_⟩
      refine ⟨_, rfl, _, _, _, _, false, rfl, .ty _, .base (.int _), kit_ty (by decide +kernel), _, rfl, iteF ?_⟩
      refine ⟨_, rfl, _, _, _, _, true, rfl, .ty _, .base (.int _), kit_ty (by decide +kernel), _, rfl, iteT ?_⟩
      refine ⟨_, rfl, _, rfl, rfl, ?_⟩
      rw [decide_eq_true rfl]
      exact q _ s1
    · -- str
      cases hx
      cases hy
      refine ⟨_, rfl, (by show 2 ≤ sizeLine; decide), fun t ht => ⟨_, t, _, _, _, _, rfl, upd_same, .cons (.ty _) (.cons (.ty _) .nil), .base (.str _), kit2 (r := false) (s := false) (by decide +kernel) (by decide +kernel), _, rfl, iteF ?_⟩⟩
      have s1 := same_upd (o := HO.tup [V.ty "tuple", V.ty "list"]) ht
      refine ⟨_, rfl, rfl, _, rfl, iteF ?_⟩
      refine ⟨_, rfl, _, _, _, _, true, rfl, .ty _, .base (.str _), kit_ty (by decide +kernel), _, rfl, iteT ?_⟩
      refine ⟨_, rfl, _, _, _, _, true, rfl, .ty _, .base (.str _), kit_ty (by decide +kernel), _, rfl, iteT ?_⟩
      refine ⟨_, rfl, _, rfl, rfl, ?_⟩
      rw [decide_eq_true rfl]
      exact q _ s1
    · -- list
      rename_i ds
      obtain ⟨a, xs, hx1, hx2, rfl⟩ : ∃ a xs, SqL K H a xs ∧ DpAll K H xs ds ∧ x = .ref a := by
        cases hx with
        | lst h1 h2 => exact ⟨_, _, h1, h2, rfl⟩
      obtain ⟨b, ys, hy1, hy2, rfl⟩ : ∃ a xs, SqL K H a xs ∧ DpAll K H xs ds ∧ y = .ref a := by
        cases hy with
        | lst h1 h2 => exact ⟨_, _, h1, h2, rfl⟩
      obtain ⟨hl, hf⟩ := (show ds.length < 4611686018427387904 ∧ ∀ e ∈ ds, Fit n e from hfit)
      have ex := DpAll.length _ hx2
      have ey := DpAll.length _ hy2
      refine ⟨_, rfl, (by show 2 ≤ sizeLine; decide), fun t ht => ⟨_, t, _, _, _, _, rfl, upd_same, .cons (.ty _) (.cons (.ty _) .nil), ty_list (Same.seq (same_upd ht) hy1), kit2 (r := false) (s := true) (by decide +kernel) (by decide +kernel), _, rfl, iteT ?_⟩⟩
      have s1 : Same H (upd H t (.tup [V.ty "tuple", V.ty "list"])) := same_upd ht
      refine ⟨_, rfl, _, _, _, _, false, rfl, .ty _, ty_list (Same.seq (s1) hx1), kit_ty (by decide +kernel), _, rfl, _, _, _, _, false, rfl, .ty _, ty_list (Same.seq (s1) hy1), kit_ty (by decide +kernel), rfl, _, rfl, iteF ?_⟩
      refine ⟨_, rfl, _, _, _, _, true, rfl, .ty _, ty_list (Same.seq (s1) hx1), kit_ty (by decide +kernel), _, rfl, _, _, _, _, true, rfl, .ty _, ty_list (Same.seq (s1) hy1), kit_ty (by decide +kernel), rfl, _, rfl, iteF ?_⟩
      refine ⟨_, rfl, a, xs, rfl, .inl (Same.seq (s1) hx1), _, rfl, b, ys, rfl, .inl (Same.seq (s1) hy1), rfl, _, rfl, ?_⟩
      rw [ex, ey, decide_eq_true rfl]
      refine iteF ?_
      refine ⟨_, rfl, b, ys, rfl, .inl (Same.seq (s1) hy1), _, rfl, (by omega), (by omega), fun D hD => ?_⟩
      refine lc_range (lo := 0) (n := ys.length) (fun i H' => Same H H' ∧ H' D = some (.lst [])) ⟨s1.trans (same_upd hD), upd_same⟩ (fun i H' hi hP => ?_) (fun H' hP => ?_)
      · obtain ⟨sP, eP⟩ := hP
        have e0 : (0 : Int) + (i : Int) = (i : Int) := Int.zero_add _
        rw [e0]
        have hi2 : i < ds.length := by omega
        obtain ⟨u, hu1, hu2⟩ := DpAll.get _ hx2 (List.getElem?_eq_getElem hi2)
        obtain ⟨v, hv1, hv2⟩ := DpAll.get _ hy2 (List.getElem?_eq_getElem hi2)
        refine ⟨rfl, _, rfl, _, rfl, .inl ⟨a, xs, (i : Int), u, rfl, rfl, Same.seq sP hx1, atI_nat hu1, ?_⟩⟩
        refine ⟨_, rfl, _, rfl, .inl ⟨b, ys, (i : Int), v, rfl, rfl, Same.seq sP hy1, atI_nat hv1, ?_⟩⟩
        refine ⟨u, v, ds[i], rfl, Dp.same sP _ _ hu2, Dp.same sP _ _ hv2, hf _ (List.getElem_mem hi2), fun H2 s2 => ⟨_, rfl, iteF ⟨sP.trans s2, s2 _ _ eP⟩⟩⟩
      · obtain ⟨sP, eP⟩ := hP
        exact ⟨Nat.zero_le _, fun p hp => ⟨.list [], .list [], .lst (SqL.of (by rw [upd_ne (ne_of_none eP hp)]; exact eP)) .nil, .lst (SqL.of upd_same) .nil, by decide, by decide, q _ (sP.trans (same_upd hp))⟩⟩
    · -- tuple
      rename_i ds
      obtain ⟨a, xs, hx1, hx2, rfl⟩ : ∃ a xs, SqT K H a xs ∧ DpAll K H xs ds ∧ x = .ref a := by
        cases hx with
        | tup h1 h2 => exact ⟨_, _, h1, h2, rfl⟩
      obtain ⟨b, ys, hy1, hy2, rfl⟩ : ∃ a xs, SqT K H a xs ∧ DpAll K H xs ds ∧ y = .ref a := by
        cases hy with
        | tup h1 h2 => exact ⟨_, _, h1, h2, rfl⟩
      obtain ⟨hl, hf⟩ := (show ds.length < 4611686018427387904 ∧ ∀ e ∈ ds, Fit n e from hfit)
      have ex := DpAll.length _ hx2
      have ey := DpAll.length _ hy2
      refine ⟨_, rfl, (by show 2 ≤ sizeLine; decide), fun t ht => ⟨_, t, _, _, _, _, rfl, upd_same, .cons (.ty _) (.cons (.ty _) .nil), ty_tuple (Same.tupS (same_upd ht) hy1), kit2 (r := true) (s := false) (by decide +kernel) (by decide +kernel), _, rfl, iteT ?_⟩⟩
      have s1 : Same H (upd H t (.tup [V.ty "tuple", V.ty "list"])) := same_upd ht
      refine ⟨_, rfl, _, _, _, _, true, rfl, .ty _, ty_tuple (Same.tupS (s1) hx1), kit_ty (by decide +kernel), _, rfl, _, _, _, _, true, rfl, .ty _, ty_tuple (Same.tupS (s1) hy1), kit_ty (by decide +kernel), rfl, _, rfl, iteF ?_⟩
      refine ⟨_, rfl, _, _, _, _, false, rfl, .ty _, ty_tuple (Same.tupS (s1) hx1), kit_ty (by decide +kernel), _, rfl, _, _, _, _, false, rfl, .ty _, ty_tuple (Same.tupS (s1) hy1), kit_ty (by decide +kernel), rfl, _, rfl, iteF ?_⟩
      refine ⟨_, rfl, a, xs, rfl, .inr (Same.tupS (s1) hx1), _, rfl, b, ys, rfl, .inr (Same.tupS (s1) hy1), rfl, _, rfl, ?_⟩
      rw [ex, ey, decide_eq_true rfl]
      refine iteF ?_
      refine ⟨_, rfl, b, ys, rfl, .inr (Same.tupS (s1) hy1), _, rfl, (by omega), (by omega), fun D hD => ?_⟩
      refine lc_range (lo := 0) (n := ys.length) (fun i H' => Same H H' ∧ H' D = some (.lst [])) ⟨s1.trans (same_upd hD), upd_same⟩ (fun i H' hi hP => ?_) (fun H' hP => ?_)
      · obtain ⟨sP, eP⟩ := hP
        have e0 : (0 : Int) + (i : Int) = (i : Int) := Int.zero_add _
        rw [e0]
        have hi2 : i < ds.length := by omega
        obtain ⟨u, hu1, hu2⟩ := DpAll.get _ hx2 (List.getElem?_eq_getElem hi2)
        obtain ⟨v, hv1, hv2⟩ := DpAll.get _ hy2 (List.getElem?_eq_getElem hi2)
        refine ⟨rfl, _, rfl, _, rfl, .inr (.inl ⟨a, xs, (i : Int), u, rfl, rfl, Same.tupS sP hx1, atI_nat hu1, ?_⟩)⟩
        refine ⟨_, rfl, _, rfl, .inr (.inl ⟨b, ys, (i : Int), v, rfl, rfl, Same.tupS sP hy1, atI_nat hv1, ?_⟩)⟩
        refine ⟨u, v, ds[i], rfl, Dp.same sP _ _ hu2, Dp.same sP _ _ hv2, hf _ (List.getElem_mem hi2), fun H2 s2 => ⟨_, rfl, iteF ⟨sP.trans s2, s2 _ _ eP⟩⟩⟩
      · obtain ⟨sP, eP⟩ := hP
        exact ⟨Nat.zero_le _, fun p hp => ⟨.list [], .list [], .lst (SqL.of (by rw [upd_ne (ne_of_none eP hp)]; exact eP)) .nil, .lst (SqL.of upd_same) .nil, by decide, by decide, q _ (sP.trans (same_upd hp))⟩⟩
    · exact hfit.elim
theorem ok__law_word (T : Top K mg) (c__law_take : CalD P w K mg base 1 "_law_take" s__law_take ["deck", "many"] (spTake)) : CalD P w K mg base 2 "_law_word" s__law_word ["deck", "most"] (spWord) := by
  refine cal_mk T.d__law_word sc__law_word (fun _ _ _ _ _ _ us hl => match us, hl with | [_, _], _ => rfl) (fun vs H Q E h => ?_) (fun f cdv A outer s H vs Q E hr h => ?_)
  · obtain ⟨a, most, rfl, hD, hm, q⟩ := h
    rfl
  · obtain ⟨a, most, rfl, hD, hm, q⟩ := h
    refine ⟨_, (pss_cons (ps_par3 (i := 2) (j := 3) (l := 4) rfl sc__law_word.nd rfl rfl rfl (by decide) (by decide) (by decide) rfl rfl rfl (pa_cons (pe_f c__law_take hr (by omega) (by rfl) (pa_cons (pv 0) (pa_cons (pe_op op_add (pv 1) pe_int) pa_nil))) (pa_cons pe_int (pa_cons pe_int pa_nil))) (by rfl))
  (pss_cons (ps_for PassesOwn.never rfl (pi_range1 (by rfl) T.z_range (pa_cons (pv 2) pa_nil)) (pg_name (i := 5) sc__law_word.nd rfl (Or.inl rfl)) (pss_cons (ps_set (i := 3) sc__law_word.nd rfl (Or.inl rfl) (pe_op op_add (pv 3) (pe_op op_mulX (pv 4) (pe_f c__law_take hr (by omega) (by rfl) (pa_cons (pv 0) (pa_cons pe_int pa_nil))))))
  (pss_one (ps_set (i := 4) sc__law_word.nd rfl (Or.inl rfl) (pe_op op_mulX pe_int (pv 4))))))
  (pss_one (ps_ret (pe_ix ix_list (pe_lst (pa_cons (pv 3) (pa_cons (pv 3) (pa_cons (pv 4) (pa_cons (pe_op op_sub (pv 4) pe_int) (pa_cons (pe_op op_add (pv 4) pe_int) pa_nil)))))) (pe_f c__law_take hr (by omega) (by rfl) (pa_cons (pv 0) (pa_cons pe_int pa_nil))) (fun _ _ => rfl)))))), ?_⟩
    refine ⟨_, rfl, _, rfl, (most : Int), 1, rfl, rfl, a, (most : Int) + 1, rfl, hD, by omega, log2_small (by omega), fun t x y h0 h1 hy0 hy1 => ?_⟩
    obtain ⟨w, rfl⟩ := Int.eq_ofNat_of_zero_le h0
    refine ⟨_, _, _, rfl, ?_⟩
    refine ⟨_, rfl, (w : Int), rfl, by omega, by omega, ?_⟩
    have en : ((w : Nat) : Int).toNat = w := Int.toNat_natCast _
    refine for_range (lo := 0) (n := ((w : Nat) : Int).toNat) (fun i σ H' => ∃ (n : Nat) (z : Option V), σ = [some (.ref a), some (.int (most : Int)), some (.int (w : Int)), some (.int (n : Int)), some (.int ((2 ^ i : Nat) : Int)), z] ∧ n < 2 ^ i ∧ Off a H H' ∧ DeckAt H' a)
      ⟨0, none, rfl, by decide, Off.upd _ _ _, DeckAt.upd _ _ _ hy0 hy1⟩ (fun i σ H' hi hP => ?_) (fun σ H' hP => ?_)
    · obtain ⟨n, z, rfl, hn, hO, hD'⟩ := hP
      refine ⟨_, rfl, _, rfl, _, rfl, a, 2, rfl, hD', by decide, log2_small (by decide), fun t x y h0 h1 hy0 hy1 => ?_⟩
      obtain ⟨b, rfl⟩ := Int.eq_ofNat_of_zero_le h0
      have hi2 : i < w := by omega
      have hb : b < 2 := by omega
      have hp : (2 : Nat) ^ i < 2 ^ 1001 := Nat.pow_lt_pow_right (by decide) (by omega)
      refine ⟨_, _, rfl, rfl, cmulx (a := 1001) (b := 1) hp hb (by decide), _, _, rfl, rfl, ?_⟩
      refine ⟨_, rfl, 2, _, rfl, rfl, cmulx (n := 2) (a := 2) (b := 1001) (by decide) hp (by decide), ?_⟩
      refine ⟨n + 2 ^ i * b, some (.int (0 + (i : Int))), ?_, ?_, hO.trans (Off.upd _ _ _), DeckAt.upd _ _ _ hy0 hy1⟩
      · have e1 : ((n : Int) + ((2 ^ i : Nat) : Int) * (b : Int)) = ((n + 2 ^ i * b : Nat) : Int) := by
          rw [Int.natCast_add, Int.natCast_mul]
        have e2 : (2 : Int) * ((2 ^ i : Nat) : Int) = ((2 ^ (i + 1) : Nat) : Int) := by
          rw [Nat.pow_succ, Int.natCast_mul, Int.mul_comm]
          rfl
        show [some (V.ref a), some (V.int (most : Int)), some (V.int (w : Int)), some (V.int ((n : Int) + ((2 ^ i : Nat) : Int) * (b : Int))), some (V.int ((2 : Int) * ((2 ^ i : Nat) : Int))), some (V.int (0 + (i : Int)))] = _
        rw [e1, e2]
      · rw [Nat.pow_succ]
        have : 2 ^ i * b ≤ 2 ^ i * 1 := Nat.mul_le_mul_left _ (by omega)
        omega
    · obtain ⟨n, z, rfl, hn, hO, hD'⟩ := hP
      rw [en] at hn ⊢
      refine ⟨_, rfl, _, rfl, _, rfl, _, rfl, _, 1, rfl, rfl, _, rfl, _, 1, rfl, rfl, (by show 5 ≤ sizeLine; decide), fun p hp => ?_⟩
      have hap : a ≠ p := by
        obtain ⟨_, _, e, _⟩ := hD'
        exact ne_of_none e hp
      have hD2 := hD'.same (same_upd (o := HO.lst [V.int (n : Int), V.int (n : Int), V.int ((2 ^ w : Nat) : Int), V.int (((2 ^ w : Nat) : Int) - 1), V.int (((2 ^ w : Nat) : Int) + 1)]) hp)
      refine ⟨_, rfl, a, 5, rfl, hD2, by decide, log2_small (by decide), fun t x y h0 h1 hy0 hy1 => ?_⟩
      obtain ⟨j, rfl⟩ := Int.eq_ofNat_of_zero_le h0
      have hj : j < 5 := by omega
      have hpos : 0 < 2 ^ w := Nat.pow_pos (by decide)
      have e4 : ((2 ^ w : Nat) : Int) - 1 = ((2 ^ w - 1 : Nat) : Int) := by omega
      have e5 : ((2 ^ w : Nat) : Int) + 1 = ((2 ^ w + 1 : Nat) : Int) := by omega
      have fin : ∀ m : Nat, m ≤ 2 ^ w + 1 → Q (.int (m : Int)) (upd (upd H' p (.lst [V.int (n : Int), V.int (n : Int), V.int ((2 ^ w : Nat) : Int), V.int (((2 ^ w : Nat) : Int) - 1), V.int (((2 ^ w : Nat) : Int) + 1)])) a (.lst [.int x, .int y])) := fun m hm2 =>
        q m _ (by have h1 := Nat.pow_le_pow_right (n := 2) (by decide) (show w ≤ most by omega); have e : 2 ^ (most + 2) = 2 ^ most * 4 := Nat.pow_add 2 most 2; omega) ((hO.trans (Off.of (same_upd hp))).trans (Off.upd _ _ _)) (DeckAt.upd _ _ _ hy0 hy1)
      have hL : SqL K (upd (upd H' p (.lst [V.int (n : Int), V.int (n : Int), V.int ((2 ^ w : Nat) : Int), V.int (((2 ^ w : Nat) : Int) - 1), V.int (((2 ^ w : Nat) : Int) + 1)])) a (.lst [.int x, .int y])) p [V.int (n : Int), V.int (n : Int), V.int ((2 ^ w : Nat) : Int), V.int (((2 ^ w : Nat) : Int) - 1), V.int (((2 ^ w : Nat) : Int) + 1)] := SqL.of (by rw [upd_ne hap.symm, upd_same])
      have h5 : j = 0 ∨ j = 1 ∨ j = 2 ∨ j = 3 ∨ j = 4 := by omega
      rcases h5 with rfl | rfl | rfl | rfl | rfl
      · exact ⟨p, _, _, _, rfl, rfl, hL, rfl, fin n (by omega)⟩
      · exact ⟨p, _, _, _, rfl, rfl, hL, rfl, fin n (by omega)⟩
      · exact ⟨p, _, _, _, rfl, rfl, hL, rfl, fin (2 ^ w) (by omega)⟩
      · exact ⟨p, _, _, _, rfl, rfl, hL, rfl, by rw [e4]; exact fin (2 ^ w - 1) (by omega)⟩
      · exact ⟨p, _, _, _, rfl, rfl, hL, rfl, by rw [e5]; exact fin (2 ^ w + 1) (by omega)⟩
theorem ok__law_sum (T : Top K mg)  : CalD P w K mg base 1 "_law_sum" s__law_sum ["a_word", "b_word"] (spSum) := by
  refine cal_mk T.d__law_sum sc__law_sum (fun _ _ _ _ _ _ us hl => match us, hl with | [_, _], _ => rfl) (fun vs H Q E h => ?_) (fun f cdv A outer s H vs Q E hr h => ?_)
  · obtain ⟨n, m, rfl, hn, hm, q⟩ := h
    rfl
  · obtain ⟨n, m, rfl, hn, hm, q⟩ := h
    refine ⟨_, (pss_cons (ps_asg (pe_tup (pa_cons pe_int (pa_cons pe_int pa_nil))) (pg_tup rfl (pgs_cons (pg_name (i := 2) sc__law_sum.nd rfl (Or.inl rfl)) (pgs_cons (pg_name (i := 3) sc__law_sum.nd rfl (Or.inl rfl)) pgs_nil))))
  (pss_cons (ps_while PassesOwn.never (PW.pt (pw_or (pt_cmpR op_gt (pv 0) pe_int (nomark _)) (pw_or1 (pt_cmpR op_gt (pv 1) pe_int (nomark _))))) (pss_cons (ps_set (i := 2) sc__law_sum.nd rfl (Or.inl rfl) (pe_op op_add (pv 2) (pe_op op_mulX (pv 3) (pe_callTy call_int1 (by rfl) T.z_int (by decide +kernel) (pa_cons (pe_cmpR op_ne (pe_op op_mod (pe_callTy call_int1 (by rfl) T.z_int (by decide +kernel) (pa_cons (pv 0) pa_nil)) pe_int) (pe_op op_mod (pe_callTy call_int1 (by rfl) T.z_int (by decide +kernel) (pa_cons (pv 1) pa_nil)) pe_int) (nomark _)) pa_nil)))))
  (pss_one (ps_par3 (i := 0) (j := 1) (l := 3) rfl sc__law_sum.nd rfl rfl rfl (by decide) (by decide) (by decide) rfl rfl rfl (pa_cons (pe_op op_fdivW (pv 0) pe_int) (pa_cons (pe_op op_fdivW (pv 1) pe_int) (pa_cons (pe_op op_mulX pe_int (pv 3)) pa_nil))) (by rfl)))))
  (pss_one (ps_ret (pv 2))))), ?_⟩
    refine ⟨(by show 2 ≤ sizeLine; decide), fun p hp => ⟨p, _, rfl, SqT.of upd_same, rfl, _, _, rfl, _, _, rfl, rfl, ?_⟩⟩
    generalize hHH : upd H p (.tup [V.int 0, V.int 1]) = HH
    have q2 : Q (V.int ((n ^^^ m : Nat) : Int)) HH := by
      rw [← hHH]
      exact q _ (same_upd hp)
    refine ⟨fun k σ H' => ∃ t : Nat, σ = [some (.int ((n / 2 ^ t : Nat) : Int)), some (.int ((m / 2 ^ t : Nat) : Int)), some (.int (((n ^^^ m) % 2 ^ t : Nat) : Int)), some (.int ((2 ^ t : Nat) : Int))] ∧ H' = HH ∧ k = n / 2 ^ t + m / 2 ^ t ∧ t ≤ 1100, ⟨_, 0, ?_, rfl, rfl, by omega⟩, fun k σ H' hW => ?_⟩
    · rw [Nat.pow_zero, Nat.div_one, Nat.div_one, Nat.mod_one]
      rfl
    · obtain ⟨t, rfl, rfl, rfl, ht⟩ := hW
      have step : ¬ (n / 2 ^ t = 0 ∧ m / 2 ^ t = 0) → t < 1100 := fun h => by
        by_cases h2 : t < 1100
        · exact h2
        · have e : t = 1100 := by omega
          rw [e] at h
          exact absurd ⟨Nat.div_eq_of_lt hn, Nat.div_eq_of_lt hm⟩ h
      have hx : t ≤ 1100 → 2 ^ t < 2 ^ 1101 := fun h => Nat.pow_lt_pow_right (by decide) (by omega)
      have hc : (if (!decide (V.int (((n / 2 ^ t : Nat) : Int) % 2) = V.int (((m / 2 ^ t : Nat) : Int) % 2))) = true then (1 : Int) else 0) = (((n ^^^ m) / 2 ^ t % 2 : Nat) : Int) := by
        rw [xor_bit, cast_mod2, cast_mod2]
        by_cases h : n / 2 ^ t % 2 = m / 2 ^ t % 2
        · rw [if_pos h, h, decide_eq_true rfl]
          rfl
        · rw [if_neg h, decide_eq_false (fun e => h (Int.ofNat_inj.mp (V.int.inj e)))]
          rfl
      have e1 : (((n ^^^ m) % 2 ^ t : Nat) : Int) + ((2 ^ t : Nat) : Int) * (((n ^^^ m) / 2 ^ t % 2 : Nat) : Int) = (((n ^^^ m) % 2 ^ (t + 1) : Nat) : Int) := by
        rw [low_succ, Int.natCast_add, Int.natCast_mul]
      have e2 : (2 : Int) * ((2 ^ t : Nat) : Int) = ((2 ^ (t + 1) : Nat) : Int) := by
        rw [Nat.pow_succ, Int.natCast_mul, Int.mul_comm]
        rfl
      refine ⟨_, rfl, _, _, rfl, rfl, _, rfl, ite2 (fun ha => iteT ?_) (fun ha => ⟨_, rfl, _, _, rfl, rfl, _, rfl, ite2 (fun hb => ?_) (fun hb => ?_)⟩)⟩
      rotate_left 2
      · have z1 := nat_zero ha
        have z2 := nat_zero hb
        have e := Nat.mod_eq_of_lt (Nat.xor_lt_two_pow (lt_of_div z1) (lt_of_div z2))
        rw [e]
        exact ⟨_, rfl, q2⟩
      all_goals
        have nz : ¬ (n / 2 ^ t = 0 ∧ m / 2 ^ t = 0) := fun h => by
          first
            | exact nat_pos hb h.2
            | exact nat_pos ha h.1
        have ht2 := step nz
        refine ⟨fun σ' H2 => σ' = [some (.int ((n / 2 ^ (t + 1) : Nat) : Int)), some (.int ((m / 2 ^ (t + 1) : Nat) : Int)), some (.int (((n ^^^ m) % 2 ^ (t + 1) : Nat) : Int)), some (.int ((2 ^ (t + 1) : Nat) : Int))] ∧ H2 = H', fun σ' H2 hN => ⟨_, ?_, t + 1, hN.1, hN.2, rfl, by omega⟩, ?_⟩
        · rw [← half_pow, ← half_pow]
          exact half_lt nz
        · refine ⟨_, rfl, _, rfl, _, rfl, .inl ⟨_, rfl, _, _, rfl, rfl, (by show (0 : Int) < 2; decide), _, rfl, .inl ⟨_, rfl, _, _, rfl, rfl, (by show (0 : Int) < 2; decide), rfl, .inr ⟨_, rfl, _, _, rfl, rfl, ?_, _, _, rfl, rfl, ?_⟩⟩⟩⟩
          · rw [hc]
            exact cmulx (hx ht) (Nat.mod_lt _ (by decide) : _ < 2 ^ 1) (by decide)
          · refine ⟨_, rfl, _, 2, rfl, rfl, ⟨by decide, by decide⟩, _, rfl, _, 2, rfl, rfl, ⟨by decide, by decide⟩, _, rfl, 2, _, rfl, rfl, cmulx (n := 2) (a := 2) (by decide) (hx ht) (by decide), _, _, _, rfl, ?_, rfl⟩
            show [some (V.int (((n / 2 ^ t : Nat) : Int) / 2)), some (V.int (((m / 2 ^ t : Nat) : Int) / 2)), some (V.int ((((n ^^^ m) % 2 ^ t : Nat) : Int) + ((2 ^ t : Nat) : Int) * (if (!decide (V.int (((n / 2 ^ t : Nat) : Int) % 2) = V.int (((m / 2 ^ t : Nat) : Int) % 2))) = true then (1 : Int) else 0))), some (V.int ((2 : Int) * ((2 ^ t : Nat) : Int)))] = _
            rw [hc, e1, e2, cast_half, cast_half, half_pow, half_pow]
theorem ok__law_power (T : Top K mg)  : CalD P w K mg base 1 "_law_power" s__law_power ["many"] (spPower) := by
  refine cal_mk T.d__law_power sc__law_power (fun _ _ _ _ _ _ us hl => match us, hl with | [_], _ => rfl) (fun vs H Q E h => ?_) (fun f cdv A outer s H vs Q E hr h => ?_)
  · obtain ⟨n, rfl, hn, q⟩ := h
    rfl
  · obtain ⟨n, rfl, hn, q⟩ := h
    refine ⟨_, (pss_cons (ps_set (i := 1) sc__law_power.nd rfl (Or.inl rfl) pe_int)
  (pss_cons (ps_for PassesOwn.never rfl (pi_range1 (by rfl) T.z_range (pa_cons (pv 0) pa_nil)) (pg_name (i := 2) sc__law_power.nd rfl (Or.inl rfl)) (pss_one (ps_set (i := 1) sc__law_power.nd rfl (Or.inl rfl) (pe_op op_mulX pe_int (pv 1)))))
  (pss_one (ps_ret (pv 1))))), ?_⟩
    refine ⟨_, rfl, (n : Int), rfl, by omega, by omega, ?_⟩
    have en : ((n : Nat) : Int).toNat = n := Int.toNat_natCast _
    refine for_range (lo := 0) (n := ((n : Nat) : Int).toNat) (fun i σ H' => ∃ (z : Option V), σ = [some (.int (n : Int)), some (.int ((2 ^ i : Nat) : Int)), z] ∧ H' = H)
      ⟨none, rfl, rfl⟩ (fun i σ H' hi hP => ?_) (fun σ H' hP => ?_)
    · obtain ⟨z, rfl, rfl⟩ := hP
      have e2 : (2 : Int) * ((2 ^ i : Nat) : Int) = ((2 ^ (i + 1) : Nat) : Int) := by
        rw [Nat.pow_succ, Int.natCast_mul, Int.mul_comm]
        rfl
      refine ⟨_, rfl, 2, _, rfl, rfl, cmulx (n := 2) (a := 2) (b := 100001) (by decide) (Nat.pow_lt_pow_right (by decide) (by omega)) (by decide), ?_⟩
      refine ⟨some (.int (0 + (i : Int))), ?_, rfl⟩
      show [some (V.int (n : Int)), some (V.int ((2 : Int) * ((2 ^ i : Nat) : Int))), some (V.int (0 + (i : Int)))] = _
      rw [e2]
    · obtain ⟨z, rfl, rfl⟩ := hP
      rw [en]
      exact ⟨_, rfl, q⟩
theorem ok__law_places (T : Top K mg)  : CalD P w K mg base 1 "_law_places" s__law_places ["word"] (spPlaces) := by
  refine cal_mk T.d__law_places sc__law_places (fun _ _ _ _ _ _ us hl => match us, hl with | [_], _ => rfl) (fun vs H Q E h => ?_) (fun f cdv A outer s H vs Q E hr h => ?_)
  · obtain ⟨n, rfl, hn, q⟩ := h
    rfl
  · obtain ⟨n, rfl, hn, q⟩ := h
    refine ⟨_, (pss_cons (ps_par (i := 1) (j := 2) rfl sc__law_places.nd rfl rfl (by decide) rfl rfl (pa_cons (pe_lst pa_nil) (pa_cons pe_int pa_nil)) (by rfl))
  (pss_cons (ps_while PassesOwn.never (pt_cmpR op_gt (pv 0) pe_int (nomark _)) (pss_cons (ps_if (pt_cmpR op_eq (pe_op op_mod (pe_callTy call_int1 (by rfl) T.z_int (by decide +kernel) (pa_cons (pv 0) pa_nil)) pe_int) pe_int (nomark _)) (pss_one (ps_expr (pe_bm PySem.F.plainAttrs_list PySem.F.slot_list_append PySem.F.type_list_append mt_append (pv 1) (pa_cons (pv 2) pa_nil)))) pss_nil)
  (pss_one (ps_par (i := 0) (j := 2) rfl sc__law_places.nd rfl rfl (by decide) rfl rfl (pa_cons (pe_op op_fdivW (pv 0) pe_int) (pa_cons (pe_op op_add (pv 2) pe_int) pa_nil)) (by rfl)))))
  (pss_one (ps_ret (pe_callTy call_tuple_of (by rfl) T.z_tuple (by decide +kernel) (pa_cons (pv 1) pa_nil)))))), ?_⟩
    refine ⟨Nat.zero_le _, fun D hD => ⟨_, _, rfl, ?_⟩⟩
    have hn2 : n < 2 ^ 100000 := (bl_le n 100000).mp hn
    refine ⟨fun k σ H' => ∃ t : Nat, σ = [some (.int ((n / 2 ^ t : Nat) : Int)), some (.ref D), some (.int (t : Int))] ∧ Same H H' ∧ H' D = some (.lst (intsV (plc n t))) ∧ k = n / 2 ^ t ∧ t ≤ 100000, ⟨_, 0, ?_, same_upd hD, upd_same, rfl, by omega⟩, fun k σ H' hW => ?_⟩
    · rw [Nat.pow_zero, Nat.div_one]
      rfl
    · obtain ⟨t, rfl, sP, eP, rfl, ht⟩ := hW
      refine ⟨_, rfl, _, _, rfl, rfl, _, rfl, ite2 (fun ha => ?_) (fun ha => ?_)⟩
      · have nz := nat_pos ha
        have ht2 : t < 100000 := by
          by_cases h2 : t < 100000
          · exact h2
          · have e : t = 100000 := by omega
            rw [e] at nz
            exact absurd (Nat.div_eq_of_lt hn2) nz
        refine ⟨fun σ' H2 => σ' = [some (.int ((n / 2 ^ (t + 1) : Nat) : Int)), some (.ref D), some (.int ((t + 1 : Nat) : Int))] ∧ Same H H2 ∧ H2 D = some (.lst (intsV (plc n (t + 1)))), fun σ' H2 hN => ⟨_, ?_, t + 1, hN.1, hN.2.1, hN.2.2, rfl, by omega⟩, ?_⟩
        · rw [← half_pow]
          exact half_lt1 nz
        · refine ⟨_, rfl, .inl ⟨_, rfl, _, _, rfl, rfl, (by show (0 : Int) < 2; decide), rfl, _, rfl, ?_⟩⟩
          have hd : decide (V.int (((n / 2 ^ t : Nat) : Int) % 2) = V.int 1) = n.testBit t := by
            rw [testBit_mod, cast_mod2]
            by_cases h : n / 2 ^ t % 2 = 1
            · rw [h]
              rfl
            · rw [decide_eq_false h, decide_eq_false (show ¬ V.int ((n / 2 ^ t % 2 : Nat) : Int) = V.int 1 from fun e => h (Int.ofNat_inj.mp (show ((_ : Nat) : Int) = ((1 : Nat) : Int) from V.int.inj e)))]
          rw [hd]
          have hpl : plc n (t + 1) = plc n t ++ if n.testBit t = true then [t] else [] := plc_succ n t
          have es : ∀ z : Nat, [some (V.int (((n / 2 ^ t : Nat) : Int) / 2)), some (V.ref D), some (V.int ((t : Int) + 1))] = [some (V.int ((n / 2 ^ (t + 1) : Nat) : Int)), some (V.ref D), some (V.int ((t + 1 : Nat) : Int))] := fun _ => by
            rw [cast_half, half_pow]
            rfl
          refine ite2 (fun hb => ?_) (fun hb => ?_)
          · rw [if_pos hb] at hpl
            refine ⟨_, rfl, .inl ⟨rfl, _, SqL.of eP⟩, _, rfl, D, _, _, rfl, rfl, eP, ?_, ?_⟩
            · have := plc_len n t
              show ((plc n t).map _).length < sizeLine
              rw [List.length_map]
              exact Nat.lt_of_le_of_lt (by omega : _ ≤ 100000) (by decide)
            · refine ⟨_, rfl, _, 2, rfl, rfl, ⟨by decide, by decide⟩, _, rfl, _, 1, rfl, rfl, _, _, rfl, es 0, ?_, ?_⟩
              · intro b o e
                rw [upd_ne (ne_of_none e hD)]
                exact sP b o e
              · rw [upd_same, hpl]
                show _ = some (HO.lst ((plc n t ++ [t]).map _))
                rw [List.map_append]
                rfl
          · rw [if_neg hb, List.append_nil] at hpl
            exact ⟨_, rfl, _, 2, rfl, rfl, ⟨by decide, by decide⟩, _, rfl, _, 1, rfl, rfl, _, _, rfl, es 0, sP, by rw [eP, hpl]⟩
      · have z := nat_zero ha
        rw [plc_eq (lt_of_div z) ((bl_le n (bl n)).mp (Nat.le_refl _))] at eP
        exact ⟨_, rfl, _, _, rfl, .inl ⟨SqL.of eP, fun p hp => q _ _ (sP.trans (same_upd hp)) upd_same⟩⟩
theorem ok__law_width (T : Top K mg)  : CalD P w K mg base 1 "_law_width" s__law_width ["word"] (spWidthL) := by
  refine cal_mk T.d__law_width sc__law_width (fun _ _ _ _ _ _ us hl => match us, hl with | [_], _ => rfl) (fun vs H Q E h => ?_) (fun f cdv A outer s H vs Q E hr h => ?_)
  · obtain ⟨n, rfl, hn, q⟩ := h
    rfl
  · obtain ⟨n, rfl, hn, q⟩ := h
    refine ⟨_, (pss_cons (ps_asg (pe_tup (pa_cons pe_int (pa_cons pe_int pa_nil))) (pg_tup rfl (pgs_cons (pg_name (i := 1) sc__law_width.nd rfl (Or.inl rfl)) (pgs_cons (pg_name (i := 2) sc__law_width.nd rfl (Or.inl rfl)) pgs_nil))))
  (pss_cons (ps_while PassesOwn.never (pt_cmpR op_le (pv 2) (pv 0) (nomark _)) (pss_one (ps_par (i := 1) (j := 2) rfl sc__law_width.nd rfl rfl (by decide) rfl rfl (pa_cons (pe_op op_add (pv 1) pe_int) (pa_cons (pe_op op_mulX pe_int (pv 2)) pa_nil)) (by rfl))))
  (pss_one (ps_ret (pv 1))))), ?_⟩
    refine ⟨(by show 2 ≤ sizeLine; decide), fun p hp => ⟨p, _, rfl, SqT.of upd_same, rfl, _, _, rfl, _, _, rfl, rfl, ?_⟩⟩
    have hn2 : n < 2 ^ 100000 := (bl_le n 100000).mp hn
    refine ⟨fun k σ H' => ∃ t : Nat, σ = [some (.int (n : Int)), some (.int ((t + 1 : Nat) : Int)), some (.int ((2 ^ (t + 1) : Nat) : Int))] ∧ Same H H' ∧ k = 100000 - t ∧ t ≤ 100000 ∧ (t = 0 ∨ 2 ^ t ≤ n), ⟨_, 0, rfl, same_upd hp, rfl, by omega, .inl rfl⟩, fun k σ H' hW => ?_⟩
    obtain ⟨t, rfl, sP, rfl, ht, hl⟩ := hW
    refine ⟨_, rfl, _, rfl, _, _, rfl, rfl, _, rfl, ite2 (fun ha => ?_) (fun ha => ?_)⟩
    · have hle : 2 ^ (t + 1) ≤ n := Int.ofNat_le.mp (of_decide_eq_true ha)
      have ht2 : t + 1 < 100000 := (Nat.pow_lt_pow_iff_right (by decide : 1 < 2)).mp (Nat.lt_of_le_of_lt hle hn2)
      refine ⟨fun σ' H2 => σ' = [some (.int (n : Int)), some (.int ((t + 1 + 1 : Nat) : Int)), some (.int ((2 ^ (t + 1 + 1) : Nat) : Int))] ∧ Same H H2, fun σ' H2 hN => ⟨_, (by omega : 100000 - (t + 1) < 100000 - t), t + 1, hN.1, hN.2, rfl, by omega, .inr hle⟩, ?_⟩
      have e2 : (2 : Int) * ((2 ^ (t + 1) : Nat) : Int) = ((2 ^ (t + 1 + 1) : Nat) : Int) := by
        rw [Nat.pow_succ 2 (t + 1), Int.natCast_mul, Int.mul_comm]
        rfl
      refine ⟨_, rfl, _, 1, rfl, rfl, _, rfl, 2, _, rfl, rfl, cmulx (n := 2) (a := 2) (b := 100002) (by decide) (Nat.pow_lt_pow_right (by decide) (by omega)) (by decide), _, _, rfl, ?_, sP⟩
      show [some (V.int (n : Int)), some (V.int (((t + 1 : Nat) : Int) + 1)), some (V.int ((2 : Int) * ((2 ^ (t + 1) : Nat) : Int)))] = _
      rw [e2]
      rfl
    · have hlt : n < 2 ^ (t + 1) := Nat.lt_of_not_le fun h => ha (decide_eq_true (Int.ofNat_le.mpr h))
      have e := wid_of (n := n) (f := t + 1) (by omega) hlt (by rcases hl with h | h; exact .inl (by omega); exact .inr h)
      rw [e]
      exact ⟨_, rfl, q _ sP⟩
theorem ok__law_right (T : Top K mg) (c__law_take : CalD P w K mg base 1 "_law_take" s__law_take ["deck", "many"] (spTake)) (c__law_word : CalD P w K mg base 2 "_law_word" s__law_word ["deck", "most"] (spWord)) (c__law_sum : CalD P w K mg base 1 "_law_sum" s__law_sum ["a_word", "b_word"] (spSum)) (c__law_same : CalD P w K mg base 7 "_law_same" s__law_same ["found", "due"] (spSame K 6)) (c_added : CalD P w K mg base 3 "added" s_added ["a", "b"] (spAdded)) (c_bits : CalD P w K mg base 3 "bits" s_bits ["a"] (spBits)) (c__law_places : CalD P w K mg base 1 "_law_places" s__law_places ["word"] (spPlaces)) (c__law_width : CalD P w K mg base 1 "_law_width" s__law_width ["word"] (spWidthL)) (c_width : CalD P w K mg base 3 "width" s_width ["a"] (spWidth)) (c_is_word : CalD P w K mg base 3 "is_word" s_is_word ["w", "told"] (spIsWord K)) (c__law_power : CalD P w K mg base 1 "_law_power" s__law_power ["many"] (spPower)) : CalD P w K mg base 8 "_law_right" s__law_right ["deck"] (spRight) := by
  refine cal_mk T.d__law_right sc__law_right (fun _ _ _ _ _ _ us hl => match us, hl with | [_], _ => rfl) (fun vs H Q E h => ?_) (fun f cdv A outer s H vs Q E hr h => ?_)
  · obtain ⟨a, rfl, hD, q⟩ := h
    rfl
  · obtain ⟨a, rfl, hD, q⟩ := h
    refine ⟨_, (pss_cons (ps_set (i := 1) sc__law_right.nd rfl (Or.inl rfl) (pe_ix ix_list (pe_lst (pa_cons pe_int (pa_cons pe_int (pa_cons pe_int (pa_cons pe_int (pa_cons pe_int (pa_cons pe_int pa_nil))))))) (pe_f c__law_take hr (by omega) (by rfl) (pa_cons (pv 0) (pa_cons pe_int pa_nil))) (fun _ _ => rfl)))
  (pss_cons (ps_par (i := 2) (j := 3) rfl sc__law_right.nd rfl rfl (by decide) rfl rfl (pa_cons (pe_f c__law_word hr (by omega) (by rfl) (pa_cons (pv 0) (pa_cons (pv 1) pa_nil))) (pa_cons (pe_f c__law_word hr (by omega) (by rfl) (pa_cons (pv 0) (pa_cons (pv 1) pa_nil))) pa_nil)) (by rfl))
  (pss_cons (ps_set (i := 4) sc__law_right.nd rfl (Or.inl rfl) (pe_f c__law_sum hr (by omega) (by rfl) (pa_cons (pv 2) (pa_cons (pv 3) pa_nil))))
  (pss_cons (ps_if (pt_not (pt_val (pe_f c__law_same hr (by omega) (by rfl) (pa_cons (pe_lst (pa_cons (pe_f c_added hr (by omega) (by rfl) (pa_cons (pv 2) (pa_cons (pv 3) pa_nil))) (pa_cons (pe_k0 ["b", "a"] [1, 0] (fun _ _ _ _ _ _ ws hl => match ws, hl with | [_, _], _ => rfl) c_added hr (by omega) (by rfl) (pk_cons (pv 3) (pk_cons (pv 2) pk_nil))) (pa_cons (pe_f c_added hr (by omega) (by rfl) (pa_cons (pv 3) (pa_cons (pv 2) pa_nil))) pa_nil)))) (pa_cons (pe_lst (pa_cons (pv 4) (pa_cons (pv 4) (pa_cons (pv 4) pa_nil)))) pa_nil))))) (pss_one (ps_ret pe_bl)) pss_nil)
  (pss_cons (ps_if (pt_not (pt_val (pe_f c__law_same hr (by omega) (by rfl) (pa_cons (pe_lst (pa_cons (pe_f c_added hr (by omega) (by rfl) (pa_cons (pv 4) (pa_cons (pv 3) pa_nil))) (pa_cons (pe_f c_added hr (by omega) (by rfl) (pa_cons (pv 2) (pa_cons (pv 2) pa_nil))) (pa_cons (pe_f c_added hr (by omega) (by rfl) (pa_cons (pv 2) (pa_cons pe_int pa_nil))) pa_nil)))) (pa_cons (pe_lst (pa_cons (pv 2) (pa_cons pe_int (pa_cons (pv 2) pa_nil)))) pa_nil))))) (pss_one (ps_ret pe_bl)) pss_nil)
  (pss_cons (ps_set (i := 5) sc__law_right.nd rfl (Or.inl rfl) (pe_f c_bits hr (by omega) (by rfl) (pa_cons (pv 2) pa_nil)))
  (pss_cons (ps_if (PW.pt (pw_or (pt_not (pt_val (pe_f c__law_same hr (by omega) (by rfl) (pa_cons (pe_k0 ["a"] [0] (fun _ _ _ _ _ _ ws hl => match ws, hl with | [_], _ => rfl) c_bits hr (by omega) (by rfl) (pk_cons (pv 2) pk_nil)) (pa_cons (pv 5) pa_nil))))) (pw_or1 (pt_not (pt_val (pe_callB call_isi (by rfl) T.z_isinstance (by decide +kernel) (pa_cons (pv 5) (pa_cons (pe_bltn (v := .ty "tuple") (by rfl) T.z_tuple (by decide +kernel) rfl) pa_nil)))))))) (pss_one (ps_ret pe_bl)) pss_nil)
  (pss_cons (ps_if (pt_not (pt_val (pe_f c__law_same hr (by omega) (by rfl) (pa_cons (pv 5) (pa_cons (pe_f c__law_places hr (by omega) (by rfl) (pa_cons (pv 2) pa_nil)) pa_nil))))) (pss_one (ps_ret pe_bl)) pss_nil)
  (pss_cons (ps_set (i := 6) sc__law_right.nd rfl (Or.inl rfl) (pe_f c__law_width hr (by omega) (by rfl) (pa_cons (pv 2) pa_nil)))
  (pss_cons (ps_if (pt_not (pt_val (pe_f c__law_same hr (by omega) (by rfl) (pa_cons (pe_lst (pa_cons (pe_f c_width hr (by omega) (by rfl) (pa_cons (pv 2) pa_nil)) (pa_cons (pe_k0 ["a"] [0] (fun _ _ _ _ _ _ ws hl => match ws, hl with | [_], _ => rfl) c_width hr (by omega) (by rfl) (pk_cons (pv 2) pk_nil)) (pa_cons (pe_f c_width hr (by omega) (by rfl) (pa_cons (pv 4) pa_nil)) pa_nil)))) (pa_cons (pe_lst (pa_cons (pv 6) (pa_cons (pv 6) (pa_cons (pe_f c__law_width hr (by omega) (by rfl) (pa_cons (pv 4) pa_nil)) pa_nil)))) pa_nil))))) (pss_one (ps_ret pe_bl)) pss_nil)
  (pss_cons (ps_set (i := 7) sc__law_right.nd rfl (Or.inl rfl) (pe_op op_add pe_int (pe_f c__law_take hr (by omega) (by rfl) (pa_cons (pv 0) (pa_cons (pv 1) pa_nil)))))
  (pss_cons (ps_set (i := 8) sc__law_right.nd rfl (Or.inl rfl) (pe_lst (pa_cons (pe_f c_is_word hr (by omega) (by rfl) (pa_cons (pv 6) (pa_cons (pv 2) pa_nil))) (pa_cons (pe_k0 ["w", "told"] [0, 1] (fun _ _ _ _ _ _ ws hl => match ws, hl with | [_, _], _ => rfl) c_is_word hr (by omega) (by rfl) (pk_cons (pv 7) (pk_cons (pv 2) pk_nil))) (pa_cons (pe_f c_is_word hr (by omega) (by rfl) (pa_cons (pe_op op_add (pv 6) pe_int) (pa_cons (pv 2) pa_nil))) pa_nil)))))
  (C8.pss_cut (ps_if (PW.pt (pw_or (pt_not (pt_val (pe_f c__law_same hr (by omega) (by rfl) (pa_cons (pv 8) (pa_cons (pe_lst (pa_cons pe_bl (pa_cons (pe_cmpR op_le (pv 6) (pv 7) (nomark _)) (pa_cons pe_bl pa_nil)))) pa_nil))))) (pw_or1 (PW.pt (pw_and (pt_cmpR op_gt (pv 6) pe_int (nomark _)) (pw_and1 (pt_not (pt_val (pe_f c__law_same hr (by omega) (by rfl) (pa_cons (pe_f c_is_word hr (by omega) (by rfl) (pa_cons (pe_op op_sub (pv 6) pe_int) (pa_cons (pv 2) pa_nil))) (pa_cons pe_bl pa_nil))))))))))) (pss_one (ps_ret pe_bl)) pss_nil)
  (pss_cons (ps_if (pt_not (pt_val (pe_f c__law_same hr (by omega) (by rfl) (pa_cons (pe_lst (pa_cons (pe_f c_is_word hr (by omega) (by rfl) (pa_cons (pv 7) (pa_cons (pe_f c__law_power hr (by omega) (by rfl) (pa_cons (pv 7) pa_nil)) pa_nil))) (pa_cons (pe_f c_is_word hr (by omega) (by rfl) (pa_cons (pv 7) (pa_cons (pe_op op_sub (pe_f c__law_power hr (by omega) (by rfl) (pa_cons (pv 7) pa_nil)) pe_int) pa_nil))) pa_nil))) (pa_cons (pe_lst (pa_cons pe_bl (pa_cons pe_bl pa_nil))) pa_nil))))) (pss_one (ps_ret pe_bl)) pss_nil)
  (pss_cons (ps_set (i := 9) sc__law_right.nd rfl (Or.inl rfl) (pe_ix ix_list (pe_lst (pa_cons (pe_un un_neg pe_int) (pa_cons (pe_op op_sub (pe_un un_neg (pv 2)) pe_int) (pa_cons pe_non (pa_cons pe_str (pa_cons (pe_tup (pa_cons pe_int pa_nil)) (pa_cons (pe_lst (pa_cons pe_int pa_nil)) (pa_cons pe_bl (pa_cons pe_bl (pa_cons (pe_tup pa_nil) pa_nil)))))))))) (pe_f c__law_take hr (by omega) (by rfl) (pa_cons (pv 0) (pa_cons pe_int pa_nil))) (fun _ _ => rfl)))
  (pss_cons (ps_set (i := 8) sc__law_right.nd rfl (Or.inl rfl) (pe_lst (pa_cons (pe_f c_is_word hr (by omega) (by rfl) (pa_cons (pv 7) (pa_cons (pv 9) pa_nil))) (pa_cons (pe_k0 ["told", "w"] [1, 0] (fun _ _ _ _ _ _ ws hl => match ws, hl with | [_, _], _ => rfl) c_is_word hr (by omega) (by rfl) (pk_cons (pv 9) (pk_cons (pv 7) pk_nil))) (pa_cons (pe_f c_is_word hr (by omega) (by rfl) (pa_cons pe_int (pa_cons (pv 9) pa_nil))) (pa_cons (pe_f c_is_word hr (by omega) (by rfl) (pa_cons pe_int (pa_cons (pv 2) pa_nil))) pa_nil))))))
  (pss_one (ps_ret (pe_f c__law_same hr (by omega) (by rfl) (pa_cons (pv 8) (pa_cons (pe_lst (pa_cons pe_bl (pa_cons pe_bl (pa_cons pe_bl (pa_cons pe_bl pa_nil))))) pa_nil))))))))))))))))))))), ?_⟩
    -- most
    refine ⟨(by show 6 ≤ sizeLine; decide), fun p hp => ?_⟩
    have nap : a ≠ p := by
      obtain ⟨_, _, e, _⟩ := hD
      exact ne_of_none e hp
    refine ⟨_, rfl, a, 6, rfl, hD.same (same_upd hp), by decide, log2_small (by decide), fun t x y h0 h1 hy0 hy1 => ?_⟩
    obtain ⟨j, rfl⟩ := Int.eq_ofNat_of_zero_le h0
    have hL : SqL K (upd (upd H p (.lst [V.int 6, V.int 60, V.int 60, V.int 200, V.int 60, V.int 1000])) a (.lst [.int x, .int y])) p [V.int 6, V.int 60, V.int 60, V.int 200, V.int 60, V.int 1000] := SqL.of (by rw [upd_ne nap.symm, upd_same])
    have o0 : Off a H (upd (upd H p (.lst [V.int 6, V.int 60, V.int 60, V.int 200, V.int 60, V.int 1000])) a (.lst [.int x, .int y])) := (Off.of (same_upd hp)).trans (Off.upd _ _ _)
    have d0 := DeckAt.upd (upd H p (.lst [V.int 6, V.int 60, V.int 60, V.int 200, V.int 60, V.int 1000])) a x hy0 hy1
    obtain ⟨most, hm1, hm2, hat⟩ : ∃ most : Nat, 1 ≤ most ∧ most ≤ 1000 ∧ atI [V.int 6, V.int 60, V.int 60, V.int 200, V.int 60, V.int 1000] (j : Int) = some (.int (most : Int)) := by
      have h6 : j = 0 ∨ j = 1 ∨ j = 2 ∨ j = 3 ∨ j = 4 ∨ j = 5 := by omega
      rcases h6 with rfl | rfl | rfl | rfl | rfl | rfl
      · exact ⟨6, by decide, by decide, rfl⟩
      · exact ⟨60, by decide, by decide, rfl⟩
      · exact ⟨60, by decide, by decide, rfl⟩
      · exact ⟨200, by decide, by decide, rfl⟩
      · exact ⟨60, by decide, by decide, rfl⟩
      · exact ⟨1000, by decide, by decide, rfl⟩
    refine ⟨p, _, _, _, rfl, rfl, hL, hat, ?_⟩
    generalize upd (upd H p (.lst [V.int 6, V.int 60, V.int 60, V.int 200, V.int 60, V.int 1000])) a (.lst [.int x, .int y]) = H1 at o0 d0
    -- first, second
    refine ⟨_, rfl, _, rfl, a, most, rfl, d0, hm2, fun n H2 hn o1 d1 => ?_⟩
    refine ⟨_, rfl, _, rfl, a, most, rfl, d1, hm2, fun m H3 hm o2 d2 => ?_⟩
    have o3 := (o0.trans o1).trans o2
    have hb : 2 ^ (most + 2) ≤ 2 ^ 1002 := Nat.pow_le_pow_right (by decide) (by omega)
    have hn2 : n < 2 ^ 1002 := Nat.lt_of_lt_of_le hn hb
    have hmm2 : m < 2 ^ 1002 := Nat.lt_of_lt_of_le hm hb
    have hx2 : n ^^^ m < 2 ^ 1002 := Nat.xor_lt_two_pow hn2 hmm2
    have up : (2 : Nat) ^ 1002 ≤ 2 ^ 1100 := Nat.pow_le_pow_right (by decide) (by decide)
    refine ⟨_, _, rfl, ?_⟩
    -- due
    refine ⟨_, rfl, _, rfl, n, m, rfl, Nat.lt_of_lt_of_le hn2 up, Nat.lt_of_lt_of_le hmm2 up, fun H4 s4 => ?_⟩
    have o4 := o3.trans (Off.of s4)
    have d4 := d2.same s4
    -- added
    refine ⟨_, rfl, _, rfl, n, m, rfl, _, rfl, _, rfl, rfl, n, m, rfl, _, rfl, _, rfl, m, n, rfl, (by show 3 ≤ sizeLine; decide), fun p1 hp1 => ⟨_, rfl, _, rfl, _, rfl, (by show 3 ≤ sizeLine; decide), fun p2 hp2 => ?_⟩⟩
    have t1 := two_i (K := K) [((n ^^^ m : Nat) : Int), ((n ^^^ m : Nat) : Int), ((m ^^^ n : Nat) : Int)] [((n ^^^ m : Nat) : Int), ((n ^^^ m : Nat) : Int), ((n ^^^ m : Nat) : Int)] (by rw [Nat.xor_comm m n]) (upd_same (H := H4) (a := p1)) hp2
    refine ⟨_, _, _, rfl, t1.1, t1.2, (fitI 4 _ (by show 3 < 1000000; decide)).1, fun H5 s5 => ⟨_, rfl, iteF ?_⟩⟩
    have s5' : Same H4 H5 := ((same_upd hp1).trans (same_upd hp2)).trans s5
    clear s5 t1
    refine ⟨_, rfl, _, rfl, n ^^^ m, m, rfl, _, rfl, _, rfl, n, n, rfl, _, rfl, n, 0, rfl, (by show 3 ≤ sizeLine; decide), fun p3 hp3 => ⟨_, rfl, _, rfl, (by show 3 ≤ sizeLine; decide), fun p4 hp4 => ?_⟩⟩
    have t2 := two_i (K := K) [((n ^^^ m ^^^ m : Nat) : Int), ((n ^^^ n : Nat) : Int), ((n ^^^ 0 : Nat) : Int)] [(n : Int), 0, (n : Int)] (by rw [Nat.xor_assoc, Nat.xor_self, Nat.xor_self, Nat.xor_zero]; rfl) (upd_same (H := H5) (a := p3)) hp4
    refine ⟨_, _, _, rfl, t2.1, t2.2, (fitI 4 _ (by show 3 < 1000000; decide)).1, fun H6 s6 => ⟨_, rfl, iteF ?_⟩⟩
    have s6' : Same H4 H6 := s5'.trans (((same_upd hp3).trans (same_upd hp4)).trans s6)
    clear s6 t2 s5'
    -- bits
    have hbl : bl n ≤ 100000 := Nat.le_trans (bl_pow_le hn2) (by decide)
    refine ⟨_, rfl, n, rfl, hbl, fun H7 P s7 eP => ?_⟩
    refine ⟨_, rfl, rfl, n, rfl, hbl, fun H8 P2 s8 eP2 => ⟨_, rfl, _, _, _, rfl, dpT _ eP2, dpT _ (s8 _ _ eP), (fitI 4 _ ?_).2, fun H9 s9 => ⟨_, rfl, iteF ⟨_, rfl, _, _, _, _, true, rfl, .ty _, ty_tuple (SqT.of (s9 _ _ (s8 _ _ eP))), kit_ty (by decide +kernel), _, rfl, iteF ?_⟩⟩⟩⟩
    · rw [List.length_map]
      exact Nat.lt_of_le_of_lt (plc_len _ _) (by omega)
    have s9' : Same H4 H9 := s6'.trans (s7.trans (s8.trans s9))
    have eP9 := s9 _ _ (s8 _ _ eP)
    clear s6' s7 s8 s9 eP eP2
    refine ⟨_, rfl, _, rfl, n, rfl, hbl, fun H10 P3 s10 eP3 => ⟨_, _, _, rfl, dpT _ (s10 _ _ eP9), dpT _ eP3, (fitI 4 _ ?_).2, fun H11 s11 => ⟨_, rfl, iteF ?_⟩⟩⟩
    · rw [List.length_map]
      exact Nat.lt_of_le_of_lt (plc_len _ _) (by omega)
    have s11' : Same H4 H11 := s9'.trans (s10.trans s11)
    clear s9' s10 s11 eP9 eP3
    -- wide
    have hbx : bl (n ^^^ m) ≤ 100000 := Nat.le_trans (bl_pow_le hx2) (by decide)
    refine ⟨_, rfl, n, rfl, hbl, fun H12 s12 => ?_⟩
    refine ⟨_, rfl, n, rfl, _, rfl, rfl, n, rfl, _, rfl, n ^^^ m, rfl, (by show 3 ≤ sizeLine; decide), fun p5 hp5 => ⟨_, rfl, _, rfl, _, rfl, n ^^^ m, rfl, hbx, fun H13 s13 => ⟨(by show 3 ≤ sizeLine; decide), fun p6 hp6 => ?_⟩⟩⟩
    have t3 := two_i (K := K) [(wid n : Int), (wid n : Int), (wid (n ^^^ m) : Int)] [(wid n : Int), (wid n : Int), (wid (n ^^^ m) : Int)] rfl (s13 _ _ (upd_same (H := H12) (a := p5))) hp6
    refine ⟨_, _, _, rfl, t3.1, t3.2, (fitI 4 _ (by show 3 < 1000000; decide)).1, fun H14 s14 => ⟨_, rfl, iteF ?_⟩⟩
    have s14' : Same H4 H14 := s11'.trans (s12.trans (((same_upd hp5).trans s13).trans ((same_upd hp6).trans s14)))
    clear s11' s12 s13 s14 t3
    have d14 := d4.same s14'
    have o14 := o4.trans (Off.of s14')
    -- low
    refine ⟨_, rfl, _, rfl, a, most, rfl, d14, by omega, log2_small (by omega), fun t x y h0 h1 hy0 hy1 => ?_⟩
    obtain ⟨lw, rfl⟩ := Int.eq_ofNat_of_zero_le h0
    refine ⟨1, _, rfl, rfl, ?_⟩
    have o15 := o14.trans (Off.upd a H14 (.lst [.int x, .int y]))
    have d15 := DeckAt.upd H14 a x hy0 hy1
    generalize upd H14 a (.lst [.int x, .int y]) = H15 at o15 d15
    have el : (1 : Int) + (lw : Int) = ((lw + 1 : Nat) : Int) := by omega
    show tSeq _ _ _ [some (V.ref a), some (V.int (most : Int)), some (V.int (n : Int)), some (V.int (m : Int)), some (V.int ((n ^^^ m : Nat) : Int)), some (V.ref P), some (V.int (wid n : Int)), some (V.int ((1 : Int) + (lw : Int))), none, none] H15
    rw [el]
    have hlow : 1 ≤ lw + 1 := by omega
    have hlow2 : lw + 1 ≤ 1000 := by omega
    generalize lw + 1 = low at hlow hlow2
    -- found
    refine ⟨_, rfl, _, rfl, .int (n : Int), .int (n : Int), wid n, rfl, wid_pos n, .int _, _, rfl, _, rfl, rfl, .int (n : Int), .int (n : Int), low, rfl, hlow, .int _, _, rfl, _, _, rfl, rfl, _, rfl, .int (n : Int), .int (n : Int), wid n + 1, rfl, by omega, .int _, (by show 3 ≤ sizeLine; decide), fun p7 hp7 => ?_⟩
    have eF : upd H15 p7 (.lst [V.bl (isWordD (.int (n : Int)) (wid n)), V.bl (isWordD (.int (n : Int)) low), V.bl (isWordD (.int (n : Int)) (wid n + 1))]) p7 = some (.lst [V.bl (isWordD (.int (n : Int)) (wid n)), V.bl (isWordD (.int (n : Int)) low), V.bl (isWordD (.int (n : Int)) (wid n + 1))]) := upd_same
    have o16 := o15.trans (Off.of (same_upd (o := .lst [V.bl (isWordD (.int (n : Int)) (wid n)), V.bl (isWordD (.int (n : Int)) low), V.bl (isWordD (.int (n : Int)) (wid n + 1))]) hp7))
    have d16 := d15.same (same_upd (o := .lst [V.bl (isWordD (.int (n : Int)) (wid n)), V.bl (isWordD (.int (n : Int)) low), V.bl (isWordD (.int (n : Int)) (wid n + 1))]) hp7)
    generalize upd H15 p7 (.lst [V.bl (isWordD (.int (n : Int)) (wid n)), V.bl (isWordD (.int (n : Int)) low), V.bl (isWordD (.int (n : Int)) (wid n + 1))]) = H16 at eF o16 d16
    refine ⟨fun σ' H' => σ' = [some (V.ref a), some (V.int (most : Int)), some (V.int (n : Int)), some (V.int (m : Int)), some (V.int ((n ^^^ m : Nat) : Int)), some (V.ref P), some (V.int (wid n : Int)), some (V.int (low : Int)), some (V.ref p7), none] ∧ Same H16 H', ?_, fun σ' H' hM => ?_⟩
    · refine ⟨_, rfl, _, rfl, _, rfl, _, _, rfl, rfl, (by show 3 ≤ sizeLine; decide), fun p8 hp8 => ?_⟩
      have t4 := two_b (K := K) [isWordD (.int (n : Int)) (wid n), isWordD (.int (n : Int)) low, isWordD (.int (n : Int)) (wid n + 1)] [true, decide ((wid n : Int) ≤ (low : Int)), true] (isWord_3 n low hlow) eF hp8
      refine ⟨_, _, _, rfl, t4.1, t4.2, fitB 4 _ (by show 3 < 1000000; decide), fun H17 s17 => ⟨_, rfl, iteF ⟨_, rfl, _, _, rfl, rfl, _, rfl, ite2 (fun hw => ?_) (fun hw => ?_)⟩⟩⟩
      · have hw1 : 1 < wid n := by
          have := of_decide_eq_true hw
          omega
        refine ⟨_, rfl, _, _, rfl, rfl, _, rfl, .int (n : Int), .int (n : Int), wid n - 1, ?_, by omega, .int _, _, .bl false, .bool false, rfl, ?_, .bl false, trivial, fun H18 s18 => ⟨_, rfl, iteF ⟨rfl, (same_upd hp8).trans (s17.trans s18)⟩⟩⟩
        · rw [show ((wid n - 1 : Nat) : Int) = (wid n : Int) - 1 by omega]
          rfl
        · rw [isWord_less hw1]
          exact .bl false
      · exact iteF ⟨rfl, (same_upd hp8).trans s17⟩
    · obtain ⟨rfl, sM⟩ := hM
      have o17 := o16.trans (Off.of sM)
      have d17 := d16.same sM
      clear o16 d16 eF sM
      -- powers
      refine ⟨_, rfl, _, rfl, low, rfl, by omega, .int ((2 ^ low : Nat) : Int), .int ((2 ^ low : Nat) : Int), low, rfl, hlow, .int _, _, rfl, _, rfl, low, rfl, by omega, _, _, rfl, rfl, _, .int (((2 ^ low : Nat) : Int) - 1), low, rfl, hlow, .int _, (by show 2 ≤ sizeLine; decide), fun p9 hp9 => ⟨(by show 2 ≤ sizeLine; decide), fun p10 hp10 => ?_⟩⟩
      have t5 := two_b (K := K) [isWordD (.int ((2 ^ low : Nat) : Int)) low, isWordD (.int (((2 ^ low : Nat) : Int) - 1)) low] [false, true] (isWord_pow low) (upd_same (H := H') (a := p9)) hp10
      refine ⟨_, _, _, rfl, t5.1, t5.2, fitB 4 _ (by show 2 < 1000000; decide), fun H18 s18 => ⟨_, rfl, iteF ?_⟩⟩
      have s18' : Same H' H18 := (same_upd hp9).trans ((same_upd hp10).trans s18)
      have o18 := o17.trans (Off.of s18')
      have d18 := d17.same s18'
      clear o17 d17 s18 s18' t5
      -- odd
      refine ⟨_, rfl, _, rfl, _, rfl, _, _, rfl, rfl, (by show 1 ≤ sizeLine; decide), fun pt hpt => ⟨(by show 1 ≤ sizeLine; decide), fun pl hpl => ⟨(by show 0 ≤ sizeLine; decide), fun pe hpe => ⟨(by show 9 ≤ sizeLine; decide), fun p11 hp11 => ?_⟩⟩⟩⟩
      have sA : Same H18 _ := (same_upd (o := .tup [V.int 1]) hpt).trans ((same_upd (o := .lst [V.int 1]) hpl).trans ((same_upd (o := .tup []) hpe).trans (same_upd (o := .lst [V.int (-1), V.int (-(n : Int) - 1), V.non, V.str "1", V.ref pt, V.ref pl, V.bl true, V.bl false, V.ref pe]) hp11)))
      have e1 := same_upd (o := .lst [V.int (-1), V.int (-(n : Int) - 1), V.non, V.str "1", V.ref pt, V.ref pl, V.bl true, V.bl false, V.ref pe]) hp11 _ _ (same_upd (o := .tup []) hpe _ _ (same_upd (o := .lst [V.int 1]) hpl _ _ (upd_same (H := H18) (a := pt) (o := .tup [V.int 1]))))
      have e2 := same_upd (o := .lst [V.int (-1), V.int (-(n : Int) - 1), V.non, V.str "1", V.ref pt, V.ref pl, V.bl true, V.bl false, V.ref pe]) hp11 _ _ (same_upd (o := .tup []) hpe _ _ (upd_same (H := upd H18 pt (.tup [V.int 1])) (a := pl) (o := .lst [V.int 1])))
      have e3 := same_upd (o := .lst [V.int (-1), V.int (-(n : Int) - 1), V.non, V.str "1", V.ref pt, V.ref pl, V.bl true, V.bl false, V.ref pe]) hp11 _ _ (upd_same (H := upd (upd H18 pt (.tup [V.int 1])) pl (.lst [V.int 1])) (a := pe) (o := .tup []))
      have e4 := upd_same (H := upd (upd (upd H18 pt (.tup [V.int 1])) pl (.lst [V.int 1])) pe (.tup [])) (a := p11) (o := .lst [V.int (-1), V.int (-(n : Int) - 1), V.non, V.str "1", V.ref pt, V.ref pl, V.bl true, V.bl false, V.ref pe])
      have d19 := d18.same sA
      have o19 := o18.trans (Off.of sA)
      obtain ⟨dx, dy, ed, _, _⟩ := id d19
      have n1 : pt ≠ a := ne_of e1 ed (by intro z; cases z)
      have n2 : pl ≠ a := ne_of e2 ed (by intro z; cases z)
      have n3 : pe ≠ a := ne_of e3 ed (by intro z; cases z)
      have n4 : p11 ≠ a := ne_of e4 ed (by intro z; cases z)
      refine ⟨_, rfl, a, 9, rfl, d19, by decide, log2_small (by decide), fun t x y h0 h1 hy0 hy1 => ?_⟩
      obtain ⟨j2, rfl⟩ := Int.eq_ofNat_of_zero_le h0
      have o20 := o19.trans (Off.upd a _ (.lst [.int x, .int y]))
      generalize upd (upd (upd (upd H18 pt (.tup [V.int 1])) pl (.lst [V.int 1])) pe (.tup [])) p11 (.lst [V.int (-1), V.int (-(n : Int) - 1), V.non, V.str "1", V.ref pt, V.ref pl, V.bl true, V.bl false, V.ref pe]) = H19 at *
      have e1' : upd H19 a (.lst [.int x, .int y]) pt = some (.tup [V.int 1]) := by rw [upd_ne n1]; exact e1
      have e2' : upd H19 a (.lst [.int x, .int y]) pl = some (.lst [V.int 1]) := by rw [upd_ne n2]; exact e2
      have e3' : upd H19 a (.lst [.int x, .int y]) pe = some (.tup []) := by rw [upd_ne n3]; exact e3
      have e4' : upd H19 a (.lst [.int x, .int y]) p11 = some (.lst [V.int (-1), V.int (-(n : Int) - 1), V.non, V.str "1", V.ref pt, V.ref pl, V.bl true, V.bl false, V.ref pe]) := by rw [upd_ne n4]; exact e4
      generalize upd H19 a (.lst [.int x, .int y]) = H20 at *
      obtain ⟨v, d, ev, hv, hno⟩ : ∃ (v : V) (d : PyData), atI [V.int (-1), V.int (-(n : Int) - 1), V.non, V.str "1", V.ref pt, V.ref pl, V.bl true, V.bl false, V.ref pe] (j2 : Int) = some v ∧ Dp K H20 v d ∧ ∀ w, isWordD d w = false := by
        have h9 : j2 = 0 ∨ j2 = 1 ∨ j2 = 2 ∨ j2 = 3 ∨ j2 = 4 ∨ j2 = 5 ∨ j2 = 6 ∨ j2 = 7 ∨ j2 = 8 := by omega
        rcases h9 with rfl | rfl | rfl | rfl | rfl | rfl | rfl | rfl | rfl
        · exact ⟨_, _, rfl, .int _, isWord_neg (by decide)⟩
        · exact ⟨_, _, rfl, .int _, isWord_neg (by omega)⟩
        · exact ⟨_, _, rfl, .non, fun _ => rfl⟩
        · exact ⟨_, _, rfl, .str _, fun _ => rfl⟩
        · exact ⟨_, _, rfl, .tup (SqT.of e1') (dpI [1]), fun _ => rfl⟩
        · exact ⟨_, _, rfl, .lst (SqL.of e2') (dpI [1]), fun _ => rfl⟩
        · exact ⟨_, _, rfl, .bl _, fun _ => rfl⟩
        · exact ⟨_, _, rfl, .bl _, fun _ => rfl⟩
        · exact ⟨_, _, rfl, .tup (SqT.of e3') (dpI []), fun _ => rfl⟩
      refine ⟨p11, _, _, v, rfl, rfl, SqL.of e4', ev, ?_⟩
      -- found again
      refine ⟨_, rfl, _, rfl, v, d, low, rfl, hlow, hv, _, rfl, _, rfl, rfl, v, d, low, rfl, hlow, hv, _, rfl, v, d, 2000, rfl, by decide, hv, _, rfl, .int (n : Int), .int (n : Int), 2000, rfl, by decide, .int _, (by show 4 ≤ sizeLine; decide), fun p12 hp12 => ?_⟩
      refine ⟨_, rfl, (by show 4 ≤ sizeLine; decide), fun p13 hp13 => ?_⟩
      have t6 := two_b (K := K) [isWordD d low, isWordD d low, isWordD d 2000, isWordD (.int (n : Int)) 2000] [false, false, false, true] (by
        rw [hno, hno, isWord_nat, decide_eq_true (Nat.lt_trans hn2 (Nat.pow_lt_pow_right (by decide) (by decide)))]) (upd_same (H := H20) (a := p12)) hp13
      exact ⟨_, _, _, rfl, t6.1, t6.2, fitB 4 _ (by show 4 < 1000000; decide), fun H21 s21 => q _ (o20.trans (Off.of ((same_upd hp12).trans ((same_upd hp13).trans s21))))⟩
theorem ok_law (T : Top K mg) (c__law_right : CalD P w K mg base 8 "_law_right" s__law_right ["deck"] (spRight)) (c__law_deck : CalD P w K mg base 1 "_law_deck" s__law_deck ["script", "at"] (spDeck K)) : CalD P w K mg base 9 "law" s_law ["script"] (spLaw K) := by
  refine cal_mk T.d_law sc_law (fun _ _ _ _ _ _ us hl => match us, hl with | [_], _ => rfl) (fun vs H Q E h => ?_) (fun f cdv A outer s H vs Q E hr h => ?_)
  · obtain ⟨l, ns, rfl, hS, hlen, q⟩ := h
    rfl
  · obtain ⟨l, ns, rfl, hS, hlen, q⟩ := h
    refine ⟨_, (pss_cons (ps_for PassesOwn.never rfl (pi_range1 (by rfl) T.z_range (pa_cons (pe_callB (call_max2 rfl) (by rfl) T.z_max (by decide +kernel) (pa_cons pe_int (pa_cons (pe_callB (call_min2 rfl) (by rfl) T.z_min (by decide +kernel) (pa_cons (pe_callB call_len_seq (by rfl) T.z_len PySem.boot_len (pa_cons (pv 0) pa_nil)) (pa_cons pe_int pa_nil))) pa_nil))) pa_nil)) (pg_name (i := 1) sc_law.nd rfl (Or.inl rfl)) (pss_one (ps_if (pt_not (pt_val (pe_f c__law_right hr (by omega) (by rfl) (pa_cons (pe_f c__law_deck hr (by omega) (by rfl) (pa_cons (pv 0) (pa_cons (pv 1) pa_nil))) pa_nil)))) (pss_one (ps_ret pe_bl)) pss_nil)))
  (pss_one (ps_ret pe_bl))), ?_⟩
    have hl2 : (ns.map V.int).length ≤ 63 := by
      rw [List.length_map]
      exact hlen
    refine ⟨_, rfl, l, _, rfl, .inl hS, _, _, rfl, ?_⟩
    generalize hg : (if (20 : Int) < ((ns.map V.int).length : Int) then (20 : Int) else ((ns.map V.int).length : Int)) = g
    have hg2 : 0 ≤ g ∧ g ≤ 63 := by
      rw [← hg]
      split <;> omega
    refine ⟨3, g, rfl, ?_⟩
    generalize hg3 : (if g > 3 then g else 3) = g3
    have hg4 : 0 ≤ g3 ∧ g3 ≤ 63 := by
      rw [← hg3]
      split <;> omega
    refine ⟨g3, rfl, by omega, by omega, ?_⟩
    refine for_range (lo := 0) (n := g3.toNat) (fun i σ H' => ∃ z : Option V, σ = [some (.ref l), z] ∧ Same H H') ⟨none, rfl, Same.refl H⟩ (fun i σ H' hi hP => ?_) (fun σ H' hP => ?_)
    · obtain ⟨z, rfl, sP⟩ := hP
      rw [Int.zero_add]
      refine ⟨_, rfl, _, rfl, l, ns, i, rfl, Same.seq sP hS, by omega, fun H1 p s1 np hD => ⟨p, rfl, hD, fun H2 o2 => ⟨_, rfl, iteF ⟨_, rfl, fun b o e => ?_⟩⟩⟩⟩
      exact o2 b o (ne_of_none (sP b o e) np) (s1 b o (sP b o e))
    · exact q _
end
/-! ### the head -/
def fn : List He.DefD := [⟨("is_integer", none), "is_integer", "is_integer", defArgs s_is_integer, defBody s_is_integer, defScope s_is_integer, [], []⟩,
  ⟨("check_number", none), "check_number", "check_number", defArgs s_check_number, defBody s_check_number, defScope s_check_number, [], []⟩,
  ⟨("added", none), "added", "added", defArgs s_added, defBody s_added, defScope s_added, [], []⟩,
  ⟨("bits", none), "bits", "bits", defArgs s_bits, defBody s_bits, defScope s_bits, [], []⟩,
  ⟨("width", none), "width", "width", defArgs s_width, defBody s_width, defScope s_width, [], []⟩,
  ⟨("is_word", none), "is_word", "is_word", defArgs s_is_word, defBody s_is_word, defScope s_is_word, [], []⟩,
  ⟨("check_word", none), "check_word", "check_word", defArgs s_check_word, defBody s_check_word, defScope s_check_word, [], []⟩,
  ⟨("_law_deck", none), "_law_deck", "_law_deck", defArgs s__law_deck, defBody s__law_deck, defScope s__law_deck, [], []⟩,
  ⟨("_law_take", none), "_law_take", "_law_take", defArgs s__law_take, defBody s__law_take, defScope s__law_take, [], []⟩,
  ⟨("_law_same", none), "_law_same", "_law_same", defArgs s__law_same, defBody s__law_same, defScope s__law_same, [], []⟩,
  ⟨("_law_word", none), "_law_word", "_law_word", defArgs s__law_word, defBody s__law_word, defScope s__law_word, [], []⟩,
  ⟨("_law_sum", none), "_law_sum", "_law_sum", defArgs s__law_sum, defBody s__law_sum, defScope s__law_sum, [], []⟩,
  ⟨("_law_power", none), "_law_power", "_law_power", defArgs s__law_power, defBody s__law_power, defScope s__law_power, [], []⟩,
  ⟨("_law_places", none), "_law_places", "_law_places", defArgs s__law_places, defBody s__law_places, defScope s__law_places, [], []⟩,
  ⟨("_law_width", none), "_law_width", "_law_width", defArgs s__law_width, defBody s__law_width, defScope s__law_width, [], []⟩,
  ⟨("_law_right", none), "_law_right", "_law_right", defArgs s__law_right, defBody s__law_right, defScope s__law_right, [], []⟩,
  ⟨("law", none), "law", "law", defArgs s_law, defBody s_law, defScope s_law, [], []⟩]
def fa : List He.Fa := [.glo "is_integer", .glo "check_number", .glo "added", .glo "bits", .glo "width", .glo "is_word", .glo "check_word", .glo "_law_deck", .glo "_law_take", .glo "_law_same", .glo "_law_word", .glo "_law_sum", .glo "_law_power", .glo "_law_places", .glo "_law_width", .glo "_law_right", .glo "law", .free "bool", .free "int", .free "isinstance", .free "len", .free "list", .free "max", .free "min", .free "range", .free "str", .free "tuple"]
abbrev R : PySem.W.OpenRow := PySem.W.OpenLaw.row PySem.Challenge.rw_keytellers_k01_whole_words
abbrev hk : PySem.W.Hook := He.hookD 4 fa fn
def ob (s : PySem.W.SharedT) : He.AlD := He.obsDG 4 fa fn (HandSHeadRun.getT s)
theorem ob_eq (s : PySem.W.SharedT) : ob s = hk.obs s.abs := He.obsDG_eq (HandSHeadRun.getT_eq s)
def loose : List PySem.Str := (["TellError", "InvalidWord", "InvalidNumber", "is_integer", "check_number", "added", "bits", "width", "is_word", "check_word", "_law_deck", "_law_take", "_law_same", "_law_word", "_law_sum", "_law_power", "_law_places", "_law_width", "_law_right"] : List PySem.Str)
theorem run (w : World) : HandSHeadRun.RunEq R (PySem.W.view R.prog [23]) hk ob 2000 loose w := by
  intro os
  kernel_rfl
theorem top_of {K : PySem.W.Frag} {h : Heap} {mg : Str → Option Value} (X : K.In h) (G : h.Ns mainGlobals mg) (c : He.SaysD fa fn K) : Top K mg where
  d_is_integer := here_mk X G c 0 0 rfl rfl
  d_check_number := here_mk X G c 1 1 rfl rfl
  d_added := here_mk X G c 2 2 rfl rfl
  d_bits := here_mk X G c 3 3 rfl rfl
  d_width := here_mk X G c 4 4 rfl rfl
  d_is_word := here_mk X G c 5 5 rfl rfl
  d_check_word := here_mk X G c 6 6 rfl rfl
  d__law_deck := here_mk X G c 7 7 rfl rfl
  d__law_take := here_mk X G c 8 8 rfl rfl
  d__law_same := here_mk X G c 9 9 rfl rfl
  d__law_word := here_mk X G c 10 10 rfl rfl
  d__law_sum := here_mk X G c 11 11 rfl rfl
  d__law_power := here_mk X G c 12 12 rfl rfl
  d__law_places := here_mk X G c 13 13 rfl rfl
  d__law_width := here_mk X G c 14 14 rfl rfl
  d__law_right := here_mk X G c 15 15 rfl rfl
  d_law := here_mk X G c 16 16 rfl rfl
  z_bool := He.free_ok X G (c.fact 17 (f := .free "bool") rfl)
  z_int := He.free_ok X G (c.fact 18 (f := .free "int") rfl)
  z_isinstance := He.free_ok X G (c.fact 19 (f := .free "isinstance") rfl)
  z_len := He.free_ok X G (c.fact 20 (f := .free "len") rfl)
  z_list := He.free_ok X G (c.fact 21 (f := .free "list") rfl)
  z_max := He.free_ok X G (c.fact 22 (f := .free "max") rfl)
  z_min := He.free_ok X G (c.fact 23 (f := .free "min") rfl)
  z_range := He.free_ok X G (c.fact 24 (f := .free "range") rfl)
  z_str := He.free_ok X G (c.fact 25 (f := .free "str") rfl)
  z_tuple := He.free_ok X G (c.fact 26 (f := .free "tuple") rfl)
theorem law_ok {P : Program} {w : World} {K : PySem.W.Frag} {mg : Str → Option Value} {base : Heap} (T : Top K mg) : CalD P w K mg base 9 "law" s_law ["script"] (spLaw K) := by
  have c_is_integer := ok_is_integer (P := P) (w := w) (base := base) T 
  have c_check_number := ok_check_number (P := P) (w := w) (base := base) T c_is_integer
  have c_check_word := ok_check_word (P := P) (w := w) (base := base) T c_is_integer
  have c_added := ok_added (P := P) (w := w) (base := base) T c_check_word
  have c_bits := ok_bits (P := P) (w := w) (base := base) T c_check_word
  have c_width := ok_width (P := P) (w := w) (base := base) T c_check_word
  have c_is_word := ok_is_word (P := P) (w := w) (base := base) T c_check_number c_is_integer
  have c__law_deck := ok__law_deck (P := P) (w := w) (base := base) T 
  have c__law_take := ok__law_take (P := P) (w := w) (base := base) T 
  have c__law_same := ok__law_same (P := P) (w := w) (base := base) T 6
  have c__law_word := ok__law_word (P := P) (w := w) (base := base) T c__law_take
  have c__law_sum := ok__law_sum (P := P) (w := w) (base := base) T 
  have c__law_power := ok__law_power (P := P) (w := w) (base := base) T 
  have c__law_places := ok__law_places (P := P) (w := w) (base := base) T 
  have c__law_width := ok__law_width (P := P) (w := w) (base := base) T 
  have c__law_right := ok__law_right (P := P) (w := w) (base := base) T c__law_take c__law_word c__law_sum c__law_same c_added c_bits c__law_places c__law_width c_width c_is_word c__law_power
  exact ok_law T c__law_right c__law_deck
end K01
open PySem PySem.W PySem.Calls PyProof.Rows
theorem PySem.Challenge.cw_keytellers_k01_whole_words_holds : PySem.Challenge.rw_keytellers_k01_whole_words.Holds := by
  w_on; o_law
  refine HandSHeadRun.head_any (r := OpenLaw.row PySem.Challenge.rw_keytellers_k01_whole_words) (q := view (OpenLaw.row PySem.Challenge.rw_keytellers_k01_whole_words).prog [23]) (H := K01.hk) (ob := K01.ob) (M := 2000) (loose := K01.loose) (d := HandSHeadRun.topDef (OpenLaw.row PySem.Challenge.rw_keytellers_k01_whole_words).prog 23) (kwd := []) K01.ob_eq
    (by kernel_rfl) (fun s => by kernel_rfl) K01.run (by kernel_rfl) (by kernel_rfl) (by kernel_rfl) (by rfl) (by first | assumption | decide +kernel) (by decide +kernel) ⟨rfl, rfl, rfl, rfl, rfl, by decide +kernel⟩ ?hw ?hc
  case hw => w_witness2
  case hc =>
    refine L2.walk_ofE (l := PySem.Challenge.rw_keytellers_k01_whole_words) (n := 63) (k := 9) (x := "script") (CX := L2.CX0) rfl (by decide) (by kernel_rfl) ⟨rfl, by decide, by decide⟩ ?F (fun _ _ _ _ z => z)
    intro w mg fa h Y G hmg0
    obtain ⟨K, KX, c⟩ := Y
    have hmg : mg ("law" : PySem.Str) = some (.ref fa) := by
      have e : (HandSHeadRun.topDef (OpenLaw.row PySem.Challenge.rw_keytellers_k01_whole_words).prog 23).name = ("law" : PySem.Str) := by kernel_rfl
      rw [← e]
      exact hmg0
    exact Ky.law_fin (P := (PySem.Challenge.rw_keytellers_k01_whole_words).prog) (w := w) KX G hmg (K01.top_of KX G c).d_law (fun _ _ _ _ _ _ us hl => match us, hl with | [_], _ => rfl) (fun base => K01.law_ok (base := base) (K01.top_of KX G c))
