import PyProof.Rows.All
import Wide.All
import OpenK.AllK
import Wide.FinOn
import PyProof.EqAt
import PyProof.EqKinds
import PyProof.TupleCall
import Open.SpecLaws
import KE.OsGo
import HandS.ForSpec
import HandS.Comp
import HandS.Iter
import HandS.Walk
import HandS.ExcInit
import HandS.ExcField
import HandS.HotCalls
import PySem.Challenge.RW_patternmeans_s07_quote
set_option Elab.async false
set_option linter.all false
set_option maxRecDepth 100000
set_option maxHeartbeats 4000000
/-! Part B1: Fault(rule, place), an own exception class over Exception with an __init__ of two fields: its fields stored, made, raised. -/
namespace FX
open PySem PySem.W PySem.Calls PyProof.Rows PySem.HandSPX
open Builtin Builtin.ObjectAttr
abbrev exTail : List Value := [.type "Exception", .type "BaseException", .type "object"]
theorem fx_pass (self : Value) (C : Addr) : refuseLoop self "__setattr__" (.ref C :: exTail) = pure () := (refuseLoop_ref ..).trans (F.store_Exception.passes self)
section
variable {prog : Program} {w : World} {A : Around} {R : Result → Shared → Prop} {hp : Heap} {g : Array GenState} {d : Drawn} {t : Nat} {os : OsState} {K : Frag} {name : Str} {tk : Tok} {v : Value} {x C dx : Addr} {fv : Array Value} {cd : ClassData}
/-- the first field: the exception gets its dict -/
theorem fx_first (X : K.In hp) (hx : hp.get? x = some { cls := .ref C, data := .fields fv }) (hc : clsIn K C = some cd) (hm : cd.mro = .ref C :: exTail) (hh : cd.hasDict = true) (ha : findIn K (.ref C) name = some none)
    (hq : ∀ h' tk' dx, (∀ b o, b ≠ x → hp.get? b = some o → h'.get? b = some o) → hp.objs.size ≤ dx → dx ≠ x → h'.get? x = some { cls := .ref C, dict := some dx, data := .fields fv } → h'.Ns1 dx (fun y => if y = name then some v else none) → R (.ok (.ret .none)) ⟨h', g, d, tk', os⟩) :
    codeAny (model prog w) A (.call (.builtin "object.__setattr__") ⟨[.ref x, .str name tk, v], []⟩) R ⟨hp, g, d, t, os⟩ := by
  have J : InstAt hp x { cls := .ref C, data := .fields fv } C none := ⟨hx, rfl, rfl, trivial⟩
  have S := F.store_object
  have nx : x ≠ hp.objs.size := Nat.ne_of_lt (Heap.lt_size hx)
  have isO : Looks (model prog w) hp (isInstance (.ref x) (.type "object")) true := J.type.andThen (looks_mroIn X (by
    unfold mroIn
    rw [hc, Option.bind_some, hm]
    exact if_neg Bool.false_ne_true))
  refine codeAny_call_builtin S.slot.plain S.entry (@check_slot (model prog w) _ _ ⟨hp, g, d, t, os⟩ "object.__setattr__" "object" "__setattr__" (.ref x) [.str name tk, v] [] _ S.kind S.split isO (S.args (.ref x) (.str name tk) v) ?_)
  have lm : Looks (model prog w) hp (mroOf (.ref C)) (.ref C :: exTail) := by
    rw [← hm]
    exact (looks_clsIn X hc).andThen .now
  have lc : Looks (model prog w) hp (classData C) cd := looks_clsIn X hc
  have ln : Looks (model prog w) hp (storeTaker? none) none := .now
  rw [osa_eq, refuse_eq]
  refine wpAny_bind (wpAny_bind (J.type.at (wpAny_bind (lm.at ?_))))
  rw [fx_pass]
  refine wpAny_pure (wpAny_bind (J.type.at (wpAny_bind ((looks_findIn X ha).at (wpAny_bind (ln.at ?_))))))
  show wpAny _ _ (storeInOwnDict (.ref x) (.ref C) (.str name tk) name v false) _ _ _
  obtain ⟨nm, bs, mro, ns, qn, hd, sn, sb, ab, col, del⟩ := cd
  dsimp only at hh
  subst hh
  unfold storeInOwnDict ownDictForStores
  repeat (first | with_reducible refine store_in_new ?_ ?_ | with_reducible refine wpAny_loadPart_at hx ?_ | with_reducible refine lc.at ?_ | wp_step)
  · exact ⟨_, #[], _, (Heap.get?_update_ne _ _ _ _ nx.symm).trans (Heap.get?_push_at rfl rfl), rfl, fun e z => absurd z (by simp), fun _ => rfl⟩
  · intro h' tk' hn' hs
    have hx2 : (hp.push { cls := .type "dict", data := .dict #[] }).get? x = some { cls := .ref C, data := .fields fv } := Heap.get?_push_of_some _ hx
    refine hq h' tk' hp.objs.size (fun b o hb ho => ?_) (Nat.le_refl _) nx.symm ((hs.2 x nx).trans (Heap.get?_update_self _ hx2 rfl)) hn'
    exact (hs.2 b (Nat.ne_of_lt (Heap.lt_size ho))).trans ((Heap.get?_update_ne _ _ _ _ hb).trans (Heap.get?_push_of_some _ ho))
/-- a further one -/
theorem fx_more {m0 : Str → Option Value} {nl : List Str} (X : K.In hp) (hx : hp.get? x = some { cls := .ref C, dict := some dx, data := .fields fv }) (hns : hp.Ns1 dx m0) (hw : Within m0 nl) (hz : nl.length ≤ 1000) (hc : clsIn K C = some cd) (hm : cd.mro = .ref C :: exTail) (hh : cd.hasDict = true)
    (ha : findIn K (.ref C) name = some none)
    (hq : ∀ h' tk', (∀ b o, b ≠ dx → hp.get? b = some o → h'.get? b = some o) → h'.Ns1 dx (fun y => if y = name then some v else m0 y) → R (.ok (.ret .none)) ⟨h', g, d, tk', os⟩) :
    codeAny (model prog w) A (.call (.builtin "object.__setattr__") ⟨[.ref x, .str name tk, v], []⟩) R ⟨hp, g, d, t, os⟩ := by
  obtain ⟨oD, _, _, hoD, _, _⟩ := hns.count hw
  have J : InstAt hp x { cls := .ref C, dict := some dx, data := .fields fv } C (some oD) := ⟨hx, rfl, rfl, hoD⟩
  have S := F.store_object
  have isO : Looks (model prog w) hp (isInstance (.ref x) (.type "object")) true := J.type.andThen (looks_mroIn X (by
    unfold mroIn
    rw [hc, Option.bind_some, hm]
    exact if_neg Bool.false_ne_true))
  refine codeAny_call_builtin S.slot.plain S.entry (@check_slot (model prog w) _ _ ⟨hp, g, d, t, os⟩ "object.__setattr__" "object" "__setattr__" (.ref x) [.str name tk, v] [] _ S.kind S.split isO (S.args (.ref x) (.str name tk) v) ?_)
  have lm : Looks (model prog w) hp (mroOf (.ref C)) (.ref C :: exTail) := by
    rw [← hm]
    exact (looks_clsIn X hc).andThen .now
  have lc : Looks (model prog w) hp (classData C) cd := looks_clsIn X hc
  have ln : Looks (model prog w) hp (storeTaker? none) none := .now
  rw [osa_eq, refuse_eq]
  refine wpAny_bind (wpAny_bind (J.type.at (wpAny_bind (lm.at ?_))))
  rw [fx_pass]
  refine wpAny_pure (wpAny_bind (J.type.at (wpAny_bind ((looks_findIn X ha).at (wpAny_bind (ln.at ?_))))))
  show wpAny _ _ (storeInOwnDict (.ref x) (.ref C) (.str name tk) name v false) _ _ _
  obtain ⟨nm, bs, mro, ns, qn, hd, sn, sb, ab, col, del⟩ := cd
  dsimp only at hh
  subst hh
  unfold storeInOwnDict ownDictForStores
  repeat (first | with_reducible refine PySem.OEX.store_in_old hns hw hz ?_ | with_reducible refine wpAny_loadPart_at hx ?_ | with_reducible refine lc.at ?_ | wp_step)
  intro h' tk' hn' hs
  exact hq h' tk' (fun b o hb ho => (hs.2 b hb).trans ho) hn'
end
end FX
/-! Part B2: the class Fault as the top has written it; Fault(rule, place) made and raised; its fields read where it is handled, also within a def that is called there. -/
namespace FX
open PySem PySem.W PySem.Calls PyProof.Rows PySem.HandSPX
/-! ### the text of __init__ -/
def iA (p1 p2 p3 : Pos) : Arguments := { posonlyargs := [], args := [{ arg := "self", annotation := none, pos := p1 }, { arg := "rule", annotation := none, pos := p2 }, { arg := "place", annotation := none, pos := p3 }], vararg := none, kwonlyargs := [], kw_defaults := [], kwarg := none, defaults := [] }
def iB (q1 q2 q3 q4 r1 r2 r3 r4 : Pos) : List Stmt := [.Assign [.Attribute (.Name "self" q1) "rule" q2] (.Name "rule" q3) q4, .Assign [.Attribute (.Name "self" r1) "place" r2] (.Name "place" r3) r4]
def iS : Scope := { kind := .function, names := [(PySem.Str.ofString "self", .local), (PySem.Str.ofString "rule", .local), (PySem.Str.ofString "place", .local)], isGenerator := false, isCoroutine := false, more := [] }
/-- what the written part says of Fault, at C, and of its __init__, at fI -/
structure FaultTxt (K : Frag) (mg : Str → Option Value) (C fI : Addr) : Prop where
  gC : mg "Fault" = some (.ref C)
  cls : ∃ nm q N bs sn sub ab col dd k0 k1 k2 k3 k5, K.lookup C = some (excClassObj nm q C N bs exTail true sn sub ab col dd k0 k1 k2 k3 k5 "Exception.__new__")
  sa : findIn K (.ref C) "__setattr__" = some (some (.builtin "object.__setattr__"))
  ga : findIn K (.ref C) "__getattribute__" = some (some (.builtin "BaseException.__getattribute__"))
  gg : findIn K (.ref C) "__getattr__" = some none
  nR : findIn K (.ref C) "rule" = some none
  nP : findIn K (.ref C) "place" = some none
  iC : findIn K (.ref C) "__init__" = some (some (.ref fI))
  tC : typeIn K (.ref fI) = some (.type "function")
  kC : keepIn K (.ref C) = true
  exC : subIn K (.ref C) (.type "BaseException") = some true
  tyC : typeIn K (.ref C) = some (.type "type")
  hdC : hasDictIn K C = true
  te : exmOne K (.ref C) (.ref C) = some true
  fn : ∃ (oc : Value) (od : Option Addr) (doc pm : Value) (an : Option Addr) (cdv ct : Value) (osl : Array (Option Value)) (p1 p2 p3 q1 q2 q3 q4 r1 r2 r3 r4 : Pos),
    K.lookup fI = some ⟨oc, od, .func (fnOf "__init__" "Fault.__init__" (iA p1 p2 p3) (iB q1 q2 q3 q4 r1 r2 r3 r4) iS .none .none doc pm an cdv ct), osl⟩ ∧ codeIn K cdv "Fault.__init__" = true
theorem two_size (v u : Value) : [v, u].length ≤ sizeLine := by
  rw [sizeLine_eq]
  exact (by decide : 2 ≤ 16777216)
theorem ldC {M : Model} {s : Shared} {name : Str} {scope : Scope} {L a : Addr} {cd : Value} {m : Str → Option Value} {x : Str} {pos : Pos} {v : Value} {Q : Value → Shared → Prop} {A : Around} {E : Value → Shared → Prop} (hn : s.heap.Ns L m) (hv : m x = some v) (h : Q v s)
    (hk : scope.kind = .function := by rfl) (hl : (envOfC name scope L a cd).kindOf x = some .local := by rfl) (hd : (x == ("__debug__" : Str)) = false := by decide) :
    wpAny M A (eval (.Name x pos) (envOfC name scope L a cd)) Q E s := wpAny_Name (wpAny_loadName_local hk hl hn hv h) hd
/-- the fields behind both stores -/
abbrev fldN (v u : Value) : Str → Option Value := fun y => if y = "place" then some u else if y = "rule" then some v else none
/-- what __init__ leaves of a fresh exception at x -/
structure InitEnd (h h' : Heap) (x C dx t1 : Addr) (v u : Value) : Prop where
  keep : ∀ b o, b ≠ x → h.get? b = some o → h'.get? b = some o
  obj : h'.get? x = some { cls := .ref C, dict := some dx, data := .fields #[.ref t1, .none, .none, .none, .bool false, .none] }
  dbig : h.objs.size ≤ dx
  dne : dx ≠ x
  ns : h'.Ns1 dx (fldN v u)
/-- a made Fault -/
structure OwnMade (h h' : Heap) (e C d : Addr) (v u : Value) : Prop where
  keep : ∀ b o, h.get? b = some o → h'.get? b = some o
  new : h.objs.size ≤ e
  obj : ∃ oe vs, h'.get? e = some oe ∧ oe.cls = .ref C ∧ oe.dict = some d ∧ oe.data = .fields vs ∧ vs[1]? = some .none
  dbig : h.objs.size ≤ d
  dne : d ≠ e
  ns : h'.Ns1 d (fldN v u)
theorem kept_but {K : Frag} {h h' : Heap} {x : Addr} (X : K.In h) (hx : K.lookup x = none) (k : ∀ b o, b ≠ x → h.get? b = some o → h'.get? b = some o) : K.In h' := fun a o e =>
  k a o (fun z => by rw [z, hx] at e; cases e) (X a o e)
section
variable {prog : Program} {w : World} {A : Around} {E : Value → Shared → Prop} {R : Result → Shared → Prop} {s : Shared} {K : Frag} {mg : Str → Option Value} {C fI : Addr}
theorem fault_init (T : FaultTxt K mg C fI) {x t0 : Addr} {v u : Value} (X : K.In s.heap) (hlim : s.heap.NoLimit) (hx : s.heap.get? x = some (excO C t0)) (hnx : K.lookup x = none) (hroom : A.depth < recursionLimit)
    (hq : ∀ h' tk dx, InitEnd s.heap h' x C dx t0 v u → R (.ok (.ret .none)) { s with heap := h', toks := tk }) :
    codeAny (model prog w) A (.call (.ref fI) ⟨[.ref x, v, u], []⟩) R s := by
  obtain ⟨oc, od, doc, pm, an, cdv, ct, osl, p1, p2, p3, q1, q2, q3, q4, r1, r2, r3, r4, ho, hcd⟩ := T.fn
  obtain ⟨nm, q, N, bs, sn, sub, ab, col, dd, k0, k1, k2, k3, k5, hC⟩ := T.cls
  have hcl : clsIn K C = some { name := nm, bases := bs, mro := .ref C :: exTail, ns := N, qualname := q, hasDict := true, slotNames := sn, subclasses := sub, abstract := ab, collection := col, hasDel := false } := by unfold clsIn; rw [hC] <;> rfl
  refine Att.call_fn (binds := [("self", .ref x), ("rule", v), ("place", u)]) X hlim ho hcd hroom (BindsTo.of_eq (by first | rfl | with_unfolding_all rfl)) (by first | rfl | decide | with_unfolding_all rfl) (fun s₁ IC => ?_) rfl rfl rfl
  obtain ⟨h₁, tk₁, rfl⟩ := IC.toInCall.same
  have k : ∀ b o, s.heap.get? b = some o → h₁.get? b = some o := IC.toInCall.keep
  have hn := IC.toInCall.ns
  have X₁ : K.In h₁ := X.keeps k
  have hx₁ := k _ _ hx
  -- the frame's own dict is another object than the exception
  obtain ⟨oN, esN, epN, hoN, hdN, hrN⟩ := id hn
  -- self.rule = rule
  show wpAny _ _ (execs _ _) _ _ _
  refine wpAny_execs_cons (plainObj_wpAny_Assign_Attribute ?_)
  refine ldC (v := v) hn (by first | rfl | with_unfolding_all rfl | kernel_rfl) (ldC (v := .ref x) hn (by first | rfl | with_unfolding_all rfl | kernel_rfl) ?_)
  refine set_plain X₁ (ox := excO C t0) (od := none) ⟨hx₁, rfl, rfl, trivial⟩ T.sa ?_
  refine fx_first X₁ hx₁ hcl rfl rfl T.nR (fun h₃ tk₃ dx k₃ dn dne hx₃ hn₃ => ?_)
  have z : s.heap.objs.size < h₁.objs.size := hn.lt
  have X₃ : K.In h₃ := kept_but X₁ hnx k₃
  have hn2 := hn.at fun o e => k₃ _ _ (Nat.ne_of_gt (Heap.lt_size hx)) e
  obtain ⟨oD, _, _, hoD, _, _⟩ := hn₃.count (Within.cons "rule" v Within.nil)
  -- self.place = place
  show wpAny _ _ (execs _ _) _ _ _
  refine wpAny_execs_cons (plainObj_wpAny_Assign_Attribute ?_)
  refine ldC (v := u) hn2 (by first | rfl | with_unfolding_all rfl | kernel_rfl) (ldC (v := .ref x) hn2 (by first | rfl | with_unfolding_all rfl | kernel_rfl) ?_)
  refine set_plain X₃ (ox := { cls := .ref C, dict := some dx, data := .fields #[.ref t0, .none, .none, .none, .bool false, .none] }) (od := some oD) ⟨hx₃, rfl, rfl, hoD⟩ T.sa ?_
  refine fx_more X₃ hx₃ hn₃ (Within.cons "rule" v Within.nil) (by decide) hcl rfl rfl T.nP (fun h₄ tk₄ k₄ hn₄ => ?_)
  show wpAny _ _ (execs _ _) _ _ _
  refine wpAny_execs_nil (hq h₄ tk₄ dx ⟨fun b o hb e => ?_, k₄ x _ (Ne.symm dne) hx₃, Nat.le_of_lt (Nat.lt_of_lt_of_le z dn), dne, hn₄⟩)
  have hbd : b ≠ dx := Nat.ne_of_lt (Nat.lt_of_lt_of_le (Nat.lt_trans (Heap.lt_size e) z) dn)
  exact k₄ b o hbd (k₃ b o hb (k b o e))
theorem fault_made (T : FaultTxt K mg C fI) {v u : Value} (X : K.In s.heap) (hlim : s.heap.NoLimit) (hroom : A.depth + 1 < recursionLimit)
    (hq : ∀ h' tk e d, OwnMade s.heap h' e C d v u → R (.ok (.ret (.ref e))) { s with heap := h', toks := tk }) :
    codeAny (model prog w) A (.call (.ref C) ⟨[v, u], []⟩) R s := by
  obtain ⟨nm, q, N, bs, sn, sub, ab, col, dd, k0, k1, k2, k3, k5, hC⟩ := T.cls
  obtain ⟨hp, g, dr, tk, os⟩ := s
  have k : ∀ b o, hp.get? b = some o → ((hp.push (kdv_tup [v, u])).push (excO C hp.objs.size)).get? b = some o := fun b o e => Heap.get?_push_of_some _ (Heap.get?_push_of_some _ e)
  have hget : ((hp.push (kdv_tup [v, u])).push (excO C hp.objs.size)).get? (hp.objs.size + 1) = some (excO C hp.objs.size) := by heap_get
  have hnx : K.lookup (hp.objs.size + 1) = none := by
    cases e : K.lookup (hp.objs.size + 1) with
    | none => rfl
    | some o =>
      have z : hp.get? (hp.objs.size + 1) = some o := X _ _ e
      exact absurd (Nat.lt_of_succ_lt (Heap.lt_size z)) (Nat.lt_irrefl _)
  refine call_own F.excBase_Exception (fun X => rfl) (X _ _ hC) (looks_findIn X T.iC) (fun self => bind_fn X self T.tC) (two_size v u) ?_
  refine fault_init (s := ⟨(hp.push (kdv_tup [v, u])).push (excO C hp.objs.size), g, dr, tk, os⟩) T (X.keeps k) (hlim.keeps k) hget hnx ?_ fun h' tk' dx ⟨k', hx, dn, dne, hns⟩ => ?_
  · show A.depth + 1 < recursionLimit
    exact hroom
  · have old : ∀ b o, hp.get? b = some o → h'.get? b = some o := fun b o e => k' b o (Nat.ne_of_lt (Nat.lt_succ_of_lt (Heap.lt_size e))) (k b o e)
    have z : hp.objs.size + 1 + 1 ≤ dx := by
      first
        | (simpa only [Heap.size_push] using dn)
        | exact dn
        | (have q := dn; rw [Heap.size_push, Heap.size_push] at q; exact q)
    exact ⟨rfl, hq h' tk' (hp.objs.size + 1) dx ⟨old, Nat.le_succ _, ⟨_, _, hx, rfl, rfl, rfl, rfl⟩, Nat.le_trans (Nat.le_trans (Nat.le_succ _) (Nat.le_succ _)) z, dne, hns⟩⟩
end
end FX
namespace L2
open PySem PySem.Spec PyProof.Rows
abbrev flt (v u : V) : List (Str × V) := [(("rule" : Str), v), (("place" : Str), u)]
theorem lk_rule {v u : V} : List.lookup ("rule" : Str) (flt v u) = some v := by simp [List.lookup]
theorem lk_place {v u : V} : List.lookup ("place" : Str) (flt v u) = some u := by
  have e : (("place" : Str) == "rule") = false := by decide +kernel
  simp [List.lookup, e]
theorem relO_flt {v u : V} {v' u' : Value} (r : RelV v v') (r2 : RelV u u') (f : Str) : RelO (List.lookup f (flt v u)) (FX.fldN v' u' f) := by
  show RelO _ (if f = "place" then some u' else if f = "rule" then some v' else none)
  by_cases h2 : f = "place"
  · subst h2
    rw [if_pos rfl, lk_place]
    exact r2
  · rw [if_neg h2]
    by_cases h1 : f = "rule"
    · subst h1
      rw [if_pos rfl, lk_rule]
      exact r
    · rw [if_neg h1]
      have q1 : (f == ("rule" : Str)) = false := by simpa using h1
      have q2 : (f == ("place" : Str)) = false := by simpa using h2
      have q : List.lookup f (flt v u) = none := by simp [List.lookup, q1, q2]
      rw [q]
      trivial
section
variable {X : Cx} {C fI : Addr}
/-- Fault(e1, e2) -/
def tMkFlt (C : Addr) (ta : TA) : St → Hp → XK → Prop := fun σ H Q => ta σ H fun vs H1 => ∃ v u, vs = [v, u] ∧ ∀ d, H1 d = none → Q (.ref C) (some d) (upd H1 d (.xd (flt v u)))
theorem pmk_flt {a b : Expr} {ta : TA} {p pos : Pos} {k : Nat} (T : FX.FaultTxt X.K X.mg C fI) (hr : Room k X.A) (ha : PA X [a, b] ta) (hg : Gl X "Fault" := by rfl)
    (he : starEach (a :: [b]) X.env = (false, eval a X.env) :: starEach [b] X.env := by rfl) (hpl : (backTo pos (starEach [b] X.env)).any (·.1) = false := by rfl) :
    PMk X (.Call (.Name "Fault" p) [a, b] [] pos) (tMkFlt C ta) := by
  intro pins s σ H Q I h
  refine wpAny_Call_Name_kw (ld_glob I hg T.gC ?_)
  refine PySem.W.callWith_K (h₀ := X.base) I.ok.mod.kin T.kC (thn (ha.run pos pins s σ H _ I h) fun us s1 hh => ?_) he hpl
  obtain ⟨vs, H1, I1, r1, v, u, ev, q1⟩ := hh
  subst ev
  refine ⟨I1.kIn, ?_⟩
  cases r1 with
  | cons rv rn =>
    rename_i v' us'
    cases rn with
    | cons ru rm =>
      rename_i u' us2
      cases rm
      show wpAny _ _ (call (.ref C) [v', u']) _ _ _
      have hlim := I1.nolimit
      obtain ⟨hp, g, dr, tk, os⟩ := s1
      refine wpAny_call (FX.fault_made T I1.kIn hlim (by have := hr.dp; omega) fun h' tk' e d M => ?_)
      show MkP X pins σ Q (.ref e) ⟨h', g, dr, tk', os⟩
      obtain ⟨oe, fv, hoe, hc, hd, hdat, h1⟩ := M.obj
      have hns := M.ns
      obtain ⟨G', g1, g2⟩ := restrict h' fun b => decide (b ≠ e)
      have gk : ∀ b, b ≠ e → G'.get? b = h'.get? b := fun b hb => g1 b (decide_eq_true hb)
      have ge : G'.get? e = none := g2 e (by simp)
      have old : ∀ b o, hp.get? b = some o → G'.get? b = some o := fun b o q => (gk b (Nat.ne_of_lt (Nat.lt_of_lt_of_le (Heap.lt_size q) M.new))).trans (M.keep b o q)
      have ob : ObjOk X.prog X.w (upd H1 d (.xd (flt v u))) G' d (.xd (flt v u)) :=
        ⟨_, hns.at (fun o q => (gk d M.dne).trans q), fun f => relO_flt rv ru f⟩
      have J : Inv X pins σ (upd H1 d (.xd (flt v u))) ⟨G', g, dr, tk', os⟩ := I1.laid (t' := tk') old M.dbig ob
      refine ⟨e, oe, fv, ⟨G', g, dr, tk', os⟩, _, .ref C, some d, rfl, J, fun b o q => ?_, ge, hoe, ⟨hc, hd⟩, hdat, h1, ?_, rfl, I1.bare, raises_own T.exC T.tyC, q1 d (I1.hok.fresh M.dbig)⟩
      · by_cases hb : b = e
        · have q' : G'.get? b = some o := q
          rw [hb, ge] at q'; cases q'
        · exact (gk b hb).symm.trans q
      · rw [upd_ne (Ne.symm M.dne)]
        exact I1.hok.fresh M.new
/-- raise Fault(e1, e2) -/
def tRaiseFlt (C : Addr) (W : WX) (ta : TA) : TS := fun _ σ H => tMkFlt C ta σ H fun cls d H' => W cls d σ H'
theorem ps_raiseFlt {a b : Expr} {ta : TA} {W : WX} {p pos pos2 : Pos} {k : Nat} (hc : X.calm = true) (T : FX.FaultTxt X.K X.mg C fI) (hr : Room k X.A) (tk : Takes X W) (ha : PA X [a, b] ta) (hg : Gl X "Fault" := by rfl)
    (he : starEach (a :: [b]) X.env = (false, eval a X.env) :: starEach [b] X.env := by rfl) (hpl : (backTo pos (starEach [b] X.env)).any (·.1) = false := by rfl) :
    PS X (.Raise (some (.Call (.Name "Fault" p) [a, b] [] pos)) none pos2) (tRaiseFlt C W ta) := ps_raise hc tk (pmk_flt T hr ha hg he hpl)
end
end L2
/-! Part B3: a def called in the suite that handles a Fault, the Fault its argument: its fields are read there. -/
namespace FX
open PySem PySem.Spec PyProof.Rows L2 L2H
section
variable {X : Cx}
/-- e.n, e the exception that is handled (pinned: at a, its class cls, its dict d) -/
theorem pe_xfP {a C : Addr} {oe : Obj} {cls : Value} {d : Option Addr} {e : Expr} {te : TE} {pos : Pos} {n : Str} (T : XfC X.K C) (hno : PySem.W.findIn X.K (.ref C) n = some none) (hp : (a, oe) ∈ X.pn) (hz : Zc cls d oe) (hf : ∃ vs, oe.data = .fields vs) (he : PE X e te)
    (hb : attributeBase e n X.env (eval e X.env) = eval e X.env := by rfl) : PE X (.Attribute e n pos) (tXf a cls d C n te) := by
  refine ⟨fun pins s σ H Q I h => attr_of hb (thn (he.run pins s σ H _ I h) fun u s1 hh => ?_)⟩
  obtain ⟨x, H1, I1, rx, rfl, rfl, dd, fs, v, rfl, ea, l, q⟩ := hh
  obtain rfl : u = Value.ref a := rx
  have ha := (I1.pin (a, oe) (List.mem_append_left _ hp)).1
  obtain ⟨vs, hd⟩ := hf
  have hx : ObjOk X.prog X.w H1 s1.heap dd (.xd fs) := I1.hok dd _ ea
  obtain ⟨mA, hns, hr⟩ := hx
  obtain ⟨od, ho, hl⟩ := lookIn_ns hns
  obtain ⟨u, hu, ru⟩ := RelO.some_of (v := v) (o := mA n) (l ▸ hr n)
  have J : PySem.W.InstAt s1.heap a oe C (some od) := ⟨ha, hz.1, by unfold PySem.W.notCls; rw [hd] <;> rfl, by rw [hz.2]; exact ho⟩
  exact HandSPX.exc_get I1.kIn J T.ga T.gg T.exC (PySem.W.findObj_own T.hdC hno rfl (by rw [hl, hu])) (handed_of ru) ⟨v, H1, I1.tok _, ru, q⟩
variable {x qual : Str} {st : Stmt} {f : Addr} {fd : FuncData} {N ps : List Str} {k : Nat} {p : Addr × Obj}
/-- a call there, of a def that lets nothing out; p: a pinned object, which stays pinned in its body -/
theorem run_fnP {pins : List (Addr × Obj)} {σ : L2.St} {H : Hp} {s : Shared} {Q : VK} {us : List Value} {vs : List V} (hp : p ∈ X.pn) (D : Fun X.K x qual st f fd) (S : FnScope N ps (defScope st)) (hr : RoomH (k + 1) X.A) (hb : Binds X.K fd ps []) (I : Inv X pins σ H s) (r : Vals vs us) (hl : vs.length = ps.length)
    (body : ∀ (cdv : Value) (A : Around) (outer : List Env) (s : Shared), RoomH k (A.deeper (envOfC qual (defScope st) s.heap.objs.size f cdv)) →
      ∃ t, PSs (cxH CX0 X.prog X.w X.K X.mg X.base N qual (defScope st) f cdv A outer s H E0 p) (defBody st) t ∧ t { nx := fun _ H' => Q .non H', rt := Q } (L2.start N vs) H) :
    wpAny (model X.prog X.w) X.A (call (.ref f) us) (EP X pins σ Q) X.xe s := by
  have hlu : us.length = ps.length := by rw [← r.length]; exact hl
  have b := hb s us I.kIn (by rw [List.append_nil]; exact hlu)
  rw [List.append_nil] at b
  have P1 := I.pin p (List.mem_append_left _ hp)
  have hpin : PinOk X.stack H s p := ⟨P1.1, P1.2.1, fun hm => (List.mem_cons.mp (I.stkSub p.1 hm)).elim P1.2.2.1 P1.2.2.2.1, P1.2.2.2.2⟩
  have e0 := I.env0
  obtain ⟨oc, od, kV, doc, pm, an, cdv, ct, osl, rfl, lk, hcd⟩ := D.ex
  have lim : s.heap.NoLimit := e0.mod.nolimit.keeps fun b o e => (e0.bs b o e).1
  have kinds : ∀ y ∈ ps.zip us, (defScope st).names.lookup y.1 = some .local ∨ ((defScope st).names.lookup y.1 = some .cell ∧ ((cellsFrom (s.heap.objs.size + 1) (defScope st).names []).lookup y.1).isSome = true) := fun ⟨n, v⟩ hy =>
    (S.par n (List.of_mem_zip hy).1).elim .inl fun q => .inr ⟨q, PySem.W.cellsFrom_some _ _ _ (.inl q)⟩
  have go : codeAny (model X.prog X.w) X.A (.call (.ref f) ⟨us, []⟩) (CR CX0 X.stack X.prog X.w H s Q E0) s := by
    refine codeAny_call_function hr.depth (I.kIn _ _ lk) rfl S.co S.gen rfl (PySem.W.codeRec_of I.kIn hcd) (b _ _ _ _ ?_)
    refine wpAny_newFunctionEnv_cells S.kind kinds fun env he s1 y => ?_
    subst he
    refine ⟨lim.keeps y.toInCall.keep, codeAny_func ?_⟩
    obtain ⟨t, ht, hq⟩ := body cdv X.A X.stack s (hr.deeper _)
    have J : Inv (cxH CX0 X.prog X.w X.K X.mg X.base N qual (defScope st) f cdv X.A X.stack s H E0 p) [] (L2.start N vs) H s1 := inv_startH S hpin e0 hl r y
    refine wpAny_mono (ht.run [] s1 (L2.start N vs) H _ J hq) (fun fl s' hs => ?_) fun e s' hs => hs
    cases fl with
    | ret u =>
      obtain ⟨v, σ', H', J', rv, q⟩ := hs
      exact ⟨v, H', J'.os, J'.bare, J'.base, J'.hok, rv, q⟩
    | next =>
      obtain ⟨σ', H', J', q⟩ := hs
      exact ⟨V.non, H', J'.os, J'.bare, J'.base, J'.hok, rfl, q⟩
    | brk => exact hs.elim fun _ z => z.elim fun _ z => z.2.elim
    | cont => exact hs.elim fun _ z => z.elim fun _ z => z.2.elim
  refine wpAny_call (codeAny_mono go fun r s' hq => ?_)
  cases r with
  | error e => exact False.elim hq
  | ok fl =>
    cases fl with
    | ret u => exact I.after hq
    | next => exact False.elim hq
    | brk => exact False.elim hq
    | cont => exact False.elim hq
end
end FX
/-! Part A1: the reader's mirror, its small readers, and that they are the specification's. -/
namespace PF
open WrPatt
abbrev Flt := Nat × Nat
/-- the byte at a place, 256 behind the end -/
def now (p : List Nat) (i : Nat) : Nat := p.getD i 256
def Ok8 (p : List Nat) : Prop := ∀ x ∈ p, x < 256
def tx (p : List Nat) : Bytes := p.map UInt8.ofNat
def at_ (p : List Nat) (i : Nat) : In := ⟨i, (tx p).drop i⟩

def specials : List Nat := [92, 124, 38, 126, 42, 43, 63, 123, 125, 46, 94, 36, 40, 41, 91, 93, 45, 58]
def notPlain : List Nat := [92, 124, 38, 126, 42, 43, 63, 123, 125, 46, 94, 36, 40, 41, 91, 93]
def notPlainSet : List Nat := [93, 45, 94]
def notAtoms : List Nat := [126, 124, 38, 41]
def printed (c : Nat) : Bool := decide (32 ≤ c) && decide (c ≤ 126)
def digit (c : Nat) : Bool := decide (48 ≤ c) && decide (c ≤ 57)
def hexv (c : Nat) : Option Nat := if 48 ≤ c ∧ c ≤ 57 then some (c - 48) else if 65 ≤ c ∧ c ≤ 70 then some (10 + c - 65) else if 97 ≤ c ∧ c ≤ 102 then some (10 + c - 97) else none
def readHex (p : List Nat) (i : Nat) : Except Flt (Nat × Nat) := match hexv (now p i) with
  | some v => .ok (v, i + 1)
  | none => .error (1, i)
def readHex2 (p : List Nat) (i : Nat) : Except Flt (Nat × Nat) := match readHex p i with
  | .error e => .error e
  | .ok (u, j) => match readHex p j with
    | .error e => .error e
    | .ok (l, k) => .ok (16 * u + l, k)
def readEscaped (p : List Nat) (i : Nat) : Except Flt (Nat × Nat) := if now p i = 110 then .ok (10, i + 1) else if now p i = 116 then .ok (9, i + 1) else if now p i = 120 then readHex2 p (i + 1)
  else if specials.contains (now p i) = true then .ok (now p i, i + 1) else .error (1, i)
def readPlain (barred p : List Nat) (i : Nat) : Except Flt (Nat × Nat) := if printed (now p i) = true ∧ barred.contains (now p i) = false then .ok (now p i, i + 1) else .error (1, i)
def readSetByte (p : List Nat) (i : Nat) : Except Flt (Nat × Nat) := if now p i = 92 then readEscaped p (i + 1) else readPlain notPlainSet p i
def readItem (p : List Nat) (i : Nat) : Except Flt ((Nat × Nat) × Nat) := match readSetByte p i with
  | .error e => .error e
  | .ok (a, j) => if now p j = 45 then (match readSetByte p (j + 1) with
      | .error e => .error e
      | .ok (b, k) => if b < a then .error (3, j + 1) else .ok ((a, b), k)) else .ok ((a, a), j)
/-- items up to the ], which is taken, too -/
def readItems (p : List Nat) : Nat → Nat → Except Flt (List (Nat × Nat) × Nat)
  | 0, i => .error (1, i)
  | f + 1, i => if now p i = 93 then .ok ([], i + 1) else match readItem p i with
    | .error e => .error e
    | .ok (x, j) => match readItems p f j with
      | .error e => .error e
      | .ok (l, k) => .ok (x :: l, k)
/-- behind the [ -/
def readSet (p : List Nat) (i : Nat) : Except Flt ((Bool × List (Nat × Nat)) × Nat) := match readItem p (if now p i = 94 then i + 1 else i) with
  | .error e => .error e
  | .ok (x, j) => match readItems p (p.length + 1) j with
    | .error e => .error e
    | .ok (l, k) => .ok ((decide (now p i = 94), x :: l), k)
def readDigits (p : List Nat) (first : Nat) : Nat → Nat → Nat → Except Flt (Nat × Nat)
  | 0, n, i => .ok (n, i)
  | f + 1, n, i => if digit (now p i) = true then (if n = 0 ∧ first < i then .error (1, i) else readDigits p first f (n * 10 + now p i - 48) (i + 1)) else .ok (n, i)
def readNumber (p : List Nat) (least i : Nat) : Except Flt (Nat × Nat) := match readDigits p i (p.length + 1) 0 i with
  | .error e => .error e
  | .ok (n, j) => if j = i then .error (1, i) else if 100 < n ∨ n < least then .error (2, i) else .ok (n, j)
def need (p : List Nat) (c i : Nat) : Except Flt Nat := if now p i = c then .ok (i + 1) else .error (1, i)
/-- behind the { -/
def readNumbers (p : List Nat) (i : Nat) : Except Flt ((Nat × Option Nat) × Nat) := match readNumber p 0 i with
  | .error e => .error e
  | .ok (n, j) => if now p j = 44 then (if now p (j + 1) = 125 then .ok ((n, none), j + 2) else match readNumber p n (j + 1) with
      | .error e => .error e
      | .ok (m, k) => match need p 125 k with
        | .error e => .error e
        | .ok l => .ok ((n, some m), l))
    else match need p 125 j with
      | .error e => .error e
      | .ok l => .ok ((n, some n), l)
def readCount (p : List Nat) (i : Nat) : Except Flt (Option (Nat × Option Nat) × Nat) := if now p i = 42 then .ok (some (0, none), i + 1) else if now p i = 43 then .ok (some (1, none), i + 1) else if now p i = 63 then .ok (some (0, some 1), i + 1)
  else if now p i = 123 then (match readNumbers p (i + 1) with
    | .error e => .error e
    | .ok (c, j) => .ok (some c, j)) else .ok (none, i)

/-! ### what stands at a place -/
theorem now_lt {p : List Nat} {i : Nat} (h : i < p.length) : now p i = p[i] := by
  unfold now; simp [List.getD, List.getElem?_eq_getElem h]
theorem now_ge {p : List Nat} {i : Nat} (h : p.length ≤ i) : now p i = 256 := by
  unfold now; simp [List.getD, List.getElem?_eq_none h]
theorem now_byte {p : List Nat} (hp : Ok8 p) {i : Nat} (h : i < p.length) : now p i < 256 := by
  rw [now_lt h]; exact hp _ (List.getElem_mem h)
theorem lt_of_now {p : List Nat} {i : Nat} (h : now p i ≠ 256) : i < p.length := by
  rcases Nat.lt_or_ge i p.length with q | q
  · exact q
  · exact absurd (now_ge q) h
theorem tx_length (p : List Nat) : (tx p).length = p.length := by unfold tx; simp
theorem at_next (p : List Nat) (i : Nat) : (at_ p i).next = at_ p (i + 1) := by
  unfold at_ In.next; simp [List.drop_drop]
theorem at_nil {p : List Nat} {i : Nat} (h : p.length ≤ i) : (at_ p i).b = [] := by
  unfold at_; exact List.drop_eq_nil_of_le (by rw [tx_length]; exact h)
theorem at_cons {p : List Nat} {i : Nat} (h : i < p.length) : (at_ p i).b = UInt8.ofNat (now p i) :: (at_ p (i + 1)).b := by
  have h' : i < (tx p).length := by rw [tx_length]; exact h
  show (tx p).drop i = _ :: (tx p).drop (i + 1)
  rw [List.drop_eq_getElem_cons h', now_lt h]
  simp [tx]
theorem at_p (p : List Nat) (i : Nat) : (at_ p i).p = i := rfl
theorem at_b_nil {p : List Nat} {i : Nat} : (at_ p i).b = [] ↔ p.length ≤ i := by
  constructor
  · intro h
    rcases Nat.lt_or_ge i p.length with q | q
    · rw [at_cons q] at h; cases h
    · exact q
  · exact at_nil
theorem at_b_len (p : List Nat) (i : Nat) : (at_ p i).b.length = p.length - i := by
  show ((tx p).drop i).length = _
  rw [List.length_drop, tx_length]
theorem ofNat_eq {n m : Nat} (h : n < 256) (h' : m < 256) : (UInt8.ofNat n = UInt8.ofNat m) ↔ n = m := by
  constructor
  · intro e
    have := congrArg UInt8.toNat e
    simp only [UInt8.toNat_ofNat'] at this
    omega
  · intro e; rw [e]
theorem is_iff {p : List Nat} (hp : Ok8 p) {i : Nat} {c : Char} (hc : c.toNat < 256) : (at_ p i).is c = true ↔ now p i = c.toNat := by
  unfold In.is
  rcases Nat.lt_or_ge i p.length with q | q
  · rw [at_cons q]
    simp only [List.head?_cons, beq_iff_eq, Option.some.injEq]
    exact ofNat_eq (now_byte hp q) hc
  · rw [at_nil q, now_ge q]
    simp
    omega
theorem is_dec {p : List Nat} (hp : Ok8 p) (i : Nat) (c : Char) (hc : c.toNat < 256) : (at_ p i).is c = decide (now p i = c.toNat) := by
  have := is_iff hp (i := i) hc
  by_cases h : now p i = c.toNat
  · rw [this.mpr h]; simp [h]
  · have : (at_ p i).is c = false := by
      cases e : (at_ p i).is c
      · rfl
      · exact absurd (this.mp e) h
    rw [this]; simp [h]

/-! ### bytes' kinds, by all bytes -/
theorem k_special : ∀ n < 256, SPECIAL.contains (UInt8.ofNat n) = specials.contains n := by decide +kernel
theorem k_forms : ∀ n < 256, FORMS.contains (UInt8.ofNat n) = notPlain.contains n := by decide +kernel
theorem k_seen : ∀ n < 256, isSeen (UInt8.ofNat n) = printed n := by decide +kernel
theorem k_digit : ∀ n < 256, isDigit (UInt8.ofNat n) = digit n := by decide +kernel
theorem k_hex : ∀ n < 256, hex (UInt8.ofNat n) = hexv n := by decide +kernel
theorem k_nat : ∀ n < 256, (UInt8.ofNat n).toNat = n := by decide +kernel
theorem k_eq (m : Nat) (hm : m < 256) : ∀ n < 256, (UInt8.ofNat n = UInt8.ofNat m) ↔ n = m := fun n h => ofNat_eq h hm

/-- In terms of places: what a reader of the specification gives, as (value, place) -/
def lift {α : Type} (p : List Nat) (r : Except Flt (α × Nat)) : Except Flt (α × In) := match r with
  | .error e => .error e
  | .ok (a, i) => .ok (a, at_ p i)
theorem bad_at (p : List Nat) (i : Nat) {α : Type} : (bad (at_ p i) : Except Fault α) = .error (1, i) := rfl
theorem hexv_end : hexv 256 = none := by decide
theorem escaped_is {p : List Nat} (hp : Ok8 p) (i : Nat) : escaped (at_ p i) = lift p (readEscaped p i) := by
  unfold escaped readEscaped
  rcases Nat.lt_or_ge i p.length with q | q
  · have hb := now_byte hp q
    rw [at_cons q]
    simp only [k_special _ hb, at_next]
    have e110 : (UInt8.ofNat (now p i) = 110) ↔ now p i = 110 := k_eq 110 (by decide) _ hb
    have e116 : (UInt8.ofNat (now p i) = 116) ↔ now p i = 116 := k_eq 116 (by decide) _ hb
    have e120 : (UInt8.ofNat (now p i) = 120) ↔ now p i = 120 := k_eq 120 (by decide) _ hb
    simp only [e110, e116, e120, k_nat _ hb]
    by_cases c1 : now p i = 110
    · rw [c1]; simp [specials, lift]
    by_cases c2 : now p i = 116
    · rw [c2]; simp [specials, lift]
    by_cases c3 : now p i = 120
    · rw [c3]
      rw [if_neg (by decide), if_neg (by decide), if_neg (by decide), if_pos rfl, if_neg (by decide), if_neg (by decide), if_pos rfl]
      unfold readHex2 readHex
      rcases Nat.lt_or_ge (i + 1) p.length with q1 | q1
      · have hb1 := now_byte hp q1
        rw [at_cons q1]
        simp only [k_hex _ hb1, at_next]
        cases hexv (now p (i + 1)) with
        | none => rfl
        | some u =>
          rcases Nat.lt_or_ge (i + 1 + 1) p.length with q2 | q2
          · have hb2 := now_byte hp q2
            dsimp only
            rw [at_cons q2]
            simp only [k_hex _ hb2, at_next]
            cases hexv (now p (i + 1 + 1)) with
            | none => rfl
            | some l => rfl
          · dsimp only
            rw [at_nil q2, now_ge q2, hexv_end]
            rfl
      · rw [at_nil q1, now_ge q1, hexv_end]
        rfl
    rw [if_neg c1, if_neg c2, if_neg c3, if_neg c1, if_neg c2, if_neg c3]
    by_cases c4 : specials.contains (now p i) = true
    · rw [if_pos c4, if_pos c4]; rfl
    · rw [if_neg c4, if_neg c4]; rfl
  · rw [at_nil q, now_ge q]
    rfl
theorem setByte_is {p : List Nat} (hp : Ok8 p) (i : Nat) : setByte (at_ p i) = lift p (readSetByte p i) := by
  unfold setByte readSetByte
  rcases Nat.lt_or_ge i p.length with q | q
  · have hb := now_byte hp q
    rw [at_cons q]
    have e92 : (UInt8.ofNat (now p i) = 92) ↔ now p i = 92 := k_eq 92 (by decide) _ hb
    have e93 : (UInt8.ofNat (now p i) = 93) ↔ now p i = 93 := k_eq 93 (by decide) _ hb
    have e45 : (UInt8.ofNat (now p i) = 45) ↔ now p i = 45 := k_eq 45 (by decide) _ hb
    have e94 : (UInt8.ofNat (now p i) = 94) ↔ now p i = 94 := k_eq 94 (by decide) _ hb
    simp only [at_next, ne_eq, e92, e93, e45, e94, k_seen _ hb, k_nat _ hb]
    by_cases c1 : now p i = 92
    · rw [if_pos c1, if_pos c1, escaped_is hp]
    · rw [if_neg c1, if_neg c1]
      unfold readPlain
      have t : (notPlainSet.contains (now p i) = false) ↔ (¬ now p i = 93 ∧ ¬ now p i = 45 ∧ ¬ now p i = 94) := by
        simp [notPlainSet]
      simp only [t]
      by_cases c2 : printed (now p i) = true ∧ ¬now p i = 93 ∧ ¬now p i = 45 ∧ ¬now p i = 94
      · rw [if_pos c2, if_pos c2]; rfl
      · rw [if_neg c2, if_neg c2]; rfl
  · rw [at_nil q, now_ge q, if_neg (by decide)]
    unfold readPlain
    rw [now_ge q]
    rfl
/-- a reader that gives something has gone past something -/
theorem readHex_lt {p : List Nat} {i v j : Nat} (h : readHex p i = .ok (v, j)) : j = i + 1 ∧ i < p.length := by
  unfold readHex at h
  cases e : hexv (now p i) with
  | none => rw [e] at h; cases h
  | some u =>
    rw [e] at h
    cases h
    refine ⟨rfl, lt_of_now fun z => ?_⟩
    rw [z, hexv_end] at e; cases e
theorem readHex2_lt {p : List Nat} {i v j : Nat} (h : readHex2 p i = .ok (v, j)) : i < j ∧ j ≤ p.length := by
  unfold readHex2 at h
  cases e : readHex p i with
  | error _ => rw [e] at h; cases h
  | ok x =>
    obtain ⟨u, k⟩ := x
    rw [e] at h
    dsimp only at h
    cases e2 : readHex p k with
    | error _ => rw [e2] at h; cases h
    | ok y =>
      obtain ⟨l, m⟩ := y
      rw [e2] at h
      cases h
      have := readHex_lt e
      have := readHex_lt e2
      omega
theorem readEscaped_lt {p : List Nat} {i v j : Nat} (h : readEscaped p i = .ok (v, j)) : i < j ∧ j ≤ p.length := by
  unfold readEscaped at h
  have key : now p i ≠ 256 → i < i + 1 ∧ i + 1 ≤ p.length := fun z => ⟨Nat.lt_succ_self _, lt_of_now z⟩
  by_cases c1 : now p i = 110
  · rw [if_pos c1] at h; cases h; exact key (by omega)
  rw [if_neg c1] at h
  by_cases c2 : now p i = 116
  · rw [if_pos c2] at h; cases h; exact key (by omega)
  rw [if_neg c2] at h
  by_cases c3 : now p i = 120
  · rw [if_pos c3] at h
    have := readHex2_lt h
    omega
  rw [if_neg c3] at h
  by_cases c4 : specials.contains (now p i) = true
  · rw [if_pos c4] at h; cases h
    exact key fun z => by rw [z] at c4; exact absurd c4 (by decide)
  · rw [if_neg c4] at h; cases h
theorem readPlain_lt {b p : List Nat} {i v j : Nat} (h : readPlain b p i = .ok (v, j)) : i < j ∧ j ≤ p.length := by
  unfold readPlain at h
  by_cases c : printed (now p i) = true ∧ b.contains (now p i) = false
  · rw [if_pos c] at h; cases h
    refine ⟨Nat.lt_succ_self _, lt_of_now fun z => ?_⟩
    have := c.1
    rw [z] at this; exact absurd this (by decide)
  · rw [if_neg c] at h; cases h
theorem readSetByte_lt {p : List Nat} {i v j : Nat} (h : readSetByte p i = .ok (v, j)) : i < j ∧ j ≤ p.length := by
  unfold readSetByte at h
  by_cases c : now p i = 92
  · rw [if_pos c] at h
    have := readEscaped_lt h
    omega
  · rw [if_neg c] at h
    exact readPlain_lt h
theorem readItem_lt {p : List Nat} {i j : Nat} {x : Nat × Nat} (h : readItem p i = .ok (x, j)) : i < j ∧ j ≤ p.length := by
  unfold readItem at h
  cases e : readSetByte p i with
  | error _ => rw [e] at h; cases h
  | ok y =>
    obtain ⟨a, k⟩ := y
    have h1 := readSetByte_lt e
    rw [e] at h
    dsimp only at h
    by_cases c : now p k = 45
    · rw [if_pos c] at h
      cases e2 : readSetByte p (k + 1) with
      | error _ => rw [e2] at h; cases h
      | ok z =>
        obtain ⟨b, m⟩ := z
        have h2 := readSetByte_lt e2
        rw [e2] at h
        dsimp only at h
        by_cases c2 : b < a
        · rw [if_pos c2] at h; cases h
        · rw [if_neg c2] at h; cases h; omega
    · rw [if_neg c] at h; cases h; exact h1
/-- what an item's reading gives to the specification -/
theorem item_is {p : List Nat} (hp : Ok8 p) (i : Nat) : (match setByte (at_ p i) with
    | .error e => .error e
    | .ok (a, x) => if x.is '-' = true then (match setByte x.next with
        | .error e => .error e
        | .ok (b, y) => if b < a then .error (3, x.p + 1) else .ok ((a, b), y))
      else .ok ((a, a), x) : Except Flt ((Nat × Nat) × In)) = lift p (readItem p i) := by
  unfold readItem
  rw [setByte_is hp]
  cases readSetByte p i with
  | error e => rfl
  | ok y =>
    obtain ⟨a, j⟩ := y
    dsimp only [lift]
    rw [is_dec hp j '-' (by decide), at_next]
    simp only [decide_eq_true_eq]
    show (if now p j = 45 then _ else _) = _
    by_cases c : now p j = 45
    · rw [if_pos c, if_pos c, setByte_is hp]
      cases readSetByte p (j + 1) with
      | error e => rfl
      | ok z =>
        obtain ⟨b, k⟩ := z
        dsimp only [lift]
        by_cases c2 : b < a
        · rw [if_pos c2, if_pos c2]; rfl
        · rw [if_neg c2, if_neg c2]
    · rw [if_neg c, if_neg c]
theorem itemsIn_step {p : List Nat} (hp : Ok8 p) (f i : Nat) (had : Bool) : itemsIn (f + 1) had (at_ p i) = if had = true ∧ now p i = 93 then .ok ([], at_ p (i + 1)) else match readItem p i with
    | .error e => .error e
    | .ok (x, j) => (itemsIn f true (at_ p j)).map fun z => (x :: z.1, z.2) := by
  rw [itemsIn, is_dec hp i ']' (by decide)]
  have e : (had && decide (now p i = (']' : Char).toNat)) = true ↔ had = true ∧ now p i = 93 := by
    rw [Bool.and_eq_true, decide_eq_true_eq]
    exact Iff.rfl
  simp only [e]
  by_cases c : had = true ∧ now p i = 93
  · rw [if_pos c, if_pos c, at_next]
  · rw [if_neg c, if_neg c]
    have q := item_is hp i
    cases es : setByte (at_ p i) with
    | error e =>
      rw [es] at q
      cases er : readItem p i with
      | error e' => rw [er] at q; cases q; rfl
      | ok _ => rw [er] at q; cases q
    | ok y =>
      obtain ⟨a, x⟩ := y
      rw [es] at q
      dsimp only at q ⊢
      by_cases c2 : x.is '-' = true
      · rw [if_pos c2] at q ⊢
        cases es2 : setByte x.next with
        | error e =>
          rw [es2] at q
          cases er : readItem p i with
          | error e' => rw [er] at q; cases q; rfl
          | ok _ => rw [er] at q; cases q
        | ok z =>
          obtain ⟨b, y⟩ := z
          rw [es2] at q
          dsimp only at q ⊢
          by_cases c3 : b < a
          · rw [if_pos c3] at q ⊢
            cases er : readItem p i with
            | error e' => rw [er] at q; cases q; rfl
            | ok _ => rw [er] at q; cases q
          · rw [if_neg c3] at q ⊢
            cases er : readItem p i with
            | error e' => rw [er] at q; cases q
            | ok v => obtain ⟨v1, v2⟩ := v; rw [er] at q; cases q; rfl
      · rw [if_neg c2] at q ⊢
        cases er : readItem p i with
        | error e' => rw [er] at q; cases q
        | ok v => obtain ⟨v1, v2⟩ := v; rw [er] at q; cases q; rfl
theorem items_is {p : List Nat} (hp : Ok8 p) : ∀ (f g i : Nat), p.length - i < f → p.length - i < g → itemsIn f true (at_ p i) = lift p (readItems p g i)
  | 0, _, _, h, _ => absurd h (Nat.not_lt_zero _)
  | _, 0, _, _, h => absurd h (Nat.not_lt_zero _)
  | f + 1, g + 1, i, h1, h2 => by
    rw [itemsIn_step hp, readItems]
    by_cases c : now p i = 93
    · rw [if_pos ⟨rfl, c⟩, if_pos c]; rfl
    · rw [if_neg (fun z => c z.2), if_neg c]
      cases e : readItem p i with
      | error e => rfl
      | ok y =>
        obtain ⟨x, j⟩ := y
        have hj := readItem_lt e
        dsimp only
        rw [items_is hp f g j (by omega) (by omega)]
        cases readItems p g j with
        | error e => rfl
        | ok z => rfl
theorem set_is {p : List Nat} (hp : Ok8 p) (i f : Nat) (hf : p.length - i < f) : (match itemsIn (f + 1) false (if (at_ p i).is '^' = true then (at_ p i).next else at_ p i) with
    | .error e => .error e
    | .ok (l, x) => .ok (((at_ p i).is '^', l), x) : Except Flt ((Bool × List (Nat × Nat)) × In)) = lift p (readSet p i) := by
  unfold readSet
  have e : (if (at_ p i).is '^' = true then (at_ p i).next else at_ p i) = at_ p (if now p i = 94 then i + 1 else i) := by
    rw [is_dec hp i '^' (by decide), at_next]
    simp only [decide_eq_true_eq]
    show (if now p i = 94 then _ else _) = _
    by_cases c : now p i = 94
    · rw [if_pos c, if_pos c]
    · rw [if_neg c, if_neg c]
  have hd : (at_ p i).is '^' = decide (now p i = 94) := is_dec hp i '^' (by decide)
  rw [e, hd, itemsIn_step hp, if_neg (fun z => Bool.noConfusion z.1)]
  have hi : i ≤ (if now p i = 94 then i + 1 else i) := by split <;> omega
  cases e : readItem p (if now p i = 94 then i + 1 else i) with
  | error e => rfl
  | ok y =>
    obtain ⟨x, j⟩ := y
    have hj := readItem_lt e
    dsimp only
    rw [items_is hp f (p.length + 1) j (by omega) (by omega)]
    cases readItems p (p.length + 1) j with
    | error e => rfl
    | ok z => rfl
end PF
/-! Part A2: numbers and counts. -/
namespace PF
open WrPatt
def dg (p : List Nat) (i : Nat) : Bytes := (at_ p i).b.takeWhile isDigit
def dfold (n : Nat) (l : Bytes) : Nat := l.foldl (fun (n : Nat) (c : UInt8) => 10 * n + (c.toNat - 48)) n
theorem digit_end : digit 256 = false := by decide
theorem dg_yes {p : List Nat} (hp : Ok8 p) {i : Nat} (h : digit (now p i) = true) : dg p i = UInt8.ofNat (now p i) :: dg p (i + 1) := by
  have q : i < p.length := lt_of_now fun z => by rw [z, digit_end] at h; cases h
  unfold dg
  rw [at_cons q, List.takeWhile_cons, k_digit _ (now_byte hp q), if_pos h]
theorem dg_no {p : List Nat} (hp : Ok8 p) {i : Nat} (h : digit (now p i) = false) : dg p i = [] := by
  unfold dg
  rcases Nat.lt_or_ge i p.length with q | q
  · rw [at_cons q, List.takeWhile_cons, k_digit _ (now_byte hp q), h]; rfl
  · rw [at_nil q]; rfl
theorem digit_bounds {c : Nat} (h : digit c = true) : 48 ≤ c ∧ c ≤ 57 := by
  unfold digit at h
  simpa using h
theorem readDigits_pos {p : List Nat} (hp : Ok8 p) (first : Nat) : ∀ (f n j : Nat), p.length - j < f → n ≠ 0 → readDigits p first f n j = .ok (dfold n (dg p j), j + (dg p j).length)
  | 0, _, _, h, _ => absurd h (Nat.not_lt_zero _)
  | f + 1, n, j, h, hn => by
    rw [readDigits]
    cases c : digit (now p j) with
    | false => rw [dg_no hp c]; rfl
    | true =>
      have b := digit_bounds c
      have hj : j < p.length := lt_of_now (by omega)
      rw [if_pos rfl, if_neg (fun z => hn z.1), readDigits_pos hp first f _ (j + 1) (by omega) (by omega), dg_yes hp c]
      have e : n * 10 + now p j - 48 = 10 * n + ((UInt8.ofNat (now p j)).toNat - 48) := by
        rw [k_nat _ (by omega)]; omega
      show Except.ok (dfold (n * 10 + now p j - 48) (dg p (j + 1)), _) = Except.ok (dfold (10 * n + ((UInt8.ofNat (now p j)).toNat - 48)) (dg p (j + 1)), _)
      rw [e, List.length_cons]
      congr 2
      omega
theorem dg_len_le (p : List Nat) (i : Nat) : i + (dg p i).length ≤ p.length ∨ dg p i = [] := by
  have h : (dg p i).length ≤ (at_ p i).b.length := by
    unfold dg
    exact (List.takeWhile_sublist _).length_le
  rw [at_b_len] at h
  rcases Nat.lt_or_ge i p.length with q | q
  · left; omega
  · right
    have : (dg p i).length = 0 := by omega
    exact List.eq_nil_of_length_eq_zero this
/-- a number's reading against a bound: what the specification's gives and its look at the bound -/
theorem number_is {p : List Nat} (hp : Ok8 p) (i least : Nat) : (match numberIn (at_ p i) with
    | .error e => .error e
    | .ok (n, x) => if n < least then .error (2, i) else .ok (n, x) : Except Flt (Nat × In)) = lift p (readNumber p least i) := by
  unfold readNumber
  have hd : numberIn (at_ p i) = (if dg p i = [] then .error (1, i) else if (dg p i).head? = some 48 ∧ 1 < (dg p i).length then .error (1, i + 1) else if COUNT < dfold 0 (dg p i) then .error (2, i) else .ok (dfold 0 (dg p i), at_ p (i + (dg p i).length))) := by
    unfold numberIn
    have e : (⟨(at_ p i).p + (dg p i).length, (at_ p i).b.drop (dg p i).length⟩ : In) = at_ p (i + (dg p i).length) := by
      unfold at_
      simp [List.drop_drop]
    show (if dg p i = [] then bad (at_ p i) else if (dg p i).head? = some 48 ∧ 1 < (dg p i).length then .error (1, (at_ p i).p + 1) else if COUNT < dfold 0 (dg p i) then .error (2, (at_ p i).p) else .ok (dfold 0 (dg p i), (⟨(at_ p i).p + (dg p i).length, (at_ p i).b.drop (dg p i).length⟩ : In))) = (_ : Except Flt (Nat × In))
    rw [e]
    rfl
  rw [hd]
  cases c : digit (now p i) with
  | false =>
    have e : readDigits p i (p.length + 1) 0 i = .ok (0, i) := by rw [readDigits, c]; rfl
    rw [dg_no hp c, if_pos rfl, e]
    dsimp only
    rw [if_pos rfl]
    rfl
  | true =>
    have b := digit_bounds c
    have hi : i < p.length := lt_of_now (by omega)
    have e1 : readDigits p i (p.length + 1) 0 i = readDigits p i p.length (now p i - 48) (i + 1) := by
      rw [readDigits, if_pos c, if_neg (fun z => Nat.lt_irrefl _ z.2)]
      congr 1
      omega
    have hne : dg p i ≠ [] := by rw [dg_yes hp c]; simp
    rw [if_neg hne, e1]
    have hhead : (dg p i).head? = some 48 ↔ now p i = 48 := by
      rw [dg_yes hp c]
      simp only [List.head?_cons, Option.some.injEq]
      exact k_eq 48 (by decide) _ (by omega)
    have hlen : (dg p i).length = (dg p (i + 1)).length + 1 := by rw [dg_yes hp c]; rfl
    have hfold : dfold 0 (dg p i) = dfold (now p i - 48) (dg p (i + 1)) := by
      rw [dg_yes hp c]
      show dfold (10 * 0 + ((UInt8.ofNat (now p i)).toNat - 48)) _ = _
      rw [k_nat _ (by omega)]
      congr 1
      omega
    obtain ⟨m, hm⟩ : ∃ m, p.length = m + 1 := ⟨p.length - 1, by omega⟩
    by_cases z : now p i = 48
    · rw [hm, z, readDigits]
      cases c2 : digit (now p (i + 1)) with
      | true =>
        have A : (dg p i).head? = some 48 ∧ 1 < (dg p i).length := ⟨hhead.mpr z, by rw [hlen, dg_yes hp c2, List.length_cons]; omega⟩
        rw [if_pos A, if_pos rfl, if_pos (show 48 - 48 = 0 ∧ i < i + 1 from ⟨rfl, Nat.lt_succ_self _⟩)]
        rfl
      | false =>
        have A : ¬ ((dg p i).head? = some 48 ∧ 1 < (dg p i).length) := fun w => by
          rw [hlen, dg_no hp c2] at w
          exact absurd w.2 (by decide)
        have hf : dfold 0 (dg p i) = 0 := by rw [hfold, dg_no hp c2, z]; rfl
        rw [if_neg A, hf, hlen, dg_no hp c2, if_neg (by decide : ¬ COUNT < 0), if_neg (by decide : ¬ (false = true))]
        dsimp only [List.length_nil]
        rw [if_neg (by omega : ¬ i + 1 = i)]
        by_cases l : 0 < least
        · rw [if_pos l, if_pos (.inr l)]; rfl
        · rw [if_neg l, if_neg (by intro w; rcases w with w | w; exact absurd w (by decide); exact l w)]; rfl
    · rw [readDigits_pos hp i _ _ _ (by omega) (by omega), if_neg (fun w => z (hhead.mp w.1)), hfold, hlen]
      dsimp only
      rw [if_neg (by omega : ¬ i + 1 + (dg p (i + 1)).length = i)]
      have ep : i + ((dg p (i + 1)).length + 1) = i + 1 + (dg p (i + 1)).length := by omega
      rw [ep]
      show _ = lift p (if 100 < _ ∨ _ then _ else _)
      by_cases w : 100 < dfold (now p i - 48) (dg p (i + 1))
      · rw [if_pos (show COUNT < _ from w), if_pos (.inl w)]; rfl
      · rw [if_neg (show ¬ COUNT < _ from w)]
        dsimp only
        by_cases l : dfold (now p i - 48) (dg p (i + 1)) < least
        · rw [if_pos l, if_pos (.inr l)]; rfl
        · rw [if_neg l, if_neg (by intro y; rcases y with y | y; exact w y; exact l y)]; rfl
theorem number0_is {p : List Nat} (hp : Ok8 p) (i : Nat) : numberIn (at_ p i) = lift p (readNumber p 0 i) := by
  rw [← number_is hp i 0]
  cases numberIn (at_ p i) with
  | error e => rfl
  | ok x => obtain ⟨n, y⟩ := x; rfl
theorem readNumber_lt {p : List Nat} (hp : Ok8 p) {i least n j : Nat} (h : readNumber p least i = .ok (n, j)) : i < j ∧ j ≤ p.length ∧ n ≤ 100 ∧ least ≤ n := by
  unfold readNumber at h
  cases e : readDigits p i (p.length + 1) 0 i with
  | error _ => rw [e] at h; cases h
  | ok x =>
    obtain ⟨n', j'⟩ := x
    rw [e] at h
    dsimp only at h
    by_cases c1 : j' = i
    · rw [if_pos c1] at h; cases h
    rw [if_neg c1] at h
    by_cases c2 : 100 < n' ∨ n' < least
    · rw [if_pos c2] at h; cases h
    rw [if_neg c2] at h
    cases h
    have key : ∀ (f m k : Nat), i ≤ k → k ≤ p.length → ∀ n j, readDigits p i f m k = .ok (n, j) → k ≤ j ∧ j ≤ p.length := by
      intro f
      induction f with
      | zero => intro m k h1 h2 n j e; rw [readDigits] at e; cases e; exact ⟨Nat.le_refl _, h2⟩
      | succ f ih =>
        intro m k h1 h2 n j e
        rw [readDigits] at e
        cases c : digit (now p k) with
        | false => rw [c] at e; cases e; exact ⟨Nat.le_refl _, h2⟩
        | true =>
          have hk : k < p.length := lt_of_now fun z => by rw [z, digit_end] at c; cases c
          rw [if_pos c] at e
          by_cases c2 : m = 0 ∧ i < k
          · rw [if_pos c2] at e; cases e
          · rw [if_neg c2] at e
            have := ih _ (k + 1) (by omega) (by omega) n j e
            omega
    rcases Nat.lt_or_ge i p.length with q | q
    · have := key _ _ _ (Nat.le_refl _) (by omega) _ _ e
      omega
    · exfalso
      rw [readDigits, now_ge q, digit_end] at e
      cases e
      exact c1 rfl
theorem numbers_is {p : List Nat} (hp : Ok8 p) (i : Nat) : countIn (at_ p i) = lift p (readNumbers p i) := by
  unfold countIn readNumbers
  rw [number0_is hp]
  cases e : readNumber p 0 i with
  | error e => rfl
  | ok x =>
    obtain ⟨n, j⟩ := x
    dsimp only [lift]
    rw [is_dec hp j '}' (by decide), is_dec hp j ',' (by decide), at_next, is_dec hp (j + 1) '}' (by decide), at_next]
    simp only [decide_eq_true_eq, decide_eq_false_iff_not]
    show (if now p j = 125 then _ else if ¬ now p j = 44 then _ else if now p (j + 1) = 125 then _ else _) = _
    by_cases c1 : now p j = 125
    · have c2 : ¬ now p j = 44 := by omega
      rw [if_pos c1, if_neg c2]
      unfold need
      rw [if_pos c1]
    · rw [if_neg c1]
      by_cases c2 : now p j = 44
      · rw [if_neg (fun z => z c2), if_pos c2]
        by_cases c3 : now p (j + 1) = 125
        · rw [if_pos c3, if_pos c3]
        · rw [if_neg c3, if_neg c3]
          have q := number_is hp (j + 1) n
          cases e2 : numberIn (at_ p (j + 1)) with
          | error e =>
            rw [e2] at q
            cases e3 : readNumber p n (j + 1) with
            | error e' => rw [e3] at q; cases q; rfl
            | ok y => obtain ⟨v, k⟩ := y; rw [e3] at q; cases q
          | ok y =>
            obtain ⟨m, z⟩ := y
            rw [e2] at q
            dsimp only at q ⊢
            by_cases c4 : m < n
            · rw [if_pos c4] at q ⊢
              cases e3 : readNumber p n (j + 1) with
              | error e' => rw [e3] at q; cases q; rfl
              | ok y => obtain ⟨v, k⟩ := y; rw [e3] at q; cases q
            · rw [if_neg c4] at q ⊢
              cases e3 : readNumber p n (j + 1) with
              | error e' => rw [e3] at q; cases q
              | ok y =>
                obtain ⟨v, k⟩ := y
                rw [e3] at q
                cases q
                dsimp only
                rw [is_dec hp k '}' (by decide), at_next]
                simp only [decide_eq_true_eq]
                unfold need
                show (if now p k = 125 then _ else _) = _
                by_cases c5 : now p k = 125
                · rw [if_pos c5, if_pos c5]
                · rw [if_neg c5, if_neg c5]; rfl
      · rw [if_pos c2, if_neg c2]
        unfold need
        rw [if_neg c1]
        rfl
theorem need_lt {p : List Nat} {c i j : Nat} (hc : c ≠ 256) (h : need p c i = .ok j) : j = i + 1 ∧ i < p.length := by
  unfold need at h
  by_cases q : now p i = c
  · rw [if_pos q] at h; cases h; exact ⟨rfl, lt_of_now (by rw [q]; exact hc)⟩
  · rw [if_neg q] at h; cases h
theorem readNumbers_lt {p : List Nat} (hp : Ok8 p) {i j : Nat} {c : Nat × Option Nat} (h : readNumbers p i = .ok (c, j)) : i < j ∧ j ≤ p.length ∧ c.1 ≤ 100 ∧ ∀ m, c.2 = some m → c.1 ≤ m ∧ m ≤ 100 := by
  unfold readNumbers at h
  cases e : readNumber p 0 i with
  | error _ => rw [e] at h; cases h
  | ok x =>
    obtain ⟨n, k⟩ := x
    have h1 := readNumber_lt hp e
    rw [e] at h
    dsimp only at h
    by_cases c1 : now p k = 44
    · rw [if_pos c1] at h
      by_cases c2 : now p (k + 1) = 125
      · rw [if_pos c2] at h
        cases h
        have : k + 1 < p.length := lt_of_now (by omega)
        exact ⟨by omega, by omega, h1.2.2.1, fun m z => by cases z⟩
      · rw [if_neg c2] at h
        cases e2 : readNumber p n (k + 1) with
        | error _ => rw [e2] at h; cases h
        | ok y =>
          obtain ⟨m, l⟩ := y
          have h2 := readNumber_lt hp e2
          rw [e2] at h
          dsimp only at h
          cases e3 : need p 125 l with
          | error _ => rw [e3] at h; cases h
          | ok t =>
            have h3 := need_lt (by decide) e3
            rw [e3] at h
            cases h
            exact ⟨by omega, by omega, h1.2.2.1, fun m' z => by cases z; omega⟩
    · rw [if_neg c1] at h
      cases e3 : need p 125 k with
      | error _ => rw [e3] at h; cases h
      | ok t =>
        have h3 := need_lt (by decide) e3
        rw [e3] at h
        cases h
        exact ⟨by omega, by omega, h1.2.2.1, fun m' z => by cases z; omega⟩
theorem readCount_lt {p : List Nat} (hp : Ok8 p) {i j : Nat} {c : Nat × Option Nat} (h : readCount p i = .ok (some c, j)) : i < j ∧ j ≤ p.length ∧ c.1 ≤ 100 ∧ ∀ m, c.2 = some m → c.1 ≤ m ∧ m ≤ 100 := by
  unfold readCount at h
  by_cases c1 : now p i = 42
  · rw [if_pos c1] at h; cases h
    exact ⟨Nat.lt_succ_self _, lt_of_now (by omega), by decide, fun m z => by cases z⟩
  rw [if_neg c1] at h
  by_cases c2 : now p i = 43
  · rw [if_pos c2] at h; cases h
    exact ⟨Nat.lt_succ_self _, lt_of_now (by omega), by decide, fun m z => by cases z⟩
  rw [if_neg c2] at h
  by_cases c3 : now p i = 63
  · rw [if_pos c3] at h; cases h
    exact ⟨Nat.lt_succ_self _, lt_of_now (by omega), by decide, fun m z => by cases z; decide⟩
  rw [if_neg c3] at h
  by_cases c4 : now p i = 123
  · rw [if_pos c4] at h
    cases e : readNumbers p (i + 1) with
    | error _ => rw [e] at h; cases h
    | ok x =>
      obtain ⟨c', j'⟩ := x
      rw [e] at h
      cases h
      have := readNumbers_lt hp e
      exact ⟨by omega, this.2.1, this.2.2.1, this.2.2.2⟩
  · rw [if_neg c4] at h; cases h
theorem readCount_none {p : List Nat} {i j : Nat} (h : readCount p i = .ok (none, j)) : j = i := by
  unfold readCount at h
  by_cases c1 : now p i = 42
  · rw [if_pos c1] at h; cases h
  rw [if_neg c1] at h
  by_cases c2 : now p i = 43
  · rw [if_pos c2] at h; cases h
  rw [if_neg c2] at h
  by_cases c3 : now p i = 63
  · rw [if_pos c3] at h; cases h
  rw [if_neg c3] at h
  by_cases c4 : now p i = 123
  · rw [if_pos c4] at h
    cases e : readNumbers p (i + 1) with
    | error _ => rw [e] at h; cases h
    | ok x => obtain ⟨c', j'⟩ := x; rw [e] at h; cases h
  · rw [if_neg c4] at h; cases h; rfl
/-- one count more, in the specification's loop -/
theorem countsIn_step {p : List Nat} (hp : Ok8 p) (f : Nat) (a : Pat) (i : Nat) : countsIn (f + 1) a (at_ p i) = match readCount p i with
    | .error e => .error e
    | .ok (none, j) => .ok (a, at_ p j)
    | .ok (some c, j) => countsIn f (.rep a c.1 c.2) (at_ p j) := by
  unfold readCount
  rw [countsIn, is_dec hp i '*' (by decide), is_dec hp i '+' (by decide), is_dec hp i '?' (by decide), is_dec hp i '{' (by decide), at_next, numbers_is hp]
  simp only [decide_eq_true_eq]
  show (if now p i = 42 then _ else if now p i = 43 then _ else if now p i = 63 then _ else if now p i = 123 then _ else _) = _
  by_cases c1 : now p i = 42
  · rw [if_pos c1, if_pos c1]
  rw [if_neg c1, if_neg c1]
  by_cases c2 : now p i = 43
  · rw [if_pos c2, if_pos c2]
  rw [if_neg c2, if_neg c2]
  by_cases c3 : now p i = 63
  · rw [if_pos c3, if_pos c3]
  rw [if_neg c3, if_neg c3]
  by_cases c4 : now p i = 123
  · rw [if_pos c4, if_pos c4]
    cases readNumbers p (i + 1) with
    | error e => rfl
    | ok x => obtain ⟨c, j⟩ := x; rfl
  · rw [if_neg c4, if_neg c4]
end PF
/-! Part A3: the forms, the machine that reads, how forms lie. -/
namespace PF
open WrPatt
inductive Kd where
  | byte
  | begin_
  | end_
  | edge
  | noEdge
  | row
  | either
  | both
  | turned
  | counted
  | group
  deriving DecidableEq
inductive Tl where
  | non
  | mem (m : List Bool)
  | cnt (n : Nat) (m : Option Nat)
  | num (k : Nat)
structure Fm where
  kd : Kd
  parts : List Nat
  tl : Tl
structure Lv where
  rows : List Nat
  parts : List Nat
  pieces : List Nat
  turned : Bool
  shut : Bool
  gbp : Nat
  group : Option Nat
structure Rd where
  place : Nat
  groups : Nat
  forms : List Fm
  top : Lv
  below : List Lv
def Lv.new (shut : Bool) (g : Nat) (k : Option Nat) : Lv := ⟨[], [], [], false, shut, g, k⟩
def Lv.bars (L : Lv) : Bool := L.shut || (L.turned || decide (0 < L.parts.length))
def memOf (f : Nat → Bool) : List Bool := (List.range 256).map f
def inSetN (neg : Bool) (l : List (Nat × Nat)) (c : Nat) : Bool := (l.any fun x => decide (x.1 ≤ c) && decide (c ≤ x.2)) != neg
def byteF (f : Nat → Bool) : Fm := ⟨.byte, [], .mem (memOf f)⟩
def readEscAtom (p : List Nat) (i : Nat) : Except Flt (Fm × Nat) := if now p i = 98 then .ok (⟨.edge, [], .non⟩, i + 1) else if now p i = 66 then .ok (⟨.noEdge, [], .non⟩, i + 1) else match readEscaped p i with
  | .error e => .error e
  | .ok (c, j) => .ok (byteF fun b => decide (b = c), j)
def readAtom (p : List Nat) (i : Nat) : Except Flt (Fm × Nat) := if now p i = 91 then (match readSet p (i + 1) with
    | .error e => .error e
    | .ok (x, j) => .ok (byteF (inSetN x.1 x.2), j))
  else if now p i = 94 then .ok (⟨.begin_, [], .non⟩, i + 1) else if now p i = 36 then .ok (⟨.end_, [], .non⟩, i + 1) else if now p i = 46 then .ok (byteF fun b => decide (b ≠ 10), i + 1)
  else if now p i = 92 then readEscAtom p (i + 1) else match readPlain notPlain p i with
    | .error e => .error e
    | .ok (c, j) => .ok (byteF fun b => decide (b = c), j)
def keepJoined (kd : Kd) (fs : List Fm) : List Nat → List Fm × Nat
  | [i] => (fs, i)
  | js => (fs ++ [⟨kd, js, .non⟩], fs.length)
def endPartL (g : Nat) (fs : List Fm) (L : Lv) : List Fm × Lv := ((keepJoined .row fs L.pieces).1, { L with parts := L.parts ++ [(keepJoined .row fs L.pieces).2], pieces := [], gbp := g })
def endRowL (g : Nat) (fs : List Fm) (L : Lv) : List Fm × Lv := let q := endPartL g fs L
  ((keepJoined .both q.1 q.2.parts).1, { q.2 with rows := q.2.rows ++ [(keepJoined .both q.1 q.2.parts).2], parts := [] })
def endLevelL (g : Nat) (fs : List Fm) (L : Lv) : List Fm × Lv × Nat := let q := endRowL g fs L
  ((keepJoined .either q.1 q.2.rows).1, q.2, (keepJoined .either q.1 q.2.rows).2)
def countLoop (p : List Nat) : Nat → List Fm → Nat → Nat → Except Flt (List Fm × Nat × Nat)
  | 0, _, _, pl => .error (1, pl)
  | f + 1, fs, i, pl => match readCount p pl with
    | .error e => .error e
    | .ok (none, j) => .ok (fs, i, j)
    | .ok (some c, j) => countLoop p f (fs ++ [⟨.counted, [i], .cnt c.1 c.2⟩]) fs.length j
/-- a ~ ahead: the form of what's turned -/
def turnF (t : Bool) (fs : List Fm) (i : Nat) : List Fm × Nat := if t = true then (fs ++ [⟨.turned, [i], .non⟩], fs.length) else (fs, i)
def endPiece (p : List Nat) (i : Nat) (S : Rd) : Except Flt Rd := match countLoop p (p.length + 1) S.forms i S.place with
  | .error e => .error e
  | .ok (fs, j, pl) => .ok { S with place := pl, forms := (turnF S.top.turned fs j).1, top := { S.top with turned := false, pieces := S.top.pieces ++ [(turnF S.top.turned fs j).2] } }
def groupF (k : Option Nat) (fs : List Fm) (i : Nat) : List Fm × Nat := match k with
  | none => (fs, i)
  | some k => (fs ++ [⟨.group, [i], .num k⟩], fs.length)
def openBracket (p : List Nat) (S : Rd) : Except Flt Rd := if now p (S.place + 1) = 58 then .ok { S with place := S.place + 2, top := Lv.new S.top.bars S.groups none, below := S.top :: S.below }
  else if S.top.bars = true ∨ S.groups = 32 then .error (4, S.place) else .ok { S with place := S.place + 1, groups := S.groups + 1, top := Lv.new S.top.bars (S.groups + 1) (some (S.groups + 1)), below := S.top :: S.below }
def closeBracket (p : List Nat) (S : Rd) : Except Flt Rd := match S.below with
  | [] => .error (1, S.place)
  | l :: r => let q := endLevelL S.groups S.forms S.top
    let z := groupF S.top.group q.1 q.2.2
    endPiece p z.2 { S with place := S.place + 1, forms := z.1, top := l, below := r }
def passBoth (S : Rd) : Except Flt Rd := if S.top.gbp < S.groups then .error (4, S.place) else .ok { S with place := S.place + 1, forms := (endPartL S.groups S.forms S.top).1, top := (endPartL S.groups S.forms S.top).2 }
def atomStep (p : List Nat) (S : Rd) : Except Flt Rd := match readAtom p S.place with
  | .error e => .error e
  | .ok (fm, j) => endPiece p S.forms.length { S with place := j, forms := S.forms ++ [fm] }
def step (p : List Nat) (S : Rd) : Except Flt Rd := if now p S.place = 40 then openBracket p S
  else if S.top.turned = true ∨ notAtoms.contains (now p S.place) = false then atomStep p S
  else if now p S.place = 126 then .ok { S with place := S.place + 1, top := { S.top with turned := true } }
  else if now p S.place = 124 then .ok { S with place := S.place + 1, forms := (endRowL S.groups S.forms S.top).1, top := (endRowL S.groups S.forms S.top).2 }
  else if now p S.place = 38 then passBoth S
  else closeBracket p S
def finish (S : Rd) : Except Flt Rd := if S.below ≠ [] ∨ S.top.turned = true then .error (1, S.place) else .ok { S with forms := (endLevelL S.groups S.forms S.top).1, top := (endLevelL S.groups S.forms S.top).2.1 }
def Rd.start : Rd := ⟨0, 0, [], Lv.new false 0 none, []⟩
/-- what the loop over the pattern comes to -/
inductive Res (p : List Nat) : Rd → Except Flt Rd → Prop where
  | fin {S : Rd} : p.length ≤ S.place → Res p S (finish S)
  | err {S : Rd} {e : Flt} : S.place < p.length → step p S = .error e → Res p S (.error e)
  | go {S S' : Rd} {r : Except Flt Rd} : S.place < p.length → step p S = .ok S' → Res p S' r → Res p S r

/-! ### how forms lie -/
def seqOf : List Pat → Pat
  | [] => .empty
  | [a] => a
  | a :: b :: r => .seq a (seqOf (b :: r))
def altOf : List Pat → Pat
  | [] => .empty
  | [a] => a
  | a :: b :: r => .alt a (altOf (b :: r))
def bothOf : List Pat → Pat
  | [] => .empty
  | [a] => a
  | a :: b :: r => .both a (bothOf (b :: r))
mutual
/-- forms lo to hi (hi - 1 the whole) are those of a pattern, its groups those from g + 1 to h -/
inductive Lay (fs : List Fm) : Nat → Nat → Nat → Nat → Pat → Prop where
  | byte {lo g : Nat} {neg : Bool} {l : List (Nat × Nat)} {f : Nat → Bool} : fs[lo]? = some (byteF f) → (∀ c, c < 256 → f c = inSetN neg l c) → Lay fs lo (lo + 1) g g (.set neg l)
  | begin_ {lo g : Nat} : fs[lo]? = some ⟨.begin_, [], .non⟩ → Lay fs lo (lo + 1) g g .begin_
  | end_ {lo g : Nat} : fs[lo]? = some ⟨.end_, [], .non⟩ → Lay fs lo (lo + 1) g g .end_
  | edge {lo g : Nat} : fs[lo]? = some ⟨.edge, [], .non⟩ → Lay fs lo (lo + 1) g g (.bound false)
  | noEdge {lo g : Nat} : fs[lo]? = some ⟨.noEdge, [], .non⟩ → Lay fs lo (lo + 1) g g (.bound true)
  | row {lo hi g h : Nat} {js : List Nat} {as : List Pat} : LayL fs lo hi g h js as → js.length ≠ 1 → fs[hi]? = some ⟨.row, js, .non⟩ → Lay fs lo (hi + 1) g h (seqOf as)
  | either {lo hi g h : Nat} {js : List Nat} {as : List Pat} : LayL fs lo hi g h js as → 1 < js.length → fs[hi]? = some ⟨.either, js, .non⟩ → Lay fs lo (hi + 1) g h (altOf as)
  | both {lo hi g h : Nat} {js : List Nat} {as : List Pat} : LayL fs lo hi g h js as → 1 < js.length → fs[hi]? = some ⟨.both, js, .non⟩ → Lay fs lo (hi + 1) g h (bothOf as)
  | turned {lo hi g h : Nat} {a : Pat} : Lay fs lo hi g h a → fs[hi]? = some ⟨.turned, [hi - 1], .non⟩ → Lay fs lo (hi + 1) g h (.not_ a)
  | counted {lo hi g h n : Nat} {m : Option Nat} {a : Pat} : Lay fs lo hi g h a → n ≤ 100 → (∀ k, m = some k → n ≤ k ∧ k ≤ 100) → fs[hi]? = some ⟨.counted, [hi - 1], .cnt n m⟩ → Lay fs lo (hi + 1) g h (.rep a n m)
  | group {lo hi g h : Nat} {a : Pat} : Lay fs lo hi (g + 1) h a → fs[hi]? = some ⟨.group, [hi - 1], .num (g + 1)⟩ → Lay fs lo (hi + 1) g h (.group (g + 1) a)
/-- side by side -/
inductive LayL (fs : List Fm) : Nat → Nat → Nat → Nat → List Nat → List Pat → Prop where
  | nil {lo g : Nat} : LayL fs lo lo g g [] []
  | cons {lo mid hi g k h : Nat} {a : Pat} {js : List Nat} {as : List Pat} : Lay fs lo mid g k a → LayL fs mid hi k h js as → LayL fs lo hi g h ((mid - 1) :: js) (a :: as)
end
theorem get_app {α : Type} {l x : List α} {i : Nat} {a : α} (h : l[i]? = some a) : (l ++ x)[i]? = some a := by
  have : i < l.length := (List.getElem?_eq_some_iff.mp h).1
  rw [List.getElem?_append_left this]; exact h
mutual
theorem Lay.mono {fs x : List Fm} : ∀ {lo hi g h : Nat} {a : Pat}, Lay fs lo hi g h a → Lay (fs ++ x) lo hi g h a
  | _, _, _, _, _, .byte e f => .byte (get_app e) f
  | _, _, _, _, _, .begin_ e => .begin_ (get_app e)
  | _, _, _, _, _, .end_ e => .end_ (get_app e)
  | _, _, _, _, _, .edge e => .edge (get_app e)
  | _, _, _, _, _, .noEdge e => .noEdge (get_app e)
  | _, _, _, _, _, .row l n e => .row (LayL.mono l) n (get_app e)
  | _, _, _, _, _, .either l n e => .either (LayL.mono l) n (get_app e)
  | _, _, _, _, _, .both l n e => .both (LayL.mono l) n (get_app e)
  | _, _, _, _, _, .turned l e => .turned (Lay.mono l) (get_app e)
  | _, _, _, _, _, .counted l n m e => .counted (Lay.mono l) n m (get_app e)
  | _, _, _, _, _, .group l e => .group (Lay.mono l) (get_app e)
theorem LayL.mono {fs x : List Fm} : ∀ {lo hi g h : Nat} {js : List Nat} {as : List Pat}, LayL fs lo hi g h js as → LayL (fs ++ x) lo hi g h js as
  | _, _, _, _, _, _, .nil => .nil
  | _, _, _, _, _, _, .cons a l => .cons (Lay.mono a) (LayL.mono l)
end
mutual
theorem Lay.lt {fs : List Fm} : ∀ {lo hi g h : Nat} {a : Pat}, Lay fs lo hi g h a → lo < hi ∧ hi ≤ fs.length ∧ g ≤ h
  | _, _, _, _, _, .byte e _ => ⟨Nat.lt_succ_self _, (List.getElem?_eq_some_iff.mp e).1, Nat.le_refl _⟩
  | _, _, _, _, _, .begin_ e => ⟨Nat.lt_succ_self _, (List.getElem?_eq_some_iff.mp e).1, Nat.le_refl _⟩
  | _, _, _, _, _, .end_ e => ⟨Nat.lt_succ_self _, (List.getElem?_eq_some_iff.mp e).1, Nat.le_refl _⟩
  | _, _, _, _, _, .edge e => ⟨Nat.lt_succ_self _, (List.getElem?_eq_some_iff.mp e).1, Nat.le_refl _⟩
  | _, _, _, _, _, .noEdge e => ⟨Nat.lt_succ_self _, (List.getElem?_eq_some_iff.mp e).1, Nat.le_refl _⟩
  | _, _, _, _, _, .row l _ e => ⟨Nat.lt_succ_of_le (LayL.le l).1, (List.getElem?_eq_some_iff.mp e).1, (LayL.le l).2⟩
  | _, _, _, _, _, .either l _ e => ⟨Nat.lt_succ_of_le (LayL.le l).1, (List.getElem?_eq_some_iff.mp e).1, (LayL.le l).2⟩
  | _, _, _, _, _, .both l _ e => ⟨Nat.lt_succ_of_le (LayL.le l).1, (List.getElem?_eq_some_iff.mp e).1, (LayL.le l).2⟩
  | _, _, _, _, _, .turned l e => ⟨Nat.lt_succ_of_lt (Lay.lt l).1, (List.getElem?_eq_some_iff.mp e).1, (Lay.lt l).2.2⟩
  | _, _, _, _, _, .counted l _ _ e => ⟨Nat.lt_succ_of_lt (Lay.lt l).1, (List.getElem?_eq_some_iff.mp e).1, (Lay.lt l).2.2⟩
  | _, _, _, _, _, .group l e => ⟨Nat.lt_succ_of_lt (Lay.lt l).1, (List.getElem?_eq_some_iff.mp e).1, Nat.le_of_succ_le (Lay.lt l).2.2⟩
theorem LayL.le {fs : List Fm} : ∀ {lo hi g h : Nat} {js : List Nat} {as : List Pat}, LayL fs lo hi g h js as → lo ≤ hi ∧ g ≤ h
  | _, _, _, _, _, _, .nil => ⟨Nat.le_refl _, Nat.le_refl _⟩
  | _, _, _, _, _, _, .cons a l => ⟨Nat.le_trans (Nat.le_of_lt (Lay.lt a).1) (LayL.le l).1, Nat.le_trans (Lay.lt a).2.2 (LayL.le l).2⟩
end
theorem LayL.snoc {fs : List Fm} : ∀ {lo mid hi g k h : Nat} {js : List Nat} {as : List Pat} {a : Pat}, LayL fs lo mid g k js as → Lay fs mid hi k h a → LayL fs lo hi g h (js ++ [hi - 1]) (as ++ [a])
  | _, _, _, _, _, _, _, _, _, .nil, z => .cons z .nil
  | _, _, _, _, _, _, _, _, _, .cons x l, z => .cons x (LayL.snoc l z)
theorem LayL.append {fs : List Fm} : ∀ {lo mid hi g k h : Nat} {js js' : List Nat} {as as' : List Pat}, LayL fs lo mid g k js as → LayL fs mid hi k h js' as' → LayL fs lo hi g h (js ++ js') (as ++ as')
  | _, _, _, _, _, _, _, _, _, _, .nil, z => z
  | _, _, _, _, _, _, _, _, _, _, .cons x l, z => .cons x (LayL.append l z)
theorem LayL.len {fs : List Fm} : ∀ {lo hi g h : Nat} {js : List Nat} {as : List Pat}, LayL fs lo hi g h js as → js.length = as.length
  | _, _, _, _, _, _, .nil => rfl
  | _, _, _, _, _, _, .cons _ l => congrArg Nat.succ (LayL.len l)
/-- joined: what's alone needs no form around it -/
theorem keepJoined_lay {kd : Kd} {op : List Pat → Pat} {fs : List Fm} {lo g h : Nat} {js : List Nat} {as : List Pat} (l : LayL fs lo fs.length g h js as) (one : ∀ a, op [a] = a)
    (many : ∀ x : List Fm, LayL (fs ++ x) lo fs.length g h js as → js.length ≠ 1 → (fs ++ x)[fs.length]? = some ⟨kd, js, .non⟩ → Lay (fs ++ x) lo (fs.length + 1) g h (op as)) :
    ∃ x, (keepJoined kd fs js).1 = fs ++ x ∧ Lay (fs ++ x) lo (fs ++ x).length g h (op as) ∧ (keepJoined kd fs js).2 = (fs ++ x).length - 1 := by
  have gen : js.length ≠ 1 → ∃ x, (fs ++ [⟨kd, js, .non⟩] : List Fm) = fs ++ x ∧ Lay (fs ++ x) lo (fs ++ x).length g h (op as) ∧ fs.length = (fs ++ x).length - 1 := fun hn => by
    refine ⟨[⟨kd, js, .non⟩], rfl, ?_, ?_⟩
    · have e : (fs ++ [(⟨kd, js, .non⟩ : Fm)]).length = fs.length + 1 := by rw [List.length_append]; rfl
      rw [e]
      exact many _ l.mono hn (by rw [List.getElem?_append_right (Nat.le_refl _), Nat.sub_self]; rfl)
    · rw [List.length_append]; rfl
  match js, l, gen with
  | [], l, gen => exact gen (by decide)
  | [j], l, gen =>
    cases l with
    | cons a l2 =>
      cases l2
      rename_i a _
      refine ⟨[], ?_, ?_, ?_⟩
      · rw [List.append_nil]; rfl
      · rw [List.append_nil, one]; exact a
      · rw [List.append_nil]; rfl
  | j :: j2 :: r, l, gen => exact gen (by simp)
theorem endLevel_lay {fs : List Fm} {L : Lv} {n0 n1 n2 g g1 g2 g3 gg : Nat} {ras pas as : List Pat} (l1 : LayL fs n0 n1 g g1 L.rows ras) (l2 : LayL fs n1 n2 g1 g2 L.parts pas) (l3 : LayL fs n2 fs.length g2 g3 L.pieces as) :
    ∃ x, (endLevelL gg fs L).1 = fs ++ x ∧ Lay (fs ++ x) n0 (fs ++ x).length g g3 (altOf (ras ++ [bothOf (pas ++ [seqOf as])])) ∧ (endLevelL gg fs L).2.2 = (fs ++ x).length - 1 := by
  obtain ⟨x1, e1, k1, w1⟩ := keepJoined_lay (kd := .row) (op := seqOf) l3 (fun _ => rfl) fun x l n e => .row l n e
  have p2 : LayL (fs ++ x1) n1 (fs ++ x1).length g1 g3 (L.parts ++ [(fs ++ x1).length - 1]) (pas ++ [seqOf as]) := l2.mono.snoc k1
  obtain ⟨x2, e2, k2, w2⟩ := keepJoined_lay (kd := .both) (op := bothOf) p2 (fun _ => rfl) fun x l n e => .both l (Nat.lt_of_le_of_ne (by rw [List.length_append]; exact Nat.le_add_left _ _) (Ne.symm n)) e
  have p3 : LayL (fs ++ x1 ++ x2) n0 (fs ++ x1 ++ x2).length g g3 (L.rows ++ [(fs ++ x1 ++ x2).length - 1]) (ras ++ [bothOf (pas ++ [seqOf as])]) := l1.mono.mono.snoc k2
  obtain ⟨x3, e3, k3, w3⟩ := keepJoined_lay (kd := .either) (op := altOf) p3 (fun _ => rfl) fun x l n e => .either l (Nat.lt_of_le_of_ne (by rw [List.length_append]; exact Nat.le_add_left _ _) (Ne.symm n)) e
  refine ⟨x1 ++ x2 ++ x3, ?_, ?_, ?_⟩
  · show (keepJoined .either (keepJoined .both (keepJoined .row fs L.pieces).1 (L.parts ++ [(keepJoined .row fs L.pieces).2])).1 (L.rows ++ [(keepJoined .both (keepJoined .row fs L.pieces).1 (L.parts ++ [(keepJoined .row fs L.pieces).2])).2])).1 = _
    rw [e1, w1, e2, w2, e3]
    simp
  · have ee : fs ++ (x1 ++ x2 ++ x3) = fs ++ x1 ++ x2 ++ x3 := by simp
    rw [ee]; exact k3
  · show (keepJoined .either (keepJoined .both (keepJoined .row fs L.pieces).1 (L.parts ++ [(keepJoined .row fs L.pieces).2])).1 (L.rows ++ [(keepJoined .both (keepJoined .row fs L.pieces).1 (L.parts ++ [(keepJoined .row fs L.pieces).2])).2])).2 = _
    have ee : fs ++ (x1 ++ x2 ++ x3) = fs ++ x1 ++ x2 ++ x3 := by simp
    rw [e1, w1, e2, w2, w3, ee]
end PF
/-! Part A4: what the machine comes to is what the specification reads. -/
namespace PF
open WrPatt
theorem memOf_get {f : Nat → Bool} {c : Nat} (h : c < 256) : (memOf f)[c]? = some (f c) := by
  unfold memOf
  rw [List.getElem?_map, List.getElem?_range h]; rfl
/-! ### atoms that are no brackets -/
theorem dot_set (c : Nat) : decide (c ≠ 10) = inSetN true [(10, 10)] c := by
  unfold inSetN
  by_cases h : c = 10
  · subst h; rfl
  · have : (decide (10 ≤ c) && decide (c ≤ 10)) = false := by
      rw [Bool.and_eq_false_iff, decide_eq_false_iff_not, decide_eq_false_iff_not]; omega
    simp [this, h]
theorem one_set (v c : Nat) : decide (c = v) = inSetN false [(v, v)] c := by
  unfold inSetN
  by_cases h : c = v
  · subst h; simp
  · have : (decide (v ≤ c) && decide (c ≤ v)) = false := by
      rw [Bool.and_eq_false_iff, decide_eq_false_iff_not, decide_eq_false_iff_not]; omega
    simp [this, h]
theorem head_iff {p : List Nat} (hp : Ok8 p) {i : Nat} (m : Nat) (hm : m < 256) : (at_ p i).b.head? = some (UInt8.ofNat m) ↔ now p i = m := by
  rcases Nat.lt_or_ge i p.length with q | q
  · rw [at_cons q]
    simp only [List.head?_cons, Option.some.injEq]
    exact ofNat_eq (now_byte hp q) hm
  · rw [at_nil q, now_ge q]
    simp
    omega
theorem readItems_lt {p : List Nat} : ∀ {f i j : Nat} {l : List (Nat × Nat)}, readItems p f i = .ok (l, j) → i < j ∧ j ≤ p.length
  | 0, _, _, _, h => by rw [readItems] at h; cases h
  | f + 1, i, j, l, h => by
    rw [readItems] at h
    by_cases c : now p i = 93
    · rw [if_pos c] at h; cases h
      exact ⟨Nat.lt_succ_self _, lt_of_now (by omega)⟩
    · rw [if_neg c] at h
      cases e : readItem p i with
      | error _ => rw [e] at h; cases h
      | ok y =>
        obtain ⟨x, k⟩ := y
        have h1 := readItem_lt e
        rw [e] at h
        dsimp only at h
        cases e2 : readItems p f k with
        | error _ => rw [e2] at h; cases h
        | ok z =>
          obtain ⟨l2, m⟩ := z
          have h2 := readItems_lt e2
          rw [e2] at h
          cases h
          omega
theorem readSet_lt {p : List Nat} {i j : Nat} {x : Bool × List (Nat × Nat)} (h : readSet p i = .ok (x, j)) : i < j ∧ j ≤ p.length := by
  unfold readSet at h
  have hi : i ≤ (if now p i = 94 then i + 1 else i) := by split <;> omega
  cases e : readItem p (if now p i = 94 then i + 1 else i) with
  | error _ => rw [e] at h; cases h
  | ok y =>
    obtain ⟨x1, k⟩ := y
    have h1 := readItem_lt e
    rw [e] at h
    dsimp only at h
    cases e2 : readItems p (p.length + 1) k with
    | error _ => rw [e2] at h; cases h
    | ok z =>
      obtain ⟨l2, m⟩ := z
      have h2 := readItems_lt e2
      rw [e2] at h
      cases h
      omega
/-- what the specification's atom reader gives where no bracket stands -/
theorem atom_is {p : List Nat} (hp : Ok8 p) (f : Nat) (no : Bool) (g i : Nat) (hc : now p i ≠ 40) : match readAtom p i with
    | .error e => atomIn (f + 1) no g (at_ p i) = .error e
    | .ok (fm, j) => i < j ∧ j ≤ p.length ∧ ∃ a, atomIn (f + 1) no g (at_ p i) = .ok (a, g, at_ p j) ∧ ∀ (fs : List Fm) (lo k : Nat), fs[lo]? = some fm → Lay fs lo (lo + 1) k k a := by
  rcases Nat.lt_or_ge i p.length with q | q
  · have hb := now_byte hp q
    have st : i < i + 1 ∧ i + 1 ≤ p.length := ⟨Nat.lt_succ_self _, q⟩
    unfold atomIn readAtom
    rw [at_cons q]
    have e46 : (UInt8.ofNat (now p i) = 46) ↔ now p i = 46 := k_eq 46 (by decide) _ hb
    have e94 : (UInt8.ofNat (now p i) = 94) ↔ now p i = 94 := k_eq 94 (by decide) _ hb
    have e36 : (UInt8.ofNat (now p i) = 36) ↔ now p i = 36 := k_eq 36 (by decide) _ hb
    have e92 : (UInt8.ofNat (now p i) = 92) ↔ now p i = 92 := k_eq 92 (by decide) _ hb
    have e91 : (UInt8.ofNat (now p i) = 91) ↔ now p i = 91 := k_eq 91 (by decide) _ hb
    have e40 : (UInt8.ofNat (now p i) = 40) ↔ now p i = 40 := k_eq 40 (by decide) _ hb
    simp only [e46, e94, e36, e92, e91, e40, at_next]
    by_cases c1 : now p i = 91
    · rw [if_pos c1, if_neg (by omega), if_neg (by omega), if_neg (by omega), if_neg (by omega), if_pos c1]
      have hl : (UInt8.ofNat (now p i) :: (at_ p (i + 1)).b).length + 1 = p.length - i + 1 := by
        rw [← at_cons q, at_b_len]
      rw [hl]
      have hs := set_is hp (i + 1) (p.length - i) (by omega)
      have hn : (at_ p (i + 1)).next = at_ p (i + 1 + 1) := at_next p (i + 1)
      rw [hn] at hs
      generalize itemsIn (p.length - i + 1) false (if (at_ p (i + 1)).is '^' = true then at_ p (i + 1 + 1) else at_ p (i + 1)) = I at hs ⊢
      cases I with
      | error e =>
        cases hr : readSet p (i + 1) with
        | error e' => rw [hr] at hs; cases hs; rfl
        | ok y => obtain ⟨v, k⟩ := y; rw [hr] at hs; cases hs
      | ok z =>
        obtain ⟨l, x⟩ := z
        cases hr : readSet p (i + 1) with
        | error e' => rw [hr] at hs; cases hs
        | ok y =>
          obtain ⟨v, k⟩ := y
          have hk := readSet_lt hr
          rw [hr] at hs
          cases hs
          exact ⟨by omega, hk.2, _, rfl, fun fs lo k e => .byte e fun c hc => rfl⟩
    rw [if_neg c1, if_neg c1]
    by_cases c2 : now p i = 94
    · rw [if_pos c2, if_neg (by omega), if_pos c2]
      exact ⟨st.1, st.2, _, rfl, fun fs lo k e => .begin_ e⟩
    rw [if_neg c2, if_neg c2]
    by_cases c3 : now p i = 36
    · rw [if_pos c3, if_neg (by omega), if_pos c3]
      exact ⟨st.1, st.2, _, rfl, fun fs lo k e => .end_ e⟩
    rw [if_neg c3, if_neg c3]
    by_cases c4 : now p i = 46
    · rw [if_pos c4, if_pos c4]
      exact ⟨st.1, st.2, _, rfl, fun fs lo k e => .byte e fun c hc => dot_set c⟩
    rw [if_neg c4, if_neg c4]
    by_cases c5 : now p i = 92
    · rw [if_pos c5, if_pos c5]
      unfold readEscAtom
      have h98 : (at_ p (i + 1)).b.head? = some 98 ↔ now p (i + 1) = 98 := head_iff hp 98 (by decide)
      have h66 : (at_ p (i + 1)).b.head? = some 66 ↔ now p (i + 1) = 66 := head_iff hp 66 (by decide)
      simp only [h98, h66]
      by_cases d1 : now p (i + 1) = 98
      · have : i + 1 < p.length := lt_of_now (by omega)
        rw [if_pos d1, if_pos d1]
        exact ⟨by omega, by omega, _, rfl, fun fs lo k e => .edge e⟩
      rw [if_neg d1, if_neg d1]
      by_cases d2 : now p (i + 1) = 66
      · have : i + 1 < p.length := lt_of_now (by omega)
        rw [if_pos d2, if_pos d2]
        exact ⟨by omega, by omega, _, rfl, fun fs lo k e => .noEdge e⟩
      rw [if_neg d2, if_neg d2, escaped_is hp]
      cases hr : readEscaped p (i + 1) with
      | error e => rfl
      | ok y =>
        obtain ⟨v, k⟩ := y
        have hk := readEscaped_lt hr
        exact ⟨by omega, hk.2, _, rfl, fun fs lo k e => .byte e fun c hc => one_set v c⟩
    rw [if_neg c5, if_neg c5, if_neg hc]
    unfold readPlain
    rw [k_seen _ hb, k_forms _ hb, k_nat _ hb]
    by_cases c6 : printed (now p i) = true ∧ notPlain.contains (now p i) = false
    · rw [if_pos c6, if_pos c6]
      exact ⟨st.1, st.2, _, rfl, fun fs lo k e => .byte e fun c hc => one_set _ c⟩
    · rw [if_neg c6, if_neg c6]
      rfl
  · have e : readAtom p i = .error (1, i) := by
      unfold readAtom readPlain
      rw [now_ge q]; rfl
    rw [e]
    unfold atomIn
    rw [at_nil q]
    rfl
end PF
/-! Part A5: the machine against the specification's reader, piece by piece. -/
namespace PF
open WrPatt
def Rd.adv (S : Rd) (j h : Nat) (x : List Fm) (L : Lv) : Rd := ⟨j, h, S.forms ++ x, L, S.below⟩
theorem Rd.adv_adv (S : Rd) (j h j' h' : Nat) (x y : List Fm) (L L' : Lv) : (S.adv j h x L).adv j' h' y L' = S.adv j' h' (x ++ y) L' := by
  unfold Rd.adv; simp
theorem Rd.adv_self (S : Rd) : S.adv S.place S.groups [] S.top = S := by
  unfold Rd.adv; simp
def Stop (p : List Nat) (j : Nat) : Prop := p.length ≤ j ∨ now p j = 124 ∨ now p j = 38 ∨ now p j = 41
def StopR (p : List Nat) (j : Nat) : Prop := p.length ≤ j ∨ now p j = 124 ∨ now p j = 41
def StopP (p : List Nat) (j : Nat) : Prop := p.length ≤ j ∨ now p j = 41
theorem stop_iff {p : List Nat} (hp : Ok8 p) (i : Nat) : ((at_ p i).b = [] ∨ (at_ p i).is '|' = true ∨ (at_ p i).is '&' = true ∨ (at_ p i).is ')' = true) ↔ Stop p i := by
  rw [at_b_nil, is_iff hp (by decide), is_iff hp (by decide), is_iff hp (by decide)]
  exact Iff.rfl
theorem bar_iff {p : List Nat} (hp : Ok8 p) (i : Nat) : (at_ p i).is '|' = true ↔ now p i = 124 := is_iff hp (by decide)
theorem amp_iff {p : List Nat} (hp : Ok8 p) (i : Nat) : (at_ p i).is '&' = true ↔ now p i = 38 := is_iff hp (by decide)
theorem shut_iff {p : List Nat} (hp : Ok8 p) (i : Nat) : (at_ p i).is ')' = true ↔ now p i = 41 := is_iff hp (by decide)
theorem tilde_iff {p : List Nat} (hp : Ok8 p) (i : Nat) : (at_ p i).is '~' = true ↔ now p i = 126 := is_iff hp (by decide)
theorem colon_iff {p : List Nat} (hp : Ok8 p) (i : Nat) : (at_ p i).is ':' = true ↔ now p i = 58 := is_iff hp (by decide)
theorem open_iff {p : List Nat} (hp : Ok8 p) {i : Nat} (q : i < p.length) : (UInt8.ofNat (now p i) = 40) ↔ now p i = 40 := k_eq 40 (by decide) _ (now_byte hp q)
/-- counts: the loop behind an atom -/
theorem counts_is {p : List Nat} (hp : Ok8 p) : ∀ (f1 f2 : Nat) (fs : List Fm) (i lo g h : Nat) (a : Pat), p.length - i < f1 → p.length - i < f2 → i ≤ p.length → Lay fs lo fs.length g h a →
    match countsIn f1 a (at_ p i) with
    | .error e => countLoop p f2 fs (fs.length - 1) i = .error e
    | .ok (b, x) => ∃ j fs', x = at_ p j ∧ i ≤ j ∧ j ≤ p.length ∧ countLoop p f2 fs (fs.length - 1) i = .ok (fs ++ fs', (fs ++ fs').length - 1, j) ∧ Lay (fs ++ fs') lo (fs ++ fs').length g h b
  | 0, _, _, _, _, _, _, _, h, _, _, _ => absurd h (Nat.not_lt_zero _)
  | _, 0, _, _, _, _, _, _, _, h, _, _ => absurd h (Nat.not_lt_zero _)
  | f1 + 1, f2 + 1, fs, i, lo, g, h, a, h1, h2, h3, l => by
    rw [countsIn_step hp, countLoop]
    cases e : readCount p i with
    | error e => rfl
    | ok y =>
      obtain ⟨c, j⟩ := y
      cases c with
      | none =>
        have := readCount_none e
        subst this
        exact ⟨j, [], rfl, Nat.le_refl _, h3, by simp, by rw [List.append_nil]; exact l⟩
      | some c =>
        have hj := readCount_lt hp e
        have el : (fs ++ [(⟨.counted, [fs.length - 1], .cnt c.1 c.2⟩ : Fm)]).length = fs.length + 1 := by rw [List.length_append]; rfl
        have l2 : Lay (fs ++ [⟨.counted, [fs.length - 1], .cnt c.1 c.2⟩]) lo (fs ++ [(⟨.counted, [fs.length - 1], .cnt c.1 c.2⟩ : Fm)]).length g h (.rep a c.1 c.2) := by
          rw [el]
          exact .counted l.mono hj.2.2.1 hj.2.2.2 (by rw [List.getElem?_append_right (Nat.le_refl _), Nat.sub_self]; rfl)
        have ih := counts_is hp f1 f2 (fs ++ [⟨.counted, [fs.length - 1], .cnt c.1 c.2⟩]) j lo g h (.rep a c.1 c.2) (by omega) (by omega) hj.2.1 l2
        have ei : (fs ++ [(⟨.counted, [fs.length - 1], .cnt c.1 c.2⟩ : Fm)]).length - 1 = fs.length := by rw [el]; rfl
        rw [ei] at ih
        dsimp only
        cases ec : countsIn f1 (.rep a c.1 c.2) (at_ p j) with
        | error e => rw [ec] at ih; exact ih
        | ok z =>
          obtain ⟨b, x⟩ := z
          rw [ec] at ih
          obtain ⟨k, fs', q1, q2, q3, q4, q5⟩ := ih
          refine ⟨k, [⟨.counted, [fs.length - 1], .cnt c.1 c.2⟩] ++ fs', q1, by omega, q3, ?_, ?_⟩
          · rw [q4]; simp
          · have e2 : fs ++ ([⟨.counted, [fs.length - 1], .cnt c.1 c.2⟩] ++ fs') = fs ++ [(⟨.counted, [fs.length - 1], .cnt c.1 c.2⟩ : Fm)] ++ fs' := by simp
            rw [e2]; exact q5
/-- what follows a step's outcome -/
def Then (p : List Nat) (q r : Except Flt Rd) : Prop := match q with
  | .error e => r = .error e
  | .ok S' => Res p S' r
def PAtom (p : List Nat) (f : Nat) : Prop := ∀ S : Rd, 8 * (p.length - S.place) + 1 ≤ f → S.place < p.length → (S.top.turned = true ∨ notAtoms.contains (now p S.place) = false) → S.groups ≤ 32 →
  match atomIn f S.top.bars S.groups (at_ p S.place) with
  | .error e => Res p S (.error e)
  | .ok (a, h, x) => ∃ j fs', x = at_ p j ∧ S.place < j ∧ j ≤ p.length ∧ h ≤ 32 ∧ Lay (S.forms ++ fs') S.forms.length (S.forms ++ fs').length S.groups h a ∧
    ∀ r, Then p (endPiece p ((S.forms ++ fs').length - 1) (S.adv j h fs' S.top)) r → Res p S r
def PPiece (p : List Nat) (f : Nat) : Prop := ∀ S : Rd, 8 * (p.length - S.place) + 2 ≤ f → ¬ Stop p S.place → S.top.turned = false → S.groups ≤ 32 →
  match pieceIn f S.top.bars S.groups (at_ p S.place) with
  | .error e => Res p S (.error e)
  | .ok (a, h, x) => ∃ j fs', x = at_ p j ∧ S.place < j ∧ j ≤ p.length ∧ h ≤ 32 ∧ Lay (S.forms ++ fs') S.forms.length (S.forms ++ fs').length S.groups h a ∧
    ∀ r, Res p (S.adv j h fs' { S.top with pieces := S.top.pieces ++ [(S.forms ++ fs').length - 1] }) r → Res p S r
def PPart (p : List Nat) (f : Nat) : Prop := ∀ S : Rd, 8 * (p.length - S.place) + 3 ≤ f → S.place ≤ p.length → S.top.turned = false → S.groups ≤ 32 →
  match partIn f S.top.bars S.groups (at_ p S.place) with
  | .error e => Res p S (.error e)
  | .ok (a, h, x) => ∃ j fs' js as, x = at_ p j ∧ S.place ≤ j ∧ j ≤ p.length ∧ Stop p j ∧ h ≤ 32 ∧ a = seqOf as ∧ (¬ Stop p S.place → as ≠ []) ∧ LayL (S.forms ++ fs') S.forms.length (S.forms ++ fs').length S.groups h js as ∧
    ∀ r, Res p (S.adv j h fs' { S.top with pieces := S.top.pieces ++ js }) r → Res p S r
def LayR (F : List Fm) (n0 g h : Nat) (ps js : List Nat) (a : Pat) : Prop := ∃ m k pas as, LayL F n0 m g k ps pas ∧ LayL F m F.length k h js as ∧ a = bothOf (pas ++ [seqOf as])
def LayV (F : List Fm) (n0 g h : Nat) (rs ps js : List Nat) (a : Pat) : Prop := ∃ m k ras b, LayL F n0 m g k rs ras ∧ LayR F m k h ps js b ∧ a = altOf (ras ++ [b])
def PRow (p : List Nat) (f : Nat) : Prop := ∀ S : Rd, 8 * (p.length - S.place) + 4 ≤ f → S.place ≤ p.length → S.top.turned = false → S.top.pieces = [] → S.top.gbp = S.groups → S.groups ≤ 32 →
  match rowIn f S.top.bars S.groups (at_ p S.place) with
  | .error e => Res p S (.error e)
  | .ok (a, h, x) => ∃ j fs' ps js gb, x = at_ p j ∧ S.place ≤ j ∧ j ≤ p.length ∧ StopR p j ∧ h ≤ 32 ∧ LayR (S.forms ++ fs') S.forms.length S.groups h ps js a ∧
    ∀ r, Res p (S.adv j h fs' { S.top with parts := S.top.parts ++ ps, pieces := js, gbp := gb }) r → Res p S r
def PPat (p : List Nat) (f : Nat) : Prop := ∀ S : Rd, 8 * (p.length - S.place) + 5 ≤ f → S.place ≤ p.length → S.top.turned = false → S.top.pieces = [] → S.top.parts = [] → S.top.gbp = S.groups → S.groups ≤ 32 →
  match patternIn f S.top.shut S.groups (at_ p S.place) with
  | .error e => Res p S (.error e)
  | .ok (a, h, x) => ∃ j fs' rs ps js gb, x = at_ p j ∧ S.place ≤ j ∧ j ≤ p.length ∧ StopP p j ∧ h ≤ 32 ∧ LayV (S.forms ++ fs') S.forms.length S.groups h rs ps js a ∧
    ∀ r, Res p (S.adv j h fs' { S.top with rows := S.top.rows ++ rs, parts := ps, pieces := js, gbp := gb }) r → Res p S r

theorem endV_lay {F : List Fm} {n0 g h gg : Nat} {L : Lv} {a : Pat} (l : LayV F n0 g h L.rows L.parts L.pieces a) :
    ∃ x, (endLevelL gg F L).1 = F ++ x ∧ Lay (F ++ x) n0 (F ++ x).length g h a ∧ (endLevelL gg F L).2.2 = (F ++ x).length - 1 := by
  obtain ⟨m, k, ras, b, l1, ⟨m2, k2, pas, as, l2, l3, rfl⟩, rfl⟩ := l
  exact endLevel_lay l1 l2 l3
def gIn (k : Option Nat) (g : Nat) : Nat := match k with
  | none => g
  | some _ => g + 1
def patIn (k : Option Nat) (g : Nat) (a : Pat) : Pat := match k with
  | none => a
  | some _ => .group (g + 1) a
theorem group_lay {F : List Fm} {n0 g h : Nat} {a : Pat} (k : Option Nat) (l : Lay F n0 F.length (gIn k g) h a) (hk : ∀ n, k = some n → n = g + 1) :
    ∃ x, (groupF k F (F.length - 1)).1 = F ++ x ∧ Lay (F ++ x) n0 (F ++ x).length g h (patIn k g a) ∧ (groupF k F (F.length - 1)).2 = (F ++ x).length - 1 := by
  cases k with
  | none => exact ⟨[], by rw [List.append_nil]; rfl, by rw [List.append_nil]; exact l, by rw [List.append_nil]; rfl⟩
  | some n =>
    obtain rfl := hk n rfl
    have e : (F ++ [(⟨.group, [F.length - 1], .num (g + 1)⟩ : Fm)]).length = F.length + 1 := by rw [List.length_append]; rfl
    refine ⟨[⟨.group, [F.length - 1], .num (g + 1)⟩], rfl, ?_, ?_⟩
    · rw [e]
      exact .group l.mono (by rw [List.getElem?_append_right (Nat.le_refl _), Nat.sub_self]; rfl)
    · rw [e]; rfl
theorem res_step {p : List Nat} {S S' : Rd} {r : Except Flt Rd} (h : S.place < p.length) (e : step p S = .ok S') (k : Res p S' r) : Res p S r := .go h e k
theorem res_match {p : List Nat} {S : Rd} {q r : Except Flt Rd} (h : S.place < p.length) (e : step p S = q) (k : Then p q r) : Res p S r := by
  unfold Then at k
  cases q with
  | error e' => rw [k]; exact .err h e
  | ok S' => exact .go h e k
theorem res_end {p : List Nat} {S : Rd} (h : p.length ≤ S.place) (b : S.below ≠ [] ∨ S.top.turned = true) : Res p S (.error (1, S.place)) := by
  have e : finish S = .error (1, S.place) := if_pos b
  rw [← e]
  exact .fin h
theorem bars_open {L : Lv} (h : L.turned = false) (h2 : L.parts = []) : L.bars = L.shut := by
  unfold Lv.bars; rw [h, h2]; simp
theorem step_close {p : List Nat} {S : Rd} (h : now p S.place = 41) (t : S.top.turned = false) : step p S = closeBracket p S := by
  unfold step
  rw [if_neg (by omega), if_neg (by rw [t, h]; decide), if_neg (by omega), if_neg (by omega), if_neg (by omega)]
/-- behind a bracket's inside: the closing one, or the end -/
theorem close_sim {p : List Nat} {S S1 : Rd} {f h h' g' : Nat} {k : Option Nat} {a : Pat} {x : In} (hp : Ok8 p) (hb : S1.below = S.top :: S.below) (hf : S1.forms = S.forms) (ht : S1.top = Lv.new S.top.bars g' k) (hg' : S1.groups = g') (hpl : S.place < S1.place)
    (hk : ∀ n, k = some n → n = S.groups + 1) (eg : g' = gIn k S.groups)
    (hs : ∀ r, Res p S1 r → Res p S r)
    (q : ∃ j fs' rs ps js gb, x = at_ p j ∧ S1.place ≤ j ∧ j ≤ p.length ∧ StopP p j ∧ h ≤ 32 ∧ LayV (S1.forms ++ fs') S1.forms.length S1.groups h rs ps js a ∧
      ∀ r, Res p (S1.adv j h fs' { S1.top with rows := S1.top.rows ++ rs, parts := ps, pieces := js, gbp := gb }) r → Res p S1 r) :
    match (if x.is ')' = true then .ok (patIn k S.groups a, h, x.next) else bad x : Read) with
    | .error e => Res p S (.error e)
    | .ok (a, h, x) => ∃ j fs', x = at_ p j ∧ S.place < j ∧ j ≤ p.length ∧ h ≤ 32 ∧ Lay (S.forms ++ fs') S.forms.length (S.forms ++ fs').length S.groups h a ∧
      ∀ r, Then p (endPiece p ((S.forms ++ fs').length - 1) (S.adv j h fs' S.top)) r → Res p S r := by
  obtain ⟨j, fs', rs, ps, js, gb, rfl, q1, q2, q3, q4, q5, q6⟩ := q
  by_cases c : now p j = 41
  · rw [if_pos ((shut_iff hp j).mpr c)]
    have hj : j < p.length := lt_of_now (by omega)
    rw [hf, hg'] at q5
    have q5' : LayV (S.forms ++ fs') S.forms.length g' h ({ S1.top with rows := S1.top.rows ++ rs, parts := ps, pieces := js, gbp := gb } : Lv).rows ps js a := by
      have e : ({ S1.top with rows := S1.top.rows ++ rs, parts := ps, pieces := js, gbp := gb } : Lv).rows = rs := by
        show S1.top.rows ++ rs = rs
        rw [ht]; rfl
      rw [e]; exact q5
    obtain ⟨x, e1, l1, w1⟩ := endV_lay (gg := h) (L := { S1.top with rows := S1.top.rows ++ rs, parts := ps, pieces := js, gbp := gb }) q5'
    rw [eg] at l1
    obtain ⟨y, e2, l2, w2⟩ := group_lay k l1 hk
    refine ⟨j + 1, fs' ++ x ++ y, at_next p j, by omega, by omega, q4, ?_, fun r hr => ?_⟩
    · have e : S.forms ++ (fs' ++ x ++ y) = S.forms ++ fs' ++ x ++ y := by simp
      rw [e]; exact l2
    · refine hs r (q6 r (res_match hj (step_close (S := S1.adv j h fs' { S1.top with rows := S1.top.rows ++ rs, parts := ps, pieces := js, gbp := gb }) c (by show S1.top.turned = false; rw [ht]; rfl)) ?_))
      have ec : closeBracket p (S1.adv j h fs' { S1.top with rows := S1.top.rows ++ rs, parts := ps, pieces := js, gbp := gb }) = endPiece p ((S.forms ++ (fs' ++ x ++ y)).length - 1) (S.adv (j + 1) h (fs' ++ x ++ y) S.top) := by
        unfold closeBracket
        show (match S1.below with | [] => _ | l :: r => _) = _
        rw [hb]
        dsimp only
        have ef : (S1.adv j h fs' { S1.top with rows := S1.top.rows ++ rs, parts := ps, pieces := js, gbp := gb }).forms = S.forms ++ fs' := by show S1.forms ++ fs' = _; rw [hf]
        have et : (S1.adv j h fs' { S1.top with rows := S1.top.rows ++ rs, parts := ps, pieces := js, gbp := gb }).top.group = k := by show S1.top.group = k; rw [ht]; rfl
        rw [ef, et]
        show endPiece p (groupF k (endLevelL h (S.forms ++ fs') _).1 (endLevelL h (S.forms ++ fs') _).2.2).2 _ = _
        show endPiece p (groupF k (endLevelL h (S.forms ++ fs') { S1.top with rows := S1.top.rows ++ rs, parts := ps, pieces := js, gbp := gb }).1 (endLevelL h (S.forms ++ fs') { S1.top with rows := S1.top.rows ++ rs, parts := ps, pieces := js, gbp := gb }).2.2).2 ⟨j + 1, h, (groupF k (endLevelL h (S.forms ++ fs') { S1.top with rows := S1.top.rows ++ rs, parts := ps, pieces := js, gbp := gb }).1 (endLevelL h (S.forms ++ fs') { S1.top with rows := S1.top.rows ++ rs, parts := ps, pieces := js, gbp := gb }).2.2).1, S.top, S.below⟩ = _
        rw [e1, w1, e2, w2]
        have e : S.forms ++ (fs' ++ x ++ y) = S.forms ++ fs' ++ x ++ y := by simp
        unfold Rd.adv
        rw [e]
      rw [ec]
      exact hr
  · rw [if_neg (fun z => c ((shut_iff hp j).mp z))]
    have hj : p.length ≤ j := by
      rcases q3 with q | q
      · exact q
      · exact absurd q c
    refine hs _ (q6 _ ?_)
    exact res_end (S := S1.adv j h fs' { S1.top with rows := S1.top.rows ++ rs, parts := ps, pieces := js, gbp := gb }) hj (.inl (by show S1.below ≠ []; rw [hb]; simp))
end PF
/-! Part A6: the simulation, and what the reader comes to. -/
namespace PF
open WrPatt
/-- what the specification reads from an opening bracket on -/
theorem atom_open {p : List Nat} (hp : Ok8 p) (f : Nat) (no : Bool) (g : Nat) {i : Nat} (c : now p i = 40) : atomIn (f + 1) no g (at_ p i) = if now p (i + 1) = 58 then (match patternIn f no g (at_ p (i + 2)) with
      | .error e => .error e
      | .ok (a, h, x) => if x.is ')' = true then .ok (patIn none g a, h, x.next) else bad x)
    else if no = true ∨ 32 ≤ g then .error (4, i) else match patternIn f no (g + 1) (at_ p (i + 1)) with
      | .error e => .error e
      | .ok (a, h, x) => if x.is ')' = true then .ok (patIn (some (g + 1)) g a, h, x.next) else bad x := by
  have hi : i < p.length := lt_of_now (by omega)
  have hcol : (at_ p (i + 1)).is ':' = decide (now p (i + 1) = 58) := is_dec hp _ ':' (by decide)
  unfold atomIn
  rw [at_cons hi, c, at_next, at_next, hcol]
  show (let plain := decide (now p (i + 1) = 58)
    if plain = false ∧ (no = true ∨ GROUPS ≤ g) then .error (4, (at_ p i).p) else
        match patternIn f no (if plain = true then g else g + 1) (if plain = true then at_ p (i + 1 + 1) else at_ p (i + 1)) with
        | .error e => .error e
        | .ok (a, h, x) => if x.is ')' = true then .ok (if plain = true then a else .group (g + 1) a, h, x.next) else bad x : Read) = _
  by_cases c2 : now p (i + 1) = 58
  · rw [decide_eq_true c2, if_pos c2]
    dsimp only
    rw [if_neg (fun z => Bool.noConfusion z.1), if_pos rfl, if_pos rfl]
    rfl
  · rw [decide_eq_false c2, if_neg c2]
    dsimp only
    by_cases c3 : no = true ∨ 32 ≤ g
    · rw [if_pos c3, if_pos ⟨rfl, c3⟩]
      rfl
    · rw [if_neg c3, if_neg (fun z => c3 z.2), if_neg (fun z => Bool.noConfusion z), if_neg (fun z => Bool.noConfusion z)]
      rfl
theorem pAtom {p : List Nat} (hp : Ok8 p) {f : Nat} (ih : PPat p f) : PAtom p (f + 1) := by
  intro S hf hi ht hg
  by_cases c : now p S.place = 40
  · -- a bracket
    have hstep : step p S = openBracket p S := by unfold step; rw [if_pos c]
    rw [atom_open hp f S.top.bars S.groups c]
    by_cases c2 : now p (S.place + 1) = 58
    · have hl : S.place + 1 < p.length := lt_of_now (by omega)
      rw [if_pos c2]
      have ho : step p S = .ok { S with place := S.place + 2, top := Lv.new S.top.bars S.groups none, below := S.top :: S.below } := by rw [hstep]; unfold openBracket; rw [if_pos c2]
      have q := ih { S with place := S.place + 2, top := Lv.new S.top.bars S.groups none, below := S.top :: S.below } (by show 8 * (p.length - (S.place + 2)) + 5 ≤ f; omega) (by show S.place + 2 ≤ p.length; omega) rfl rfl rfl rfl hg
      have q' : match patternIn f S.top.bars S.groups (at_ p (S.place + 2)) with
        | .error e => Res p { S with place := S.place + 2, top := Lv.new S.top.bars S.groups none, below := S.top :: S.below } (.error e)
        | .ok (a, h, x) => _ := q
      cases ep : patternIn f S.top.bars S.groups (at_ p (S.place + 2)) with
      | error e =>
        rw [ep] at q'
        exact .go hi ho q'
      | ok z =>
        obtain ⟨a, h, x⟩ := z
        rw [ep] at q'
        obtain ⟨j, fs', rs, ps, js, gb, q1, q2, q3, q4, q5, q6, q7⟩ := q'
        exact close_sim (S := S) (S1 := { S with place := S.place + 2, top := Lv.new S.top.bars S.groups none, below := S.top :: S.below }) (f := 0) (h' := 0) (k := none) (g' := S.groups) hp rfl rfl rfl rfl (by show S.place < S.place + 2; omega) (fun n z => by cases z) rfl (fun r hr => .go hi ho hr) ⟨j, fs', rs, ps, js, gb, q1, q2, q3, q4, q5, q6, q7⟩
    · rw [if_neg c2]
      by_cases c3 : S.top.bars = true ∨ S.groups = 32
      · rw [if_pos (by rcases c3 with c3 | c3; exact .inl c3; exact .inr (by rw [c3]; decide) : S.top.bars = true ∨ 32 ≤ S.groups)]
        exact .err hi (by rw [hstep]; unfold openBracket; rw [if_neg c2, if_pos c3])
      · have c4 : ¬ (S.top.bars = true ∨ 32 ≤ S.groups) := fun z => by
          rcases z with w | w
          · exact c3 (.inl w)
          · exact c3 (.inr (Nat.le_antisymm hg w))
        rw [if_neg c4]
        have ho : step p S = .ok { S with place := S.place + 1, groups := S.groups + 1, top := Lv.new S.top.bars (S.groups + 1) (some (S.groups + 1)), below := S.top :: S.below } := by rw [hstep]; unfold openBracket; rw [if_neg c2, if_neg c3]
        have hg2 : S.groups + 1 ≤ 32 := by
          have : S.groups ≠ 32 := fun z => c3 (.inr z)
          omega
        have q := ih { S with place := S.place + 1, groups := S.groups + 1, top := Lv.new S.top.bars (S.groups + 1) (some (S.groups + 1)), below := S.top :: S.below } (by show 8 * (p.length - (S.place + 1)) + 5 ≤ f; omega) (by show S.place + 1 ≤ p.length; omega) rfl rfl rfl rfl hg2
        have q' : match patternIn f S.top.bars (S.groups + 1) (at_ p (S.place + 1)) with
          | .error e => Res p { S with place := S.place + 1, groups := S.groups + 1, top := Lv.new S.top.bars (S.groups + 1) (some (S.groups + 1)), below := S.top :: S.below } (.error e)
          | .ok (a, h, x) => _ := q
        cases ep : patternIn f S.top.bars (S.groups + 1) (at_ p (S.place + 1)) with
        | error e =>
          rw [ep] at q'
          exact .go hi ho q'
        | ok z =>
          obtain ⟨a, h, x⟩ := z
          rw [ep] at q'
          obtain ⟨j, fs', rs, ps, js, gb, q1, q2, q3, q4, q5, q6, q7⟩ := q'
          exact close_sim (S := S) (S1 := { S with place := S.place + 1, groups := S.groups + 1, top := Lv.new S.top.bars (S.groups + 1) (some (S.groups + 1)), below := S.top :: S.below }) (f := 0) (h' := 0) (k := some (S.groups + 1)) (g' := S.groups + 1) hp rfl rfl rfl rfl (by show S.place < S.place + 1; omega) (fun n z => by cases z; rfl) rfl (fun r hr => .go hi ho hr) ⟨j, fs', rs, ps, js, gb, q1, q2, q3, q4, q5, q6, q7⟩
  · -- another atom
    have hstep : step p S = atomStep p S := by unfold step; rw [if_neg c, if_pos ht]
    have q := atom_is hp f S.top.bars S.groups S.place c
    cases er : readAtom p S.place with
    | error e =>
      rw [er] at q
      have q' : atomIn (f + 1) S.top.bars S.groups (at_ p S.place) = .error e := q
      rw [q']
      exact .err hi (by rw [hstep]; unfold atomStep; rw [er])
    | ok y =>
      obtain ⟨fm, j⟩ := y
      rw [er] at q
      obtain ⟨q1, q2, a, q3, q4⟩ := q
      rw [q3]
      have el : (S.forms ++ [fm]).length = S.forms.length + 1 := by rw [List.length_append]; rfl
      refine ⟨j, [fm], rfl, q1, q2, hg, ?_, fun r hr => ?_⟩
      · rw [el]
        exact q4 _ _ _ (by rw [List.getElem?_append_right (Nat.le_refl _), Nat.sub_self]; rfl)
      · refine res_match hi hstep ?_
        have e : atomStep p S = endPiece p ((S.forms ++ [fm]).length - 1) (S.adv j S.groups [fm] S.top) := by
          unfold atomStep
          rw [er, el]
          rfl
        rw [e]
        exact hr
/-- behind an atom: its counts, a ~ ahead -/
theorem endPiece_sim {p : List Nat} (hp : Ok8 p) {S : Rd} {n0 g : Nat} {a : Pat} (hi : S.place ≤ p.length) (l : Lay S.forms n0 S.forms.length g S.groups a) :
    match countsIn ((at_ p S.place).b.length + 1) a (at_ p S.place) with
    | .error e => endPiece p (S.forms.length - 1) S = .error e
    | .ok (b, x) => ∃ j fs', x = at_ p j ∧ S.place ≤ j ∧ j ≤ p.length ∧ Lay (S.forms ++ fs') n0 (S.forms ++ fs').length g S.groups (if S.top.turned = true then .not_ b else b) ∧
      endPiece p (S.forms.length - 1) S = .ok (S.adv j S.groups fs' { S.top with turned := false, pieces := S.top.pieces ++ [(S.forms ++ fs').length - 1] }) := by
  have q := counts_is hp ((at_ p S.place).b.length + 1) (p.length + 1) S.forms S.place n0 g S.groups a (by rw [at_b_len]; omega) (by omega) hi l
  unfold endPiece
  cases ec : countsIn ((at_ p S.place).b.length + 1) a (at_ p S.place) with
  | error e =>
    rw [ec] at q
    have q' : countLoop p (p.length + 1) S.forms (S.forms.length - 1) S.place = .error e := q
    rw [q']
  | ok z =>
    obtain ⟨b, x⟩ := z
    rw [ec] at q
    obtain ⟨j, fs', q1, q2, q3, q4, q5⟩ := q
    rw [q4]
    cases ht : S.top.turned with
    | false =>
      exact ⟨j, fs', q1, q2, q3, q5, rfl⟩
    | true =>
      have el : (S.forms ++ fs' ++ [(⟨.turned, [(S.forms ++ fs').length - 1], .non⟩ : Fm)]).length = (S.forms ++ fs').length + 1 := by rw [List.length_append]; rfl
      have ea : S.forms ++ (fs' ++ [(⟨.turned, [(S.forms ++ fs').length - 1], .non⟩ : Fm)]) = S.forms ++ fs' ++ [⟨.turned, [(S.forms ++ fs').length - 1], .non⟩] := by simp
      refine ⟨j, fs' ++ [⟨.turned, [(S.forms ++ fs').length - 1], .non⟩], q1, q2, q3, ?_, ?_⟩
      · rw [ea, el]
        exact .turned q5.mono (by rw [List.getElem?_append_right (Nat.le_refl _), Nat.sub_self]; rfl)
      · unfold Rd.adv
        rw [ea, el]
        rfl
theorem not_stop {p : List Nat} {i : Nat} (h : ¬ Stop p i) : i < p.length ∧ now p i ≠ 124 ∧ now p i ≠ 38 ∧ now p i ≠ 41 := by
  unfold Stop at h
  omega
theorem pPiece {p : List Nat} (hp : Ok8 p) {f : Nat} (ih : PAtom p f) : PPiece p (f + 1) := by
  intro S hf hn ht hg
  obtain ⟨hi, n1, n2, n3⟩ := not_stop hn
  unfold pieceIn
  dsimp only
  have ht' := tilde_iff hp S.place
  -- from a state whose atom is to be read: the atom, its counts
  have go : ∀ (S1 : Rd), 8 * (p.length - S1.place) + 1 ≤ f → S1.place < p.length → (S1.top.turned = true ∨ notAtoms.contains (now p S1.place) = false) → S1.groups = S.groups → S1.forms = S.forms → S.place ≤ S1.place → S1.below = S.below →
      { S1.top with turned := false } = S.top → (∀ r, Res p S1 r → Res p S r) →
      match (match atomIn f S1.top.bars S.groups (at_ p S1.place) with
        | .error e => .error e
        | .ok (a, h, x) => match countsIn (x.b.length + 1) a x with
          | .error e => .error e
          | .ok (b, y) => .ok (if S1.top.turned = true then .not_ b else b, h, y) : Read) with
      | .error e => Res p S (.error e)
      | .ok (a, h, x) => ∃ j fs', x = at_ p j ∧ S.place < j ∧ j ≤ p.length ∧ h ≤ 32 ∧ Lay (S.forms ++ fs') S.forms.length (S.forms ++ fs').length S.groups h a ∧
        ∀ r, Res p (S.adv j h fs' { S.top with pieces := S.top.pieces ++ [(S.forms ++ fs').length - 1] }) r → Res p S r := by
    intro S1 k1 k2 k3 k4 k5 k6 k7 k8 k9
    have q := ih S1 k1 k2 k3 (by rw [k4]; exact hg)
    rw [k4, k5] at q
    cases ea : atomIn f S1.top.bars S.groups (at_ p S1.place) with
    | error e =>
      rw [ea] at q
      exact k9 _ q
    | ok z =>
      obtain ⟨a, h, x⟩ := z
      rw [ea] at q
      obtain ⟨j, fs', rfl, q1, q2, q3, q4, q5⟩ := q
      dsimp only
      have s := endPiece_sim hp (S := S1.adv j h fs' S1.top) (n0 := S.forms.length) (g := S.groups) (a := a) q2 (by show Lay (S1.forms ++ fs') _ (S1.forms ++ fs').length _ h a; rw [k5]; exact q4)
      have s' : match countsIn ((at_ p j).b.length + 1) a (at_ p j) with
        | .error e => endPiece p ((S1.forms ++ fs').length - 1) (S1.adv j h fs' S1.top) = .error e
        | .ok (b, x) => ∃ j' fs'', x = at_ p j' ∧ j ≤ j' ∧ j' ≤ p.length ∧ Lay ((S1.forms ++ fs') ++ fs'') S.forms.length ((S1.forms ++ fs') ++ fs'').length S.groups h (if S1.top.turned = true then .not_ b else b) ∧
          endPiece p ((S1.forms ++ fs').length - 1) (S1.adv j h fs' S1.top) = .ok ((S1.adv j h fs' S1.top).adv j' h fs'' { S1.top with turned := false, pieces := S1.top.pieces ++ [((S1.forms ++ fs') ++ fs'').length - 1] }) := s
      rw [k5] at s'
      cases ec : countsIn ((at_ p j).b.length + 1) a (at_ p j) with
      | error e =>
        rw [ec] at s'
        refine k9 _ (q5 _ ?_)
        rw [s']
        rfl
      | ok z =>
        obtain ⟨b, y⟩ := z
        rw [ec] at s'
        obtain ⟨j', fs'', rfl, w1, w2, w3, w4⟩ := s'
        refine ⟨j', fs' ++ fs'', rfl, by omega, w2, q3, ?_, fun r hr => k9 _ (q5 _ ?_)⟩
        · have e : S.forms ++ (fs' ++ fs'') = S.forms ++ fs' ++ fs'' := by simp
          rw [e]; exact w3
        · rw [w4, Rd.adv_adv]
          have e : S.forms ++ (fs' ++ fs'') = S.forms ++ fs' ++ fs'' := by simp
          show Res p _ r
          have es : S1.adv j' h (fs' ++ fs'') { S1.top with turned := false, pieces := S1.top.pieces ++ [((S.forms ++ fs') ++ fs'').length - 1] } = S.adv j' h (fs' ++ fs'') { S.top with pieces := S.top.pieces ++ [(S.forms ++ (fs' ++ fs'')).length - 1] } := by
            unfold Rd.adv
            rw [k5, k7, e]
            congr 1
            rw [← k8]
          rw [es]
          exact hr
  by_cases c : now p S.place = 126
  · have hc := ht'.mpr c
    rw [hc]
    rw [if_pos rfl, at_next]
    have hb : (S.top.bars || true) = ({ S.top with turned := true } : Lv).bars := by
      unfold Lv.bars; simp
    rw [hb]
    have hstep : step p S = .ok { S with place := S.place + 1, top := { S.top with turned := true } } := by
      unfold step
      rw [if_neg (by omega), if_neg (by rw [ht, c]; decide), if_pos c]
    rcases Nat.lt_or_ge (S.place + 1) p.length with q | q
    · have := go { S with place := S.place + 1, top := { S.top with turned := true } } (by show 8 * (p.length - (S.place + 1)) + 1 ≤ f; omega) q (.inl rfl) rfl rfl (by show S.place ≤ S.place + 1; omega) rfl (by show ({ S.top with turned := false } : Lv) = S.top; rw [← ht]) (fun r hr => .go hi hstep hr)
      exact this
    · -- a ~ at the end
      obtain ⟨f', rfl⟩ : ∃ f', f = f' + 1 := ⟨f - 1, by omega⟩
      unfold atomIn
      rw [at_nil q]
      refine .go hi hstep ?_
      exact res_end (S := { S with place := S.place + 1, top := { S.top with turned := true } }) q (.inr rfl)
  · have hc : (at_ p S.place).is '~' = S.top.turned := by
      rw [ht]
      cases e : (at_ p S.place).is '~'
      · rfl
      · exact absurd (ht'.mp e) c
    have hb : (S.top.bars || S.top.turned) = S.top.bars := by rw [ht, Bool.or_false]
    have hx : (if S.top.turned = true then (at_ p S.place).next else at_ p S.place) = at_ p S.place := if_neg (by rw [ht]; exact Bool.noConfusion)
    rw [hc, hx, hb]
    have hna : notAtoms.contains (now p S.place) = false := by
      simp [notAtoms, c, n1, n2, n3]
    have := go S (by omega) hi (.inr hna) rfl rfl (Nat.le_refl _) rfl (by rw [← ht]) (fun r hr => hr)
    exact this
end PF
/-! Part A7: rows of pieces, parts, whole patterns; what the reader comes to. -/
namespace PF
open WrPatt
theorem pPart {p : List Nat} (hp : Ok8 p) {f : Nat} (ih1 : PPiece p f) (ih2 : PPart p f) : PPart p (f + 1) := by
  intro S hf hi ht hg
  unfold partIn
  by_cases c : Stop p S.place
  · rw [if_pos ((stop_iff hp _).mpr c)]
    refine ⟨S.place, [], [], [], rfl, Nat.le_refl _, hi, c, hg, rfl, fun h => absurd c h, by rw [List.append_nil]; exact .nil, fun r hr => ?_⟩
    have e : S.adv S.place S.groups [] { S.top with pieces := S.top.pieces ++ [] } = S := by
      unfold Rd.adv; simp
    rw [e] at hr
    exact hr
  · rw [if_neg (fun z => c ((stop_iff hp _).mp z))]
    have hlt := (not_stop c).1
    have q := ih1 S (by omega) c ht hg
    cases ea : pieceIn f S.top.bars S.groups (at_ p S.place) with
    | error e => rw [ea] at q; exact q
    | ok z =>
      obtain ⟨a, h, x⟩ := z
      rw [ea] at q
      obtain ⟨j, fs', rfl, q1, q2, q3, q4, q5⟩ := q
      dsimp only
      by_cases c2 : Stop p j
      · rw [if_pos ((stop_iff hp _).mpr c2)]
        exact ⟨j, fs', [(S.forms ++ fs').length - 1], [a], rfl, Nat.le_of_lt q1, q2, c2, q3, rfl, fun _ => by simp, .cons q4 .nil, q5⟩
      · rw [if_neg (fun z => c2 ((stop_iff hp _).mp z))]
        have w := ih2 (S.adv j h fs' { S.top with pieces := S.top.pieces ++ [(S.forms ++ fs').length - 1] }) (by show 8 * (p.length - j) + 3 ≤ f; omega) q2 ht q3
        have w' : match partIn f S.top.bars h (at_ p j) with
          | .error e => Res p (S.adv j h fs' { S.top with pieces := S.top.pieces ++ [(S.forms ++ fs').length - 1] }) (.error e)
          | .ok (a, h', x) => _ := w
        cases eb : partIn f S.top.bars h (at_ p j) with
        | error e => rw [eb] at w'; exact q5 _ w'
        | ok z =>
          obtain ⟨b, k, y⟩ := z
          rw [eb] at w'
          obtain ⟨j2, fs2, js, as, rfl, w1, w2, w3, w4, rfl, w6, w7, w8⟩ := w'
          have hne : as ≠ [] := w6 c2
          have e : S.forms ++ (fs' ++ fs2) = S.forms ++ fs' ++ fs2 := by simp
          refine ⟨j2, fs' ++ fs2, ((S.forms ++ fs').length - 1) :: js, a :: as, rfl, ?_, w2, w3, w4, ?_, fun _ => by simp, ?_, fun r hr => q5 r (w8 r ?_)⟩
          · have : j ≤ j2 := w1
            omega
          · cases as with
            | nil => exact absurd rfl hne
            | cons b r => rfl
          · rw [e]
            exact .cons q4.mono w7
          · have es : (S.adv j h fs' { S.top with pieces := S.top.pieces ++ [(S.forms ++ fs').length - 1] }).adv j2 k fs2 { S.top with pieces := (S.top.pieces ++ [(S.forms ++ fs').length - 1]) ++ js } = S.adv j2 k (fs' ++ fs2) { S.top with pieces := S.top.pieces ++ (((S.forms ++ fs').length - 1) :: js) } := by
              rw [Rd.adv_adv]
              simp
            show Res p ((S.adv j h fs' { S.top with pieces := S.top.pieces ++ [(S.forms ++ fs').length - 1] }).adv j2 k fs2 { S.top with pieces := (S.top.pieces ++ [(S.forms ++ fs').length - 1]) ++ js }) r
            rw [es]
            exact hr
/-- a part's end -/
theorem endPart_lay {F : List Fm} {n0 g h gg : Nat} {L : Lv} {as : List Pat} (l : LayL F n0 F.length g h L.pieces as) : ∃ x, (endPartL gg F L).1 = F ++ x ∧ Lay (F ++ x) n0 (F ++ x).length g h (seqOf as) ∧ (endPartL gg F L).2 = { L with parts := L.parts ++ [(F ++ x).length - 1], pieces := [], gbp := gg } := by
  obtain ⟨x1, e1, k1, w1⟩ := keepJoined_lay (kd := .row) (op := seqOf) l (fun _ => rfl) fun x l n e => .row l n e
  refine ⟨x1, e1, k1, ?_⟩
  show ({ L with parts := L.parts ++ [(keepJoined .row F L.pieces).2], pieces := [], gbp := gg } : Lv) = _
  rw [w1]
theorem endRow_lay {F : List Fm} {n0 g h gg : Nat} {L : Lv} {a : Pat} (l : LayR F n0 g h L.parts L.pieces a) : ∃ x, (endRowL gg F L).1 = F ++ x ∧ Lay (F ++ x) n0 (F ++ x).length g h a ∧ (endRowL gg F L).2 = { L with rows := L.rows ++ [(F ++ x).length - 1], parts := [], pieces := [], gbp := gg } := by
  obtain ⟨m, k, pas, as, l1, l2, rfl⟩ := l
  obtain ⟨x1, e1, k1, w1⟩ := endPart_lay (gg := gg) l2
  have p2 : LayL (F ++ x1) n0 (F ++ x1).length g h (L.parts ++ [(F ++ x1).length - 1]) (pas ++ [seqOf as]) := l1.mono.snoc k1
  obtain ⟨x2, e2, k2, w2⟩ := keepJoined_lay (kd := .both) (op := bothOf) p2 (fun _ => rfl) fun x l n e => .both l (Nat.lt_of_le_of_ne (by rw [List.length_append]; exact Nat.le_add_left _ _) (Ne.symm n)) e
  have e : F ++ (x1 ++ x2) = F ++ x1 ++ x2 := by simp
  refine ⟨x1 ++ x2, ?_, ?_, ?_⟩
  · show (keepJoined .both (endPartL gg F L).1 (endPartL gg F L).2.parts).1 = _
    rw [e1, w1, e]
    exact e2
  · rw [e]; exact k2
  · show ({ (endPartL gg F L).2 with rows := (endPartL gg F L).2.rows ++ [(keepJoined .both (endPartL gg F L).1 (endPartL gg F L).2.parts).2], parts := [] } : Lv) = _
    rw [e1, w1]
    dsimp only
    rw [w2, e]
theorem pRow {p : List Nat} (hp : Ok8 p) {f : Nat} (ih1 : PPart p f) (ih2 : PRow p f) : PRow p (f + 1) := by
  intro S hf hi ht hpc hgb hg
  unfold rowIn
  have q := ih1 S (by omega) hi ht hg
  cases ea : partIn f S.top.bars S.groups (at_ p S.place) with
  | error e => rw [ea] at q; exact q
  | ok z =>
    obtain ⟨a, h, x⟩ := z
    rw [ea] at q
    obtain ⟨j, fs', js, as, rfl, q1, q2, q3, q4, rfl, _, q7, q8⟩ := q
    dsimp only
    rw [hpc, List.nil_append] at q8
    by_cases c : now p j = 38
    · rw [if_pos ((amp_iff hp j).mpr c)]
      have hj : j < p.length := lt_of_now (by omega)
      have hstep : step p (S.adv j h fs' { S.top with pieces := js }) = passBoth (S.adv j h fs' { S.top with pieces := js }) := by
        unfold step
        show (if now p j = 40 then _ else if S.top.turned = true ∨ notAtoms.contains (now p j) = false then _ else if now p j = 126 then _ else if now p j = 124 then _ else if now p j = 38 then _ else _) = _
        rw [if_neg (by omega), if_neg (by rw [ht, c]; decide), if_neg (by omega), if_neg (by omega), if_pos c]
      by_cases c2 : S.groups < h
      · rw [if_pos c2]
        refine q8 _ (.err hj ?_)
        rw [hstep]
        unfold passBoth
        exact if_pos (show S.top.gbp < h by rw [hgb]; exact c2)
      · rw [if_neg c2]
        obtain ⟨x, e1, k1, w1⟩ := endPart_lay (gg := h) (L := { S.top with pieces := js }) q7
        have hs2 : step p (S.adv j h fs' { S.top with pieces := js }) = .ok (S.adv (j + 1) h (fs' ++ x) { S.top with parts := S.top.parts ++ [(S.forms ++ (fs' ++ x)).length - 1], pieces := [], gbp := h }) := by
          rw [hstep]
          unfold passBoth
          refine (if_neg (show ¬ S.top.gbp < h by rw [hgb]; exact c2)).trans ?_
          show Except.ok (⟨j + 1, h, (endPartL h (S.forms ++ fs') { S.top with pieces := js }).1, (endPartL h (S.forms ++ fs') { S.top with pieces := js }).2, S.below⟩ : Rd) = _
          rw [e1, w1]
          unfold Rd.adv
          simp
        have w := ih2 (S.adv (j + 1) h (fs' ++ x) { S.top with parts := S.top.parts ++ [(S.forms ++ (fs' ++ x)).length - 1], pieces := [], gbp := h }) (by show 8 * (p.length - (j + 1)) + 4 ≤ f; omega) (by show j + 1 ≤ p.length; omega) ht rfl rfl q4
        have hb : (S.adv (j + 1) h (fs' ++ x) { S.top with parts := S.top.parts ++ [(S.forms ++ (fs' ++ x)).length - 1], pieces := [], gbp := h }).top.bars = true := by
          unfold Lv.bars
          show (S.top.shut || (S.top.turned || decide (0 < (S.top.parts ++ [(S.forms ++ (fs' ++ x)).length - 1]).length))) = true
          rw [decide_eq_true (by rw [List.length_append, List.length_singleton]; omega)]
          simp
        rw [hb] at w
        have w' : match rowIn f true h (at_ p (j + 1)) with
          | .error e => Res p (S.adv (j + 1) h (fs' ++ x) { S.top with parts := S.top.parts ++ [(S.forms ++ (fs' ++ x)).length - 1], pieces := [], gbp := h }) (.error e)
          | .ok (a, h', x) => _ := w
        rw [at_next]
        cases eb : rowIn f true h (at_ p (j + 1)) with
        | error e => rw [eb] at w'; exact q8 _ (.go hj hs2 w')
        | ok z =>
          obtain ⟨b, k, y⟩ := z
          rw [eb] at w'
          obtain ⟨j2, fs2, ps, js2, gb, rfl, w1', w2, w3, w4, ⟨m, kk, pas, as2, l1, l2, rfl⟩, w6⟩ := w'
          have e : S.forms ++ (fs' ++ x ++ fs2) = S.forms ++ (fs' ++ x) ++ fs2 := by simp
          have e' : S.forms ++ (fs' ++ x) = S.forms ++ fs' ++ x := by simp
          refine ⟨j2, fs' ++ x ++ fs2, ((S.forms ++ (fs' ++ x)).length - 1) :: ps, js2, gb, rfl, ?_, w2, w3, w4, ⟨m, kk, seqOf as :: pas, as2, ?_, ?_, ?_⟩, fun r hr => q8 r (.go hj hs2 (w6 r ?_))⟩
          · have : j + 1 ≤ j2 := w1'
            omega
          · rw [e]
            refine .cons (Lay.mono ?_) l1
            rw [e']; exact k1
          · rw [e]; exact l2
          · cases pas with
            | nil => rfl
            | cons b r => rfl
          · have es : (S.adv (j + 1) h (fs' ++ x) { S.top with parts := S.top.parts ++ [(S.forms ++ (fs' ++ x)).length - 1], pieces := [], gbp := h }).adv j2 k fs2 { S.top with parts := (S.top.parts ++ [(S.forms ++ (fs' ++ x)).length - 1]) ++ ps, pieces := js2, gbp := gb } = S.adv j2 k (fs' ++ x ++ fs2) { S.top with parts := S.top.parts ++ (((S.forms ++ (fs' ++ x)).length - 1) :: ps), pieces := js2, gbp := gb } := by
              rw [Rd.adv_adv]
              simp
            show Res p ((S.adv (j + 1) h (fs' ++ x) { S.top with parts := S.top.parts ++ [(S.forms ++ (fs' ++ x)).length - 1], pieces := [], gbp := h }).adv j2 k fs2 { S.top with parts := (S.top.parts ++ [(S.forms ++ (fs' ++ x)).length - 1]) ++ ps, pieces := js2, gbp := gb }) r
            rw [es]
            exact hr
    · rw [if_neg (fun z => c ((amp_iff hp j).mp z))]
      refine ⟨j, fs', [], js, S.top.gbp, rfl, q1, q2, ?_, q4, ⟨_, _, [], as, .nil, q7, rfl⟩, fun r hr => q8 r ?_⟩
      · rcases q3 with z | z | z | z
        · exact .inl z
        · exact .inr (.inl z)
        · exact absurd z c
        · exact .inr (.inr z)
      · have e : S.adv j h fs' { S.top with parts := S.top.parts ++ [], pieces := js, gbp := S.top.gbp } = S.adv j h fs' { S.top with pieces := js } := by simp
        rw [e] at hr
        exact hr
theorem pPat {p : List Nat} (hp : Ok8 p) {f : Nat} (ih1 : PRow p f) (ih2 : PPat p f) : PPat p (f + 1) := by
  intro S hf hi ht hpc hpt hgb hg
  unfold patternIn
  have q := ih1 S (by omega) hi ht hpc hgb hg
  rw [bars_open ht hpt] at q
  cases ea : rowIn f S.top.shut S.groups (at_ p S.place) with
  | error e => rw [ea] at q; exact q
  | ok z =>
    obtain ⟨a, h, x⟩ := z
    rw [ea] at q
    obtain ⟨j, fs', ps, js, gb, rfl, q1, q2, q3, q4, q5, q6⟩ := q
    dsimp only
    rw [hpt, List.nil_append] at q6
    by_cases c : now p j = 124
    · rw [if_pos ((bar_iff hp j).mpr c)]
      have hj : j < p.length := lt_of_now (by omega)
      obtain ⟨x, e1, k1, w1⟩ := endRow_lay (gg := h) (L := { S.top with parts := ps, pieces := js, gbp := gb }) q5
      have hs2 : step p (S.adv j h fs' { S.top with parts := ps, pieces := js, gbp := gb }) = .ok (S.adv (j + 1) h (fs' ++ x) { S.top with rows := S.top.rows ++ [(S.forms ++ (fs' ++ x)).length - 1], parts := [], pieces := [], gbp := h }) := by
        unfold step
        show (if now p j = 40 then _ else if S.top.turned = true ∨ notAtoms.contains (now p j) = false then _ else if now p j = 126 then _ else if now p j = 124 then _ else _) = _
        rw [if_neg (by omega), if_neg (by rw [ht, c]; decide), if_neg (by omega), if_pos c]
        show Except.ok (⟨j + 1, h, (endRowL h (S.forms ++ fs') { S.top with parts := ps, pieces := js, gbp := gb }).1, (endRowL h (S.forms ++ fs') { S.top with parts := ps, pieces := js, gbp := gb }).2, S.below⟩ : Rd) = _
        rw [e1, w1]
        unfold Rd.adv
        simp
      have w := ih2 (S.adv (j + 1) h (fs' ++ x) { S.top with rows := S.top.rows ++ [(S.forms ++ (fs' ++ x)).length - 1], parts := [], pieces := [], gbp := h }) (by show 8 * (p.length - (j + 1)) + 5 ≤ f; omega) (by show j + 1 ≤ p.length; omega) ht rfl rfl rfl q4
      have w' : match patternIn f S.top.shut h (at_ p (j + 1)) with
        | .error e => Res p (S.adv (j + 1) h (fs' ++ x) { S.top with rows := S.top.rows ++ [(S.forms ++ (fs' ++ x)).length - 1], parts := [], pieces := [], gbp := h }) (.error e)
        | .ok (a, h', x) => _ := w
      rw [at_next]
      cases eb : patternIn f S.top.shut h (at_ p (j + 1)) with
      | error e => rw [eb] at w'; exact q6 _ (.go hj hs2 w')
      | ok z =>
        obtain ⟨b, k, y⟩ := z
        rw [eb] at w'
        obtain ⟨j2, fs2, rs, ps2, js2, gb2, rfl, w1', w2, w3, w4, ⟨m, kk, ras, b2, l1, ⟨m2, k2, pas, as2, l2, l3, rfl⟩, rfl⟩, w6⟩ := w'
        have e : S.forms ++ (fs' ++ x ++ fs2) = S.forms ++ (fs' ++ x) ++ fs2 := by simp
        have e' : S.forms ++ (fs' ++ x) = S.forms ++ fs' ++ x := by simp
        refine ⟨j2, fs' ++ x ++ fs2, ((S.forms ++ (fs' ++ x)).length - 1) :: rs, ps2, js2, gb2, rfl, ?_, w2, w3, w4, ⟨m, kk, a :: ras, _, ?_, ⟨m2, k2, pas, as2, ?_, ?_, rfl⟩, ?_⟩, fun r hr => q6 r (.go hj hs2 (w6 r ?_))⟩
        · have : j + 1 ≤ j2 := w1'
          omega
        · rw [e]
          refine .cons (Lay.mono ?_) l1
          rw [e']; exact k1
        · rw [e]; exact l2
        · rw [e]; exact l3
        · cases ras with
          | nil => rfl
          | cons b r => rfl
        · have es : (S.adv (j + 1) h (fs' ++ x) { S.top with rows := S.top.rows ++ [(S.forms ++ (fs' ++ x)).length - 1], parts := [], pieces := [], gbp := h }).adv j2 k fs2 { S.top with rows := (S.top.rows ++ [(S.forms ++ (fs' ++ x)).length - 1]) ++ rs, parts := ps2, pieces := js2, gbp := gb2 } = S.adv j2 k (fs' ++ x ++ fs2) { S.top with rows := S.top.rows ++ (((S.forms ++ (fs' ++ x)).length - 1) :: rs), parts := ps2, pieces := js2, gbp := gb2 } := by
            rw [Rd.adv_adv]
            simp
          show Res p ((S.adv (j + 1) h (fs' ++ x) { S.top with rows := S.top.rows ++ [(S.forms ++ (fs' ++ x)).length - 1], parts := [], pieces := [], gbp := h }).adv j2 k fs2 { S.top with rows := (S.top.rows ++ [(S.forms ++ (fs' ++ x)).length - 1]) ++ rs, parts := ps2, pieces := js2, gbp := gb2 }) r
          rw [es]
          exact hr
    · rw [if_neg (fun z => c ((bar_iff hp j).mp z))]
      refine ⟨j, fs', [], ps, js, gb, rfl, q1, q2, ?_, q4, ⟨_, _, [], a, .nil, q5, rfl⟩, fun r hr => q6 r ?_⟩
      · rcases q3 with z | z | z
        · exact .inl z
        · exact absurd z c
        · exact .inr z
      · have e : S.adv j h fs' { S.top with rows := S.top.rows ++ [], parts := ps, pieces := js, gbp := gb } = S.adv j h fs' { S.top with parts := ps, pieces := js, gbp := gb } := by simp
        rw [e] at hr
        exact hr
theorem all_sim {p : List Nat} (hp : Ok8 p) : ∀ f, PAtom p f ∧ PPiece p f ∧ PPart p f ∧ PRow p f ∧ PPat p f
  | 0 => ⟨fun S h => by omega, fun S h => by omega, fun S h => by omega, fun S h => by omega, fun S h => by omega⟩
  | f + 1 => by
    obtain ⟨a, b, c, d, e⟩ := all_sim hp f
    exact ⟨pAtom hp e, pPiece hp a, pPart hp b c, pRow hp c d, pPat hp d e⟩
/-- **what the reader comes to is what the specification reads** -/
theorem read_sim {p : List Nat} (hp : Ok8 p) : ∃ r, Res p Rd.start r ∧ match WrPatt.read (tx p) with
    | .error e => r = .error e
    | .ok (a, g) => ∃ S, r = .ok S ∧ S.groups = g ∧ g ≤ 32 ∧ Lay S.forms 0 S.forms.length 0 g a := by
  have q := (all_sim hp (8 * (tx p).length + 16)).2.2.2.2 Rd.start (by rw [tx_length]; show 8 * (p.length - 0) + 5 ≤ _; omega) (Nat.zero_le _) rfl rfl rfl rfl (Nat.zero_le _)
  have e0 : (⟨0, tx p⟩ : In) = at_ p 0 := by unfold at_; simp
  unfold WrPatt.read
  rw [e0]
  have q' : match patternIn (8 * (tx p).length + 16) false 0 (at_ p 0) with
    | .error e => Res p Rd.start (.error e)
    | .ok (a, h', x) => _ := q
  cases ea : patternIn (8 * (tx p).length + 16) false 0 (at_ p 0) with
  | error e => rw [ea] at q'; exact ⟨_, q', rfl⟩
  | ok z =>
    obtain ⟨a, h, x⟩ := z
    rw [ea] at q'
    obtain ⟨j, fs', rs, ps, js, gb, rfl, q1, q2, q3, q4, q5, q6⟩ := q'
    dsimp only
    by_cases c : now p j = 41
    · have hj : j < p.length := lt_of_now (by omega)
      rw [if_neg (fun z => absurd (at_b_nil.mp z) (by omega))]
      refine ⟨.error (1, j), q6 _ (.err hj ?_), rfl⟩
      rw [step_close (S := Rd.start.adv j h fs' { Rd.start.top with rows := Rd.start.top.rows ++ rs, parts := ps, pieces := js, gbp := gb }) c rfl]
      rfl
    · have hj : p.length ≤ j := by
        rcases q3 with z | z
        · exact z
        · exact absurd z c
      rw [if_pos (at_b_nil.mpr hj)]
      refine ⟨_, q6 _ (.fin hj), ?_⟩
      obtain ⟨x, e1, l1, w1⟩ := endV_lay (gg := h) (F := fs') (n0 := 0) (g := 0) (L := { Rd.start.top with rows := rs, parts := ps, pieces := js, gbp := gb }) q5
      have ef : finish (Rd.start.adv j h fs' { Rd.start.top with rows := Rd.start.top.rows ++ rs, parts := ps, pieces := js, gbp := gb }) = .ok ⟨j, h, (endLevelL h fs' { Rd.start.top with rows := rs, parts := ps, pieces := js, gbp := gb }).1, (endLevelL h fs' { Rd.start.top with rows := rs, parts := ps, pieces := js, gbp := gb }).2.1, []⟩ := by
        unfold finish
        rw [if_neg (by intro z; rcases z with z | z; exact z rfl; exact Bool.noConfusion z)]
        rfl
      refine ⟨_, ef, rfl, q4, ?_⟩
      show Lay (endLevelL h fs' { Rd.start.top with rows := rs, parts := ps, pieces := js, gbp := gb }).1 0 (endLevelL h fs' { Rd.start.top with rows := rs, parts := ps, pieces := js, gbp := gb }).1.length 0 h a
      rw [e1]
      exact l1
end PF
/-! Part C0: how a reader lies in the heap: what is owned (and may change), what stands still. -/
namespace RM
open PySem PySem.Spec PyProof.Rows L2 PF
abbrev Mem := List (Addr × HO)
/-- G: what stands still; M: what is owned, each address once, none of it in G -/
structure Own (G H : Hp) (M : Mem) : Prop where
  le : Same G H
  nd : (M.map (·.1)).Nodup
  holds : ∀ q ∈ M, H q.1 = some q.2
  fresh : ∀ q ∈ M, G q.1 = none
theorem Own.get {G H : Hp} {M : Mem} (o : Own G H M) (i : Nat) {a : Addr} {x : HO} (e : M[i]? = some (a, x)) : H a = some x := o.holds (a, x) (List.mem_of_getElem? e)
theorem nodup_ix {α : Type} {l : List α} (h : l.Nodup) {i j : Nat} {a : α} (hi : l[i]? = some a) (hj : l[j]? = some a) : i = j := nd_ix h hi hj
theorem set_fst {M : Mem} {i : Nat} {a : Addr} {x y : HO} (e : M[i]? = some (a, x)) : (M.set i (a, y)).map (·.1) = M.map (·.1) := by
  rw [List.map_set]
  have h : (M.map (·.1))[i]? = some a := by rw [List.getElem?_map, e]; rfl
  obtain ⟨hi, he⟩ := List.getElem?_eq_some_iff.mp h
  conv => rhs; rw [← List.set_getElem_self hi]
  rw [he]
theorem Own.put {G H : Hp} {M : Mem} (o : Own G H M) (i : Nat) {a : Addr} {x : HO} (y : HO) (e : M[i]? = some (a, x)) : Own G (upd H a y) (M.set i (a, y)) := by
  have ga : G a = none := o.fresh (a, x) (List.mem_of_getElem? e)
  have fst := set_fst (y := y) e
  refine ⟨fun b z h => ?_, by rw [fst]; exact o.nd, fun q hq => ?_, fun q hq => ?_⟩
  · have : b ≠ a := fun w => by rw [w, ga] at h; cases h
    rw [upd_ne this]; exact o.le b z h
  · obtain ⟨j, hj⟩ := List.getElem?_of_mem hq
    rw [List.getElem?_set] at hj
    by_cases c : i = j
    · rw [if_pos c] at hj
      split at hj
      · cases hj; exact upd_same
      · cases hj
    · rw [if_neg c] at hj
      have : q.1 ≠ a := fun w => c (nodup_ix (a := a) o.nd (by rw [List.getElem?_map, e]; rfl) (by rw [List.getElem?_map, hj, ← w]; rfl))
      rw [upd_ne this]; exact o.holds q (List.mem_of_getElem? hj)
  · have hm : q.1 ∈ (M.set i (a, y)).map (·.1) := List.mem_map_of_mem hq
    rw [fst] at hm
    obtain ⟨q', hq', e'⟩ := List.mem_map.mp hm
    rw [← e']; exact o.fresh q' hq'
theorem Own.free {G H : Hp} {M : Mem} (o : Own G H M) {p : Addr} (hp : H p = none) : p ∉ M.map (·.1) := fun h => by
  obtain ⟨q, hq, e⟩ := List.mem_map.mp h
  have := o.holds q hq
  rw [e, hp] at this; cases this
theorem Own.add {G H : Hp} {M : Mem} (o : Own G H M) {p : Addr} (hp : H p = none) (x : HO) : Own G (upd H p x) ((p, x) :: M) := by
  have gp : G p = none := o.le.free hp
  refine ⟨fun b z h => ?_, List.nodup_cons.mpr ⟨o.free hp, o.nd⟩, fun q hq => ?_, fun q hq => ?_⟩
  · have : b ≠ p := fun w => by rw [w, gp] at h; cases h
    rw [upd_ne this]; exact o.le b z h
  · rcases List.mem_cons.mp hq with h | h
    · rw [h]; exact upd_same
    · have : q.1 ≠ p := fun w => by have z := o.holds q h; rw [w, hp] at z; cases z
      rw [upd_ne this]; exact o.holds q h
  · rcases List.mem_cons.mp hq with h | h
    · rw [h]; exact gp
    · exact o.fresh q h
theorem Own.perm {G H : Hp} {M M' : Mem} (o : Own G H M) (h : M.Perm M') : Own G H M' :=
  ⟨o.le, ((h.map (·.1)).nodup_iff).mp o.nd, fun q hq => o.holds q (h.mem_iff.mpr hq), fun q hq => o.fresh q (h.mem_iff.mpr hq)⟩
theorem Own.drop {G H : Hp} {M : Mem} {q : Addr × HO} (o : Own G H (q :: M)) : Own G H M :=
  ⟨o.le, (List.nodup_cons.mp o.nd).2, fun z hz => o.holds z (List.mem_cons_of_mem _ hz), fun z hz => o.fresh z (List.mem_cons_of_mem _ hz)⟩
theorem Own.sub {G H : Hp} {M M' : Mem} (o : Own G H M) (h : M'.Sublist M) : Own G H M' :=
  ⟨o.le, (h.map (·.1)).nodup o.nd, fun z hz => o.holds z (h.subset hz), fun z hz => o.fresh z (h.subset hz)⟩
/-- what's owned comes to stand still -/
theorem Own.freeze {G H : Hp} {M : Mem} {a : Addr} {x : HO} (o : Own G H ((a, x) :: M)) : Own (upd G a x) H M ∧ Same G (upd G a x) ∧ upd G a x a = some x := by
  have ga : G a = none := o.fresh _ List.mem_cons_self
  have na := (List.nodup_cons.mp o.nd).1
  refine ⟨⟨fun b z h => ?_, (List.nodup_cons.mp o.nd).2, fun z hz => o.holds z (List.mem_cons_of_mem _ hz), fun z hz => ?_⟩, fun b z h => ?_, upd_same⟩
  · by_cases c : b = a
    · rw [c, upd_same] at h; cases h
      rw [c]; exact o.holds (a, x) List.mem_cons_self
    · rw [upd_ne c] at h; exact o.le b z h
  · have : z.1 ≠ a := fun w => na (by rw [← w]; exact List.mem_map_of_mem (f := (·.1)) hz)
    rw [upd_ne this]; exact o.fresh z (List.mem_cons_of_mem _ hz)
  · have : b ≠ a := fun w => by rw [w, ga] at h; cases h
    rw [upd_ne this]; exact h
theorem Own.same {G H H' : Hp} {M : Mem} (o : Own G H M) (s : Same H H') : Own G H' M :=
  ⟨o.le.trans s, o.nd, fun q hq => s _ _ (o.holds q hq), o.fresh⟩
theorem same_upd {H : Hp} {p : Addr} {x : HO} (hp : H p = none) : Same H (upd H p x) := fun b z h => by
  have : b ≠ p := fun w => by rw [w, hp] at h; cases h
  rw [upd_ne this]; exact h
theorem Own.wk {F G H : Hp} {M : Mem} (o : Own G H M) (s : Same F G) : Own F H M :=
  ⟨s.trans o.le, o.nd, o.holds, fun q hq => s.free (o.fresh q hq)⟩

/-! ### values -/
def nls (l : List Nat) : List V := l.map fun (n : Nat) => V.int (n : Int)
def bls (l : List Bool) : List V := l.map V.bl
def optI (m : Option Nat) : V := match m with
  | none => .non
  | some k => .int k
def kdS : Kd → Str
  | .byte => "byte"
  | .begin_ => "begin"
  | .end_ => "end"
  | .edge => "edge"
  | .noEdge => "no edge"
  | .row => "row"
  | .either => "either"
  | .both => "both"
  | .turned => "turned"
  | .counted => "counted"
  | .group => "group"
/-- what is told besides of a form -/
def ToldAt (G : Hp) (v : V) : Tl → Prop
  | .non => v = .non
  | .num k => v = .int k
  | .mem m => ∃ a, v = .ref a ∧ G a = some (.lst (bls m))
  | .cnt n m => ∃ a, v = .ref a ∧ G a = some (.tup [.int n, optI m])
/-- the same where it is still owned: its own memory -/
def ToldM (v : V) : Tl → Mem → Prop
  | .non, l => v = .non ∧ l = []
  | .num k, l => v = .int k ∧ l = []
  | .mem m, l => ∃ a, v = .ref a ∧ l = [(a, .lst (bls m))]
  | .cnt n m, l => ∃ a, v = .ref a ∧ l = [(a, .tup [.int n, optI m])]
def FormAt (CF : Addr) (G : Hp) (a : Addr) (fm : Fm) : Prop := ∃ dx pa tv, G a = some (.ins CF dx [("kind", .str (kdS fm.kd)), ("parts", .ref pa), ("told", tv)]) ∧ G pa = some (.lst (nls fm.parts)) ∧ ToldAt G tv fm.tl
def FormsAt (CF : Addr) (G : Hp) (l : List Addr) (fs : List Fm) : Prop := l.length = fs.length ∧ ∀ (i : Nat) (a : Addr) (fm : Fm), l[i]? = some a → fs[i]? = some fm → FormAt CF G a fm
theorem ToldAt.mono {G G' : Hp} (s : Same G G') {v : V} : ∀ {t : Tl}, ToldAt G v t → ToldAt G' v t
  | .non, h => h
  | .num _, h => h
  | .mem _, ⟨a, e, h⟩ => ⟨a, e, s _ _ h⟩
  | .cnt _ _, ⟨a, e, h⟩ => ⟨a, e, s _ _ h⟩
theorem FormAt.mono {CF : Addr} {G G' : Hp} (s : Same G G') {a : Addr} {fm : Fm} (h : FormAt CF G a fm) : FormAt CF G' a fm := by
  obtain ⟨dx, pa, tv, h1, h2, h3⟩ := h
  exact ⟨dx, pa, tv, s _ _ h1, s _ _ h2, h3.mono s⟩
theorem FormsAt.mono {CF : Addr} {G G' : Hp} (s : Same G G') {l : List Addr} {fs : List Fm} (h : FormsAt CF G l fs) : FormsAt CF G' l fs := ⟨h.1, fun i a fm e1 e2 => (h.2 i a fm e1 e2).mono s⟩
theorem FormsAt.snoc {CF : Addr} {G : Hp} {l : List Addr} {fs : List Fm} {a : Addr} {fm : Fm} (h : FormsAt CF G l fs) (x : FormAt CF G a fm) : FormsAt CF G (l ++ [a]) (fs ++ [fm]) := by
  refine ⟨by rw [List.length_append, List.length_append, h.1]; rfl, fun i b gm e1 e2 => ?_⟩
  by_cases c : i < l.length
  · rw [List.getElem?_append_left c] at e1
    rw [List.getElem?_append_left (by rw [← h.1]; exact c)] at e2
    exact h.2 i b gm e1 e2
  · have c' : l.length ≤ i := Nat.le_of_not_lt c
    rw [List.getElem?_append_right c'] at e1
    rw [List.getElem?_append_right (by rw [← h.1]; exact c'), ← h.1] at e2
    obtain ⟨k, hk⟩ : ∃ k, i - l.length = k := ⟨_, rfl⟩
    rw [hk] at e1 e2
    cases k with
    | zero => cases e1; cases e2; exact x
    | succ k => simp at e1
/-- the reader's own objects: itself, the list of its forms, the list of its levels -/
def rdO (CR dx pl fl ll : Addr) (place groups : Nat) : HO := .ins CR dx [("pattern", .ref pl), ("place", .int place), ("forms", .ref fl), ("groups", .int groups), ("levels", .ref ll)]
/-- the classes -/
structure Cs where
  rd : Addr
  lv : Addr
  fm : Addr
  fl : Addr
/-- a reader at r: F stands still, M is what else is owned -/
def RS (K : PySem.W.Frag) (c : Cs) (F H : Hp) (r : Addr) (p : List Nat) (place groups : Nat) (fs : List Fm) (lv : List Addr) (M : Mem) : Prop :=
  ∃ G dx pl fl ll fas, Same F G ∧ FormsAt c.fm G fas fs ∧ SqL K G pl (nls p) ∧ Own G H ((r, rdO c.rd dx pl fl ll place groups) :: (fl, .lst (fas.map V.ref)) :: (ll, .lst (lv.map V.ref)) :: M)
structure LvA where
  a : Addr
  dx : Addr
  r : Addr
  q : Addr
  c : Addr
def lvO (C : Addr) (x : LvA) (L : Lv) : HO := .ins C x.dx [("rows", .ref x.r), ("parts", .ref x.q), ("pieces", .ref x.c), ("turned", .bl L.turned), ("shut", .bl L.shut), ("groups_before_part", .int L.gbp), ("group", optI L.group)]
def lvM (C : Addr) (x : LvA) (L : Lv) : Mem := [(x.a, lvO C x L), (x.r, .lst (nls L.rows)), (x.q, .lst (nls L.parts)), (x.c, .lst (nls L.pieces))]
def stM (C : Addr) : List (LvA × Lv) → Mem
  | [] => []
  | q :: l => lvM C q.1 q.2 ++ stM C l
/-- a reader in a state: st its levels, the innermost first -/
def RdAt (K : PySem.W.Frag) (c : Cs) (F H : Hp) (r : Addr) (p : List Nat) (S : Rd) : Prop :=
  ∃ x st, st.map (·.2) = S.below ∧ RS K c F H r p S.place S.groups S.forms ((x :: st.map (·.1)).map (·.a)).reverse (lvM c.lv x S.top ++ stM c.lv st)
end RM
/-! Part C1: the program's text by places; what the top has written; the small defs. -/
namespace RM
open PySem PySem.Spec PyProof.Rows L2 PF
def topS (i : Nat) : Stmt := PySem.Challenge.pw_patternmeans_s07_quote.main.body.getD i (.Pass ⟨0, 0, 0, 0⟩)
abbrev s_among : Stmt := topS 2
theorem sc_among : FnScope ["byte", "signs", "sign"] ["byte", "signs"] (defScope s_among) := ⟨rfl, rfl, rfl, by decide +kernel, rfl, by decide +kernel, by decide +kernel⟩
abbrev s_is_printed : Stmt := topS 3
theorem sc_is_printed : FnScope ["byte"] ["byte"] (defScope s_is_printed) := ⟨rfl, rfl, rfl, by decide +kernel, rfl, by decide +kernel, by decide +kernel⟩
abbrev s_quoted : Stmt := topS 6
theorem sc_quoted : FnScope ["subject", "pattern", "byte"] ["subject"] (defScope s_quoted) := ⟨rfl, rfl, rfl, by decide +kernel, rfl, by decide +kernel, by decide +kernel⟩
abbrev s_quoted_byte : Stmt := topS 7
theorem sc_quoted_byte : FnScope ["byte"] ["byte"] (defScope s_quoted_byte) := ⟨rfl, rfl, rfl, by decide +kernel, rfl, by decide +kernel, by decide +kernel⟩
abbrev s_bytes_of : Stmt := topS 8
theorem sc_bytes_of : FnScope ["signs", "sign"] ["signs"] (defScope s_bytes_of) := ⟨rfl, rfl, rfl, by decide +kernel, rfl, by decide +kernel, by decide +kernel⟩
abbrev s_quote : Stmt := topS 14
theorem sc_quote : FnScope ["subject", "told"] ["subject"] (defScope s_quote) := ⟨rfl, rfl, rfl, by decide +kernel, rfl, by decide +kernel, by decide +kernel⟩
/-- a constant of the module: an int, a text -/
def GI (mg : Str → Option Value) (x : Str) (i : Int) : Prop := ∃ t, mg x = some (.int i t)
def GS (mg : Str → Option Value) (x : Str) (z : Str) : Prop := ∃ t, mg x = some (.str z t)
/-- a method, a def, an __init__ of the text -/
def MT (K : PySem.W.Frag) (C : Addr) (m qual : Str) (st : Stmt) (ps : List Str) : Prop := ∃ f fd, Meth K C m f ∧ Fun K m qual st f fd ∧ Binds K fd ps []
def DT (K : PySem.W.Frag) (mg : Str → Option Value) (x : Str) (st : Stmt) (ps : List Str) : Prop := ∃ f fd, mg x = some (.ref f) ∧ PySem.W.keepIn K (.ref f) = true ∧ Fun K x x st f fd ∧ Binds K fd ps []
def IT (K : PySem.W.Frag) (C : Addr) (qual : Str) (st : Stmt) (ps : List Str) : Prop := ∃ f fd, Mk K C f ∧ Fun K "__init__" qual st f fd ∧ Binds K fd ps []
structure Txt (K : PySem.W.Frag) (mg : Str → Option Value) (c : Cs) (fI : Addr) : Prop where
  b_ord : mg "ord" = none
  b_len : mg "len" = none
  g_NOT_PLAIN : GS mg "NOT_PLAIN" "\\|&~*+?{}.^$()[]"
  g_HEX_DIGITS : GS mg "HEX_DIGITS" "0123456789abcdef"
  g_LONGEST : GI mg "LONGEST" 200
  g_ANSWERED : GI mg "ANSWERED" 0
  g_REFUSED : GI mg "REFUSED" 9
  g_BEYOND_BOUNDS : GI mg "BEYOND_BOUNDS" 1
  t_among : DT K mg "among" s_among ["byte", "signs"]
  t_is_printed : DT K mg "is_printed" s_is_printed ["byte"]
  t_quoted : DT K mg "quoted" s_quoted ["subject"]
  t_quoted_byte : DT K mg "quoted_byte" s_quoted_byte ["byte"]
  t_bytes_of : DT K mg "bytes_of" s_bytes_of ["signs"]
  t_quote : DT K mg "quote" s_quote ["subject"]
/-- the same with their promises -/
def MOk (P : Program) (w : World) (K : PySem.W.Frag) (mg : Str → Option Value) (base : Heap) (CX : CXT) (k : Nat) (C : Addr) (m : Str) (ps : List Str) (sp : Sp) : Prop := ∃ f fd, Meth K C m f ∧ FnOk P w K mg base CX k f fd ps sp ∧ Binds K fd ps []
def DOk (P : Program) (w : World) (K : PySem.W.Frag) (mg : Str → Option Value) (base : Heap) (CX : CXT) (k : Nat) (x : Str) (ps : List Str) (sp : Sp) : Prop := ∃ f fd, mg x = some (.ref f) ∧ PySem.W.keepIn K (.ref f) = true ∧ FnOk P w K mg base CX k f fd ps sp ∧ Binds K fd ps []
def IOk (P : Program) (w : World) (K : PySem.W.Frag) (mg : Str → Option Value) (base : Heap) (CX : CXT) (k : Nat) (C : Addr) (ps : List Str) (sp : Sp) : Prop := ∃ f fd, Mk K C f ∧ FnOk P w K mg base CX k f fd ps sp ∧ Binds K fd ps []
/-- an if whose test is known -/
theorem if_true_of {c : Bool} {A B : Prop} (hc : c = true) (h : A) : if c = true then A else B := by
  rw [if_pos hc]
  exact h
theorem if_false_of {c : Bool} {A B : Prop} (hc : c = false) (h : B) : if c = true then A else B := by
  rw [hc, if_neg Bool.false_ne_true]
  exact h
section
variable {X : Cx} {x : Str} {pos : Pos}
theorem pe_globI {i : Int} (hg : Gl X x) (h : GI X.mg x i) (hd : (x == ("__debug__" : Str)) = false := by decide) : PE X (.Name x pos) (tC (.int i)) := by
  obtain ⟨t, h⟩ := h
  exact pe_glob hg h ⟨_, rfl⟩ hd
theorem pe_globS {z : Str} (hg : Gl X x) (h : GS X.mg x z) (hd : (x == ("__debug__" : Str)) = false := by decide) : PE X (.Name x pos) (tC (.str z)) := by
  obtain ⟨t, h⟩ := h
  exact pe_glob hg h ⟨_, rfl⟩ hd
end
/-! ### small defs -/
def codes (z : Str) : List Nat := z.cps.toList
def spAmong : Sp := fun vs H Q _ => ∃ (b : Nat) (z : Str), vs = [.int b, .str z] ∧ z.cps.size ≤ 100 ∧ ∀ H', Same H H' → Q (.bl ((codes z).contains b)) H'
def spPrinted : Sp := fun vs H Q _ => ∃ b : Nat, vs = [.int b] ∧ Q (.bl (printed b)) H
def spDigit : Sp := fun vs H Q _ => ∃ b : Nat, vs = [.int b] ∧ Q (.bl (digit b)) H
theorem in_codes (l : List Nat) (b : Nat) : inV (.int b) (nls l) = l.contains b := by
  unfold inV nls
  induction l with
  | nil => rfl
  | cons a l ih =>
    rw [List.map_cons, List.any_cons, ih, List.contains_cons]
    congr 1
    show ((a : Int) == (b : Int)) = (b == a)
    by_cases h : a = b
    · subst h
      rw [beq_self_eq_true, beq_self_eq_true]
    · have h1 : ¬ (a : Int) = (b : Int) := by omega
      have h2 : ¬ b = a := fun z => h z.symm
      rw [beq_eq_false_iff_ne.mpr h1, beq_eq_false_iff_ne.mpr h2]
theorem nls_flat (l : List Nat) : (nls l).all flatV = true := by
  unfold nls
  rw [List.all_map]
  exact List.all_eq_true.mpr fun _ _ => rfl
section
variable {P : Program} {w : World} {K : PySem.W.Frag} {mg : Str → Option Value} {base : Heap} {c : Cs} {fI : Addr}
theorem ok_printed (T : Txt K mg c fI) : DOk P w K mg base CX0 1 "is_printed" ["byte"] spPrinted := by
  obtain ⟨f, fd, mf, kf, F, b⟩ := T.t_is_printed
  refine ⟨f, fd, mf, kf, F.ok sc_is_printed (fun vs H Q E h => ?_) (fun cdv A outer s H vs Q E hr h => ⟨_, pss_one (ps_ret (pe_chain op_le op_le pe_int (pv 0) pe_int)), ?_⟩), b⟩
  · obtain ⟨b, rfl, _⟩ := h; rfl
  · obtain ⟨b, rfl, q⟩ := h
    refine ⟨_, rfl, _, _, rfl, rfl, _, rfl, ?_⟩
    by_cases c1 : (32 : Int) ≤ b
    · refine if_true_of (decide_eq_true c1) ⟨_, _, rfl, rfl, ?_⟩
      have e : decide ((b : Int) ≤ 126) = printed b := by
        unfold printed
        rw [decide_eq_true (by omega : 32 ≤ b), Bool.true_and]
        by_cases h : b ≤ 126
        · rw [decide_eq_true h, decide_eq_true (by omega)]
        · rw [decide_eq_false h, decide_eq_false (by omega)]
      show Q (.bl (decide ((b : Int) ≤ 126))) H
      rw [e]; exact q
    · refine if_false_of (decide_eq_false c1) ?_
      have e : printed b = false := by
        unfold printed
        rw [decide_eq_false (by omega : ¬ 32 ≤ b)]; rfl
      rw [e] at q; exact q
theorem ok_among (T : Txt K mg c fI) : DOk P w K mg base CX0 1 "among" ["byte", "signs"] spAmong := by
  obtain ⟨f, fd, mf, kf, F, b⟩ := T.t_among
  refine ⟨f, fd, mf, kf, F.ok sc_among (fun vs H Q E h => ?_) (fun cdv A outer s H vs Q E hr h => ⟨_, pss_one (ps_ret (pe_cmpR op_in_seq (pv 0) (pe_lc (own := [("sign", 2)]) (g := gName 2) (tt := tYes) rfl sc_among.nd (pi_str (pv 1)) (blkOk_by (N := ["byte", "signs", "sign"]) (sc := defScope s_among) (by decide +kernel)) (fun _ _ _ _ _ => (pg_name (i := 2) sc_among.nd rfl (Or.inl rfl))) (fun _ _ _ _ _ => pts_nil) (fun _ _ _ _ _ => (pe_callB call_ord (by rfl) T.b_ord (by decide +kernel) (pa_cons (pv 2) pa_nil)))) (by rfl))), ?_⟩), b⟩
  · obtain ⟨b, z, rfl, _⟩ := h; rfl
  · obtain ⟨b, z, rfl, hz, q⟩ := h
    refine ⟨_, rfl, _, rfl, z, rfl, fun D hD => lc_it walk_str (fun i H1 => Same H H1 ∧ H1 D = some (.lst (nls ((codes z).take i)))) ⟨same_upd hD, upd_same⟩ (fun _ _ _ _ => trivial) ?_ ?_⟩
    · rintro i x H1 H2 hi ⟨s1, s2⟩ ⟨rfl, k, hk, rfl⟩
      refine ⟨rfl, _, rfl, _, rfl, rfl, _, s2, ?_, ?_, ?_⟩
      · unfold nls; rw [List.length_map, List.length_take]
        exact Nat.lt_of_le_of_lt (Nat.min_le_right _ _) (Nat.lt_of_le_of_lt (by unfold codes; rw [Array.length_toList]; exact hz) (by decide))
      · intro a o e
        have : a ≠ D := fun y => by rw [y, hD] at e; cases e
        rw [upd_ne this]; exact s1 a o e
      · rw [upd_same]
        have hk' : (codes z)[i]? = some k := by unfold codes; rw [Array.getElem?_toList]; exact hk
        have e : (codes z).take (i + 1) = (codes z).take i ++ [k] := by
          rw [List.take_add_one, hk']; rfl
        rw [e]
        unfold nls
        rw [List.map_append]
        rfl
    · rintro H1 ⟨s1, s2⟩
      refine ⟨D, _, rfl, .inl (SqL.of s2), rfl, nls_flat _, ?_⟩
      have e : (codes z).take z.cps.size = codes z := by
        rw [← Array.length_toList]; exact List.take_length
      rw [e]
      show Q (.bl (inV (.int b) (nls (codes z)))) H1
      rw [in_codes]
      exact q H1 s1
end
end RM
/-! Part A8: how much a reader holds. -/
namespace PF
open WrPatt
def Lv.Sm (n : Nat) (L : Lv) : Prop := L.rows.length ≤ n ∧ L.parts.length ≤ n ∧ L.pieces.length ≤ n
structure Rd.Sm (p : List Nat) (S : Rd) : Prop where
  pl : S.place ≤ p.length
  fs : S.forms.length ≤ 5 * S.place
  top : S.top.Sm S.place
  below : ∀ L ∈ S.below, L.Sm S.place
  deep : S.below.length ≤ S.place
theorem Lv.Sm.mono {n m : Nat} {L : Lv} (h : L.Sm n) (l : n ≤ m) : L.Sm m := ⟨Nat.le_trans h.1 l, Nat.le_trans h.2.1 l, Nat.le_trans h.2.2 l⟩
theorem start_sm (p : List Nat) : Rd.start.Sm p := ⟨Nat.zero_le _, Nat.le_refl _, ⟨Nat.le_refl _, Nat.le_refl _, Nat.le_refl _⟩, (fun L h => absurd h (List.not_mem_nil)), Nat.le_refl _⟩
theorem countLoop_sm {p : List Nat} (hp : Ok8 p) : ∀ {f : Nat} {fs fs' : List Fm} {i j pl pl' : Nat}, countLoop p f fs i pl = .ok (fs', j, pl') → pl ≤ p.length → pl ≤ pl' ∧ pl' ≤ p.length ∧ fs'.length ≤ fs.length + (pl' - pl)
  | 0, _, _, _, _, _, _, h, _ => by rw [countLoop] at h; cases h
  | f + 1, fs, fs', i, j, pl, pl', h, hl => by
    rw [countLoop] at h
    cases e : readCount p pl with
    | error _ => rw [e] at h; cases h
    | ok y =>
      obtain ⟨t, k⟩ := y
      rw [e] at h
      cases t with
      | none =>
        have := readCount_none e
        cases h
        omega
      | some c =>
        have h1 := readCount_lt hp e
        have h2 := countLoop_sm hp (f := f) h h1.2.1
        rw [List.length_append] at h2
        have : ([⟨.counted, [i], .cnt c.1 c.2⟩] : List Fm).length = 1 := rfl
        omega
theorem turnF_len (t : Bool) (fs : List Fm) (i : Nat) : (turnF t fs i).1.length ≤ fs.length + 1 := by
  unfold turnF
  split
  · rw [List.length_append]; exact Nat.le_refl _
  · exact Nat.le_succ _
theorem groupF_len (k : Option Nat) (fs : List Fm) (i : Nat) : (groupF k fs i).1.length ≤ fs.length + 1 := by
  unfold groupF
  cases k with
  | none => exact Nat.le_succ _
  | some k => show (fs ++ _).length ≤ _; rw [List.length_append]; exact Nat.le_refl _
theorem keepJoined_le {kd : Kd} {fs : List Fm} : ∀ {js : List Nat}, (keepJoined kd fs js).1.length ≤ fs.length + 1
  | [] => by show (fs ++ _).length ≤ _; rw [List.length_append]; exact Nat.le_refl _
  | [_] => Nat.le_succ _
  | _ :: _ :: _ => by show (fs ++ _).length ≤ _; rw [List.length_append]; exact Nat.le_refl _
theorem endPiece_sm {p : List Nat} (hp : Ok8 p) {i n : Nat} {S S' : Rd} (h : endPiece p i S = .ok S') (pl : S.place ≤ p.length) (hn : n < S.place) (fs : S.forms.length + 1 ≤ 5 * S.place) (top : S.top.Sm n) (below : ∀ L ∈ S.below, L.Sm n) (deep : S.below.length ≤ n) : S'.Sm p := by
  unfold endPiece at h
  cases e : countLoop p (p.length + 1) S.forms i S.place with
  | error _ => rw [e] at h; cases h
  | ok y =>
    obtain ⟨fs', j, pl'⟩ := y
    rw [e] at h
    have b := countLoop_sm hp e pl
    have t := turnF_len S.top.turned fs' j
    cases h
    refine ⟨b.2.1, ?_, ⟨?_, ?_, ?_⟩, fun L hL => (below L hL).mono (by show n ≤ pl'; omega), by show S.below.length ≤ pl'; omega⟩
    · show (turnF S.top.turned fs' j).1.length ≤ 5 * pl'
      omega
    · have := top.1; show S.top.rows.length ≤ pl'; omega
    · have := top.2.1; show S.top.parts.length ≤ pl'; omega
    · have := top.2.2; show (S.top.pieces ++ _).length ≤ pl'; rw [List.length_append, List.length_singleton]; omega
theorem readEscAtom_lt {p : List Nat} {i j : Nat} {fm : Fm} (h : readEscAtom p i = .ok (fm, j)) : i < j ∧ j ≤ p.length := by
  unfold readEscAtom at h
  split at h
  · rename_i hc; cases h; exact ⟨Nat.lt_succ_self _, lt_of_now (by omega)⟩
  split at h
  · rename_i hc; cases h; exact ⟨Nat.lt_succ_self _, lt_of_now (by omega)⟩
  cases e : readEscaped p i with
  | error _ => rw [e] at h; cases h
  | ok y => obtain ⟨v, k⟩ := y; rw [e] at h; cases h; exact readEscaped_lt e
theorem readAtom_lt {p : List Nat} {i j : Nat} {fm : Fm} (h : readAtom p i = .ok (fm, j)) : i < j ∧ j ≤ p.length := by
  unfold readAtom at h
  split at h
  · cases e : readSet p (i + 1) with
    | error _ => rw [e] at h; cases h
    | ok y => obtain ⟨v, k⟩ := y; rw [e] at h; cases h; have := readSet_lt e; omega
  split at h
  · cases h; exact ⟨Nat.lt_succ_self _, lt_of_now (by omega)⟩
  split at h
  · cases h; exact ⟨Nat.lt_succ_self _, lt_of_now (by omega)⟩
  split at h
  · cases h; exact ⟨Nat.lt_succ_self _, lt_of_now (by omega)⟩
  split at h
  · have := readEscAtom_lt h; omega
  cases e : readPlain notPlain p i with
  | error _ => rw [e] at h; cases h
  | ok y => obtain ⟨v, k⟩ := y; rw [e] at h; cases h; exact readPlain_lt e
theorem step_sm {p : List Nat} (hp : Ok8 p) {S S' : Rd} (s : S.Sm p) (hlt : S.place < p.length) (h : step p S = .ok S') : S'.Sm p := by
  have up : ∀ {n : Nat}, S.place ≤ n → (∀ L ∈ S.below, L.Sm n) := fun l L hL => (s.below L hL).mono l
  unfold step at h
  split at h
  · -- an opening bracket
    unfold openBracket at h
    split at h
    · rename_i hc
      have : S.place + 1 < p.length := lt_of_now (by omega)
      have := s.fs
      have := s.deep
      cases h
      refine ⟨by show S.place + 2 ≤ _; omega, by show S.forms.length ≤ 5 * (S.place + 2); omega, ⟨Nat.zero_le _, Nat.zero_le _, Nat.zero_le _⟩, fun L hL => ?_, by show S.below.length + 1 ≤ S.place + 2; omega⟩
      rcases List.mem_cons.mp hL with e | e
      · rw [e]; exact s.top.mono (by show S.place ≤ S.place + 2; omega)
      · exact up (by show S.place ≤ S.place + 2; omega) L e
    · split at h
      · cases h
      · have := s.fs
        have := s.deep
        cases h
        refine ⟨hlt, by show S.forms.length ≤ 5 * (S.place + 1); omega, ⟨Nat.zero_le _, Nat.zero_le _, Nat.zero_le _⟩, fun L hL => ?_, by show S.below.length + 1 ≤ S.place + 1; omega⟩
        rcases List.mem_cons.mp hL with e | e
        · rw [e]; exact s.top.mono (Nat.le_succ _)
        · exact up (Nat.le_succ _) L e
  split at h
  · -- an atom
    unfold atomStep at h
    cases e : readAtom p S.place with
    | error _ => rw [e] at h; cases h
    | ok y =>
      obtain ⟨fm, j⟩ := y
      have b := readAtom_lt e
      rw [e] at h
      have := s.fs
      refine endPiece_sm hp (n := S.place) h b.2 b.1 ?_ s.top s.below s.deep
      show (S.forms ++ [fm]).length + 1 ≤ 5 * j
      rw [List.length_append, List.length_singleton]
      omega
  split at h
  · cases h
    have := s.fs
    have := s.deep
    exact ⟨hlt, by show S.forms.length ≤ 5 * (S.place + 1); omega, s.top.mono (Nat.le_succ _), up (Nat.le_succ _), by show S.below.length ≤ S.place + 1; omega⟩
  split at h
  · cases h
    have := s.fs
    have := s.deep
    have h1 : (endPartL S.groups S.forms S.top).1.length ≤ S.forms.length + 1 := keepJoined_le
    have h2 : (endRowL S.groups S.forms S.top).1.length ≤ (endPartL S.groups S.forms S.top).1.length + 1 := keepJoined_le
    refine ⟨hlt, by show (endRowL S.groups S.forms S.top).1.length ≤ 5 * (S.place + 1); omega, ⟨?_, Nat.zero_le _, Nat.zero_le _⟩, up (Nat.le_succ _), by show S.below.length ≤ S.place + 1; omega⟩
    have := s.top.1
    show (S.top.rows ++ _).length ≤ S.place + 1
    rw [List.length_append, List.length_singleton]
    omega
  split at h
  · unfold passBoth at h
    split at h
    · cases h
    · cases h
      have := s.fs
      have := s.deep
      have h1 : (endPartL S.groups S.forms S.top).1.length ≤ S.forms.length + 1 := keepJoined_le
      refine ⟨hlt, by show (endPartL S.groups S.forms S.top).1.length ≤ 5 * (S.place + 1); omega, ⟨?_, ?_, Nat.zero_le _⟩, up (Nat.le_succ _), by show S.below.length ≤ S.place + 1; omega⟩
      · have := s.top.1; show S.top.rows.length ≤ S.place + 1; omega
      · have := s.top.2.1
        show (S.top.parts ++ _).length ≤ S.place + 1
        rw [List.length_append, List.length_singleton]
        omega
  · unfold closeBracket at h
    cases eb : S.below with
    | nil => rw [eb] at h; cases h
    | cons l r =>
      rw [eb] at h
      dsimp only at h
      have := s.fs
      have hd := s.deep
      rw [eb] at hd
      have h1 : (endPartL S.groups S.forms S.top).1.length ≤ S.forms.length + 1 := keepJoined_le
      have h2 : (endRowL S.groups S.forms S.top).1.length ≤ (endPartL S.groups S.forms S.top).1.length + 1 := keepJoined_le
      have h3 : (endLevelL S.groups S.forms S.top).1.length ≤ (endRowL S.groups S.forms S.top).1.length + 1 := keepJoined_le
      have h4 := groupF_len S.top.group (endLevelL S.groups S.forms S.top).1 (endLevelL S.groups S.forms S.top).2.2
      have hl : ∀ L ∈ l :: r, L.Sm S.place := by rw [← eb]; exact s.below
      refine endPiece_sm hp (n := S.place) h hlt (Nat.lt_succ_self _) ?_ (hl l List.mem_cons_self) (fun L hL => hl L (List.mem_cons_of_mem _ hL)) ?_
      · show (groupF S.top.group (endLevelL S.groups S.forms S.top).1 (endLevelL S.groups S.forms S.top).2.2).1.length + 1 ≤ 5 * (S.place + 1)
        omega
      · show r.length ≤ S.place
        have : (l :: r).length = r.length + 1 := rfl
        omega
end PF
/-! Part M1: relations of places, as the specification reckons them and as bits. -/
namespace PF
open WrPatt
/-- bit j of the a-th number -/
def bitAt (E : List Nat) (a j : Nat) : Bool := (E.getD a 0).testBit j
/-- the numbers E say just what R says, from the places 0 to n -/
structure Fit (n : Nat) (E : List Nat) (R : Nat → Nat → Prop) : Prop where
  len : E.length = n + 1
  bit : ∀ a, a ≤ n → ∀ j, bitAt E a j = true ↔ R a j
def Fwd (n : Nat) (R : Nat → Nat → Prop) : Prop := ∀ a j, R a j → a ≤ j ∧ j ≤ n
def Thn (R Q : Nat → Nat → Prop) : Nat → Nat → Prop := fun a j => ∃ k, R a k ∧ Q k j
def Id (n : Nat) : Nat → Nat → Prop := fun a j => a = j ∧ a ≤ n
def Pow (n : Nat) (R : Nat → Nat → Prop) : Nat → Nat → Nat → Prop
  | 0 => Id n
  | k + 1 => Thn R (Pow n R k)
theorem Fit.ext {n : Nat} {E : List Nat} {R Q : Nat → Nat → Prop} (f : Fit n E R) (h : ∀ a, a ≤ n → ∀ j, R a j ↔ Q a j) : Fit n E Q := ⟨f.len, fun a ha j => (f.bit a ha j).trans (h a ha j)⟩
theorem Fit.uniq {n : Nat} {E E' : List Nat} {R : Nat → Nat → Prop} (f : Fit n E R) (g : Fit n E' R) : E = E' := by
  refine List.ext_getElem (f.len.trans g.len.symm) fun i h1 h2 => ?_
  have hi : i ≤ n := by have := f.len; omega
  refine Nat.eq_of_testBit_eq fun j => ?_
  have e1 : bitAt E i j = E[i].testBit j := by unfold bitAt; rw [List.getD_eq_getElem?_getD, List.getElem?_eq_getElem h1]; rfl
  have e2 : bitAt E' i j = E'[i].testBit j := by unfold bitAt; rw [List.getD_eq_getElem?_getD, List.getElem?_eq_getElem h2]; rfl
  rw [← e1, ← e2]
  have := (f.bit i hi j).trans (g.bit i hi j).symm
  cases h : bitAt E i j <;> cases h' : bitAt E' i j <;> simp [h, h'] at this ⊢
theorem Fwd.id (n : Nat) : Fwd n (Id n) := fun a j h => ⟨Nat.le_of_eq h.1, h.1 ▸ h.2⟩
theorem Fwd.then_ {n : Nat} {R Q : Nat → Nat → Prop} (f : Fwd n R) (g : Fwd n Q) : Fwd n (Thn R Q) := fun a j ⟨k, h1, h2⟩ => ⟨Nat.le_trans (f a k h1).1 (g k j h2).1, (g k j h2).2⟩
theorem Fwd.pow {n : Nat} {R : Nat → Nat → Prop} (f : Fwd n R) : ∀ k, Fwd n (Pow n R k)
  | 0 => .id n
  | k + 1 => f.then_ (Fwd.pow f k)
theorem then_id {n : Nat} {R : Nat → Nat → Prop} (f : Fwd n R) (a j : Nat) : Thn R (Id n) a j ↔ R a j := ⟨fun ⟨k, h, e, _⟩ => e ▸ h, fun h => ⟨j, h, rfl, (f a j h).2⟩⟩
theorem id_then {n : Nat} {R : Nat → Nat → Prop} {a : Nat} (ha : a ≤ n) (j : Nat) : Thn (Id n) R a j ↔ R a j := ⟨fun ⟨k, ⟨e, _⟩, h⟩ => e ▸ h, fun h => ⟨a, ⟨rfl, ha⟩, h⟩⟩
theorem then_assoc (R Q S : Nat → Nat → Prop) (a j : Nat) : Thn (Thn R Q) S a j ↔ Thn R (Thn Q S) a j :=
  ⟨fun ⟨k, ⟨l, h1, h2⟩, h3⟩ => ⟨l, h1, k, h2, h3⟩, fun ⟨l, h1, k, h2, h3⟩ => ⟨k, ⟨l, h1, h2⟩, h3⟩⟩
theorem pow_add {n : Nat} {R : Nat → Nat → Prop} (f : Fwd n R) : ∀ (k l : Nat) {a : Nat}, a ≤ n → ∀ j, Pow n R (k + l) a j ↔ Thn (Pow n R k) (Pow n R l) a j
  | 0, l, a, ha, j => by rw [Nat.zero_add]; exact (id_then ha j).symm
  | k + 1, l, a, ha, j => by
    rw [Nat.succ_add]
    constructor
    · rintro ⟨b, h1, h2⟩
      obtain ⟨c, h3, h4⟩ := (pow_add f k l (Nat.le_trans (f a b h1).2 (Nat.le_refl _)) j).mp h2
      exact ⟨c, ⟨b, h1, h3⟩, h4⟩
    · rintro ⟨c, ⟨b, h1, h3⟩, h4⟩
      exact ⟨b, h1, (pow_add f k l (f a b h1).2 j).mpr ⟨c, h3, h4⟩⟩
theorem pow_one {n : Nat} {R : Nat → Nat → Prop} (f : Fwd n R) (a j : Nat) : Pow n R 1 a j ↔ R a j := then_id f a j

/-! ### the specification's relations -/
def RelR (r : Rel) : Nat → Nat → Prop := fun a j => r.has a j = true
theorem has_iff {r : Rel} {a j : Nat} : r.has a j = true ↔ j ∈ r.from_ a := List.contains_iff_mem
theorem from_map {α : Type} {l : List α} {f : α → List Nat} {a : Nat} : Rel.from_ (l.map f) a = match l[a]? with | some x => f x | none => [] := by
  unfold Rel.from_
  rw [List.getD_eq_getElem?_getD, List.getElem?_map]
  cases l[a]? <;> rfl
theorem from_range {m : Nat} {f : Nat → List Nat} {a : Nat} : Rel.from_ ((List.range m).map f) a = if a < m then f a else [] := by
  rw [from_map]
  by_cases h : a < m
  · rw [List.getElem?_range h, if_pos h]
  · rw [if_neg h, List.getElem?_eq_none (by rw [List.length_range]; omega)]
theorem mem_insert {x y : Nat} : ∀ {l : List Nat}, y ∈ WrPatt.insert x l ↔ y = x ∨ y ∈ l
  | [] => by unfold WrPatt.insert; simp
  | z :: l => by
    unfold WrPatt.insert
    split
    · rename_i h; subst h; simp
    · split
      · simp
      · rw [List.mem_cons, mem_insert (l := l), List.mem_cons]
        constructor
        · rintro (h | h | h)
          · exact .inr (.inl h)
          · exact .inl h
          · exact .inr (.inr h)
        · rintro (h | h | h)
          · exact .inr (.inl h)
          · exact .inl h
          · exact .inr (.inr h)
theorem mem_union {y : Nat} : ∀ {a b : List Nat}, y ∈ WrPatt.union a b ↔ y ∈ a ∨ y ∈ b
  | [], b => by unfold WrPatt.union; simp
  | x :: a, b => by
    show y ∈ WrPatt.union a (WrPatt.insert x b) ↔ _
    rw [mem_union (a := a), mem_insert, List.mem_cons]
    constructor
    · rintro (h | h | h)
      · exact .inl (.inr h)
      · exact .inl (.inl h)
      · exact .inr h
    · rintro ((h | h) | h)
      · exact .inr (.inl h)
      · exact .inl h
      · exact .inr (.inr h)
theorem mem_foldl_union {q : Rel} {y : Nat} : ∀ {l z : List Nat}, y ∈ l.foldl (fun (z : List Nat) (j : Nat) => WrPatt.union (q.from_ j) z) z ↔ (∃ k ∈ l, y ∈ q.from_ k) ∨ y ∈ z
  | [], z => by simp
  | x :: l, z => by
    rw [List.foldl_cons, mem_foldl_union (l := l), mem_union]
    constructor
    · rintro (⟨k, h1, h2⟩ | h | h)
      · exact .inl ⟨k, List.mem_cons_of_mem _ h1, h2⟩
      · exact .inl ⟨x, List.mem_cons_self, h⟩
      · exact .inr h
    · rintro (⟨k, h1, h2⟩ | h)
      · rcases List.mem_cons.mp h1 with e | e
        · exact .inr (.inl (e ▸ h2))
        · exact .inl ⟨k, e, h2⟩
      · exact .inr (.inr h)
theorem then_has {r q : Rel} (a j : Nat) : RelR (r.then_ q) a j ↔ Thn (RelR r) (RelR q) a j := by
  unfold RelR Thn
  simp only [has_iff]
  unfold Rel.then_
  rw [from_map]
  cases e : r[a]? with
  | none =>
    have : r.from_ a = [] := by unfold Rel.from_; rw [List.getD_eq_getElem?_getD, e]; rfl
    rw [this]
    simp
  | some l =>
    have : r.from_ a = l := by unfold Rel.from_; rw [List.getD_eq_getElem?_getD, e]; rfl
    rw [this]
    dsimp only
    rw [mem_foldl_union]
    simp
theorem then_len (r q : Rel) : (r.then_ q).length = r.length := by unfold Rel.then_; rw [List.length_map]
theorem same_len (n : Nat) : (same n).length = n + 1 := by unfold same; rw [List.length_map, List.length_range]
theorem same_has {n : Nat} (a j : Nat) : RelR (same n) a j ↔ Id n a j := by
  unfold RelR
  rw [has_iff]
  unfold same
  rw [from_range]
  unfold Id
  by_cases h : a < n + 1
  · rw [if_pos h, List.mem_singleton]
    exact ⟨fun e => ⟨e.symm, by omega⟩, fun e => e.1.symm⟩
  · rw [if_neg h]
    exact ⟨fun e => absurd e List.not_mem_nil, fun e => by omega⟩
theorem or_len {r q : Rel} (h : r.length = q.length) : (r.or_ q).length = r.length := by unfold Rel.or_; rw [List.length_map, List.length_zip, h, Nat.min_self]
theorem or_has {r q : Rel} (h : r.length = q.length) (a j : Nat) : RelR (r.or_ q) a j ↔ RelR r a j ∨ RelR q a j := by
  unfold RelR
  simp only [has_iff]
  unfold Rel.or_
  rw [from_map]
  by_cases c : a < r.length
  · have e1 : r[a]? = some r[a] := List.getElem?_eq_getElem c
    have c2 : a < q.length := h ▸ c
    have e2 : q[a]? = some q[a] := List.getElem?_eq_getElem c2
    have ez : (r.zip q)[a]? = some (r[a], q[a]) := by rw [List.getElem?_zip_eq_some]; exact ⟨e1, e2⟩
    have f1 : r.from_ a = r[a] := by unfold Rel.from_; rw [List.getD_eq_getElem?_getD, e1]; rfl
    have f2 : q.from_ a = q[a] := by unfold Rel.from_; rw [List.getD_eq_getElem?_getD, e2]; rfl
    rw [ez, f1, f2]
    exact mem_union
  · have e1 : r[a]? = none := List.getElem?_eq_none (by omega)
    have e2 : q[a]? = none := List.getElem?_eq_none (by omega)
    have ez : (r.zip q)[a]? = none := List.getElem?_eq_none (by rw [List.length_zip]; omega)
    have f1 : r.from_ a = [] := by unfold Rel.from_; rw [List.getD_eq_getElem?_getD, e1]; rfl
    have f2 : q.from_ a = [] := by unfold Rel.from_; rw [List.getD_eq_getElem?_getD, e2]; rfl
    rw [ez, f1, f2]
    simp
theorem then_congr {n : Nat} {R R' Q Q' : Nat → Nat → Prop} (f : Fwd n R) (h1 : ∀ a, a ≤ n → ∀ j, R a j ↔ R' a j) (h2 : ∀ a, a ≤ n → ∀ j, Q a j ↔ Q' a j) {a : Nat} (ha : a ≤ n) (j : Nat) : Thn R Q a j ↔ Thn R' Q' a j :=
  ⟨fun ⟨k, x, y⟩ => ⟨k, (h1 a ha k).mp x, (h2 k (f a k x).2 j).mp y⟩, fun ⟨k, x, y⟩ => ⟨k, (h1 a ha k).mpr x, (h2 k (f a k ((h1 a ha k).mpr x)).2 j).mpr y⟩⟩
theorem times_succ (n : Nat) (r : Rel) (f k : Nat) : r.times n (f + 1) (k + 1) = if (k + 1) % 2 = 1 then ((r.times n f ((k + 1) / 2)).then_ (r.times n f ((k + 1) / 2))).then_ r else (r.times n f ((k + 1) / 2)).then_ (r.times n f ((k + 1) / 2)) := rfl
theorem times_len {n : Nat} {r : Rel} (h : r.length = n + 1) : ∀ (f k : Nat), (r.times n f k).length = n + 1
  | 0, k => by unfold Rel.times; exact same_len n
  | f + 1, 0 => by unfold Rel.times; exact same_len n
  | f + 1, k + 1 => by
    rw [times_succ]
    split
    · rw [then_len, then_len]; exact times_len h f _
    · rw [then_len]; exact times_len h f _
theorem times_has {n : Nat} {r : Rel} (f0 : Fwd n (RelR r)) : ∀ (f k : Nat), k < f → ∀ {a : Nat}, a ≤ n → ∀ j, RelR (r.times n f k) a j ↔ Pow n (RelR r) k a j
  | 0, k, h, _, _, _ => absurd h (Nat.not_lt_zero _)
  | f + 1, 0, _, a, ha, j => by unfold Rel.times; exact same_has a j
  | f + 1, k + 1, hk, a, ha, j => by
    have ih := fun {a : Nat} (ha : a ≤ n) (j : Nat) => times_has f0 f ((k + 1) / 2) (by omega) ha j
    have fp := Fwd.pow f0 ((k + 1) / 2)
    have dd : ∀ {a : Nat}, a ≤ n → ∀ j, RelR ((r.times n f ((k + 1) / 2)).then_ (r.times n f ((k + 1) / 2))) a j ↔ Pow n (RelR r) ((k + 1) / 2 + (k + 1) / 2) a j := fun {a} ha j => by
      rw [then_has, pow_add f0 _ _ ha]
      constructor
      · rintro ⟨c, h1, h2⟩
        have h1' := (ih ha c).mp h1
        exact ⟨c, h1', (ih (fp a c h1').2 j).mp h2⟩
      · rintro ⟨c, h1, h2⟩
        exact ⟨c, (ih ha c).mpr h1, (ih (fp a c h1).2 j).mpr h2⟩
    rw [times_succ]
    split
    · rename_i ho
      rw [then_has]
      have e : k + 1 = (k + 1) / 2 + (k + 1) / 2 + 1 := by omega
      have fq := Fwd.pow f0 ((k + 1) / 2 + (k + 1) / 2)
      rw [show Pow n (RelR r) (k + 1) a j ↔ Pow n (RelR r) ((k + 1) / 2 + (k + 1) / 2 + 1) a j by rw [← e], pow_add f0 _ 1 ha]
      constructor
      · rintro ⟨c, h1, h2⟩
        exact ⟨c, (dd ha c).mp h1, (pow_one f0 c j).mpr h2⟩
      · rintro ⟨c, h1, h2⟩
        exact ⟨c, (dd ha c).mpr h1, (pow_one f0 c j).mp h2⟩
    · have e : k + 1 = (k + 1) / 2 + (k + 1) / 2 := by omega
      rw [show Pow n (RelR r) (k + 1) a j ↔ Pow n (RelR r) ((k + 1) / 2 + (k + 1) / 2) a j by rw [← e]]
      exact dd ha j
theorem power_has {n : Nat} {r : Rel} (f0 : Fwd n (RelR r)) (k : Nat) {a : Nat} (ha : a ≤ n) (j : Nat) : RelR (r.power n k) a j ↔ Pow n (RelR r) k a j := times_has f0 _ _ (Nat.lt_succ_self _) ha j
end PF
/-! Part Q1: bytes of signs; a byte quoted; a subject quoted. -/
namespace RM
open PySem PySem.Spec PyProof.Rows L2 PF
def hexSigns : List Nat := [48, 49, 50, 51, 52, 53, 54, 55, 56, 57, 97, 98, 99, 100, 101, 102]
theorem codes_hexSigns : codes "0123456789abcdef" = hexSigns := by decide +kernel
def notPlainQ : List Nat := [92, 124, 38, 126, 42, 43, 63, 123, 125, 46, 94, 36, 40, 41, 91, 93]
theorem codes_notPlainQ : codes "\\|&~*+?{}.^$()[]" = notPlainQ := by decide +kernel
/-- a byte quoted -/
def qb (b : Nat) : List Nat :=
  if b = 10 then [92, 110] else if b = 9 then [92, 116] else if printed b = false then [92, 120, hexSigns.getD (b / 16) 0, hexSigns.getD (b % 16) 0]
  else if notPlainQ.contains b = true then [92, b] else [b]
theorem qb_len (b : Nat) : (qb b).length ≤ 4 := by
  unfold qb
  repeat' split
  all_goals simp
def qs (l : List Nat) : List Nat := l.flatMap qb
theorem qs_len : ∀ l : List Nat, (qs l).length ≤ 4 * l.length
  | [] => Nat.le_refl _
  | b :: l => by
    have h := qb_len b
    have i := qs_len l
    unfold qs at *
    rw [List.flatMap_cons, List.length_append, List.length_cons]
    omega
/-- each byte: as it's due -/
theorem qb_due : ∀ b : Nat, b < 256 → (WrPatt.quoted [UInt8.ofNat b]).map (fun (c : UInt8) => c.toNat) = qb b := by decide +kernel
theorem same_own {H0 H : Hp} {D : Addr} {o : HO} (s : Same H0 H) (hD : H0 D = none) : Same H0 (upd H D o) := fun b u e => by
  have : b ≠ D := fun z => by rw [z, hD] at e; cases e
  rw [upd_ne this]
  exact s b u e
theorem take_snoc {α : Type} {l : List α} {i : Nat} {x : α} (h : l[i]? = some x) : l.take (i + 1) = l.take i ++ [x] := by rw [List.take_add_one, h]; rfl
def spBytesOf : Sp := fun vs H Q _ => ∃ z : Str, vs = [.str z] ∧ z.cps.size ≤ 100 ∧ ∀ H' p, Same H H' → H p = none → H' p = some (.lst (nls (codes z))) → Q (.ref p) H'
def spQuotedByte : Sp := fun vs H Q _ => ∃ b : Nat, vs = [.int b] ∧ b < 256 ∧ ∀ H' p, Same H H' → H p = none → H' p = some (.lst (nls (qb b))) → Q (.ref p) H'
def spQuoted (K : PySem.W.Frag) : Sp := fun vs H Q _ => ∃ (a : Addr) (l : List Nat), vs = [.ref a] ∧ SqL K H a (nls l) ∧ (∀ b ∈ l, b < 256) ∧ l.length ≤ 300 ∧ ∀ H' p, Same H H' → H p = none → H' p = some (.lst (nls (qs l))) → Q (.ref p) H'
section
variable {P : Program} {w : World} {K : PySem.W.Frag} {mg : Str → Option Value} {base : Heap} {c : Cs} {fI : Addr}
theorem ok_bytesOf (T : Txt K mg c fI) : DOk P w K mg base CX0 1 "bytes_of" ["signs"] spBytesOf := by
  obtain ⟨f, fd, mf, kf, F, b⟩ := T.t_bytes_of
  refine ⟨f, fd, mf, kf, F.ok sc_bytes_of (fun vs H Q E h => ?_) (fun cdv A outer s H vs Q E hr h => ⟨_, pss_one (ps_ret (pe_lc (own := [("sign", 1)]) (g := gName 1) (tt := tYes) rfl sc_bytes_of.nd (pi_str (pv 0)) (blkOk_by (N := ["signs", "sign"]) (sc := defScope s_bytes_of) (by decide +kernel)) (fun _ _ _ _ _ => (pg_name (i := 1) sc_bytes_of.nd rfl (Or.inl rfl))) (fun _ _ _ _ _ => pts_nil) (fun _ _ _ _ _ => (pe_callB call_ord (by rfl) T.b_ord (by decide +kernel) (pa_cons (pv 1) pa_nil))))), ?_⟩), b⟩
  · obtain ⟨z, rfl, _⟩ := h; rfl
  · obtain ⟨z, rfl, hz, q⟩ := h
    refine ⟨_, rfl, z, rfl, fun D hD => lc_it walk_str (fun i H1 => Same H H1 ∧ H1 D = some (.lst (nls ((codes z).take i)))) ⟨same_upd hD, upd_same⟩ (fun _ _ _ _ => trivial) ?_ ?_⟩
    · rintro i x H1 H2 hi ⟨s1, s2⟩ ⟨rfl, k, hk, rfl⟩
      refine ⟨rfl, _, rfl, _, rfl, rfl, _, s2, ?_, ?_, ?_⟩
      · unfold nls; rw [List.length_map, List.length_take]
        exact Nat.lt_of_le_of_lt (Nat.min_le_right _ _) (Nat.lt_of_le_of_lt (by unfold codes; rw [Array.length_toList]; exact hz) (by decide))
      · intro a o e
        have : a ≠ D := fun y => by rw [y, hD] at e; cases e
        rw [upd_ne this]; exact s1 a o e
      · rw [upd_same]
        have hk' : (codes z)[i]? = some k := by unfold codes; rw [Array.getElem?_toList]; exact hk
        have e : (codes z).take (i + 1) = (codes z).take i ++ [k] := by
          rw [List.take_add_one, hk']; rfl
        rw [e]
        unfold nls
        rw [List.map_append]
        rfl
    · rintro H1 ⟨s1, s2⟩
      have e : (codes z).take z.cps.size = codes z := by
        rw [← Array.length_toList]; exact List.take_length
      rw [e] at s2
      exact q H1 D s1 hD s2
theorem hex_at {b : Nat} (h : b < 16) : atI hexSigns (b : Int) = some (hexSigns.getD b 0) := by
  have : hexSigns[b]? = some (hexSigns.getD b 0) := by
    rw [List.getD_eq_getElem?_getD, List.getElem?_eq_getElem (show b < hexSigns.length from h)]
    rfl
  exact atI_nat this
theorem ok_quotedByte (T : Txt K mg c fI) : DOk P w K mg base CX0 2 "quoted_byte" ["byte"] spQuotedByte := by
  obtain ⟨_, _, g_bytes_of, k_bytes_of, G_bytes_of, B_bytes_of⟩ := ok_bytesOf (P := P) (w := w) (base := base) T
  obtain ⟨_, _, g_is_printed, k_is_printed, G_is_printed, B_is_printed⟩ := ok_printed (P := P) (w := w) (base := base) T
  obtain ⟨_, _, g_among, k_among, G_among, B_among⟩ := ok_among (P := P) (w := w) (base := base) T
  obtain ⟨f, fd, mf, kf, F, b⟩ := T.t_quoted_byte
  refine ⟨f, fd, mf, kf, F.ok sc_quoted_byte (fun vs H Q E h => ?_) (fun cdv A outer s H vs Q E hr h => ⟨_, pss_cons (ps_if (pt_cmpR op_eq (pv 0) (pe_callB call_ord (by rfl) T.b_ord (by decide +kernel) (pa_cons pe_str pa_nil)) (nomark _)) (pss_one (ps_ret (pe_call G_bytes_of (hr.mono (by decide)) rfl g_bytes_of k_bytes_of B_bytes_of .nil pass0 (pa_cons pe_str pa_nil)))) pss_nil) (pss_cons (ps_if (pt_cmpR op_eq (pv 0) (pe_callB call_ord (by rfl) T.b_ord (by decide +kernel) (pa_cons pe_str pa_nil)) (nomark _)) (pss_one (ps_ret (pe_call G_bytes_of (hr.mono (by decide)) rfl g_bytes_of k_bytes_of B_bytes_of .nil pass0 (pa_cons pe_str pa_nil)))) pss_nil) (pss_cons (ps_if (pt_not (pt_val (pe_call G_is_printed (hr.mono (by decide)) rfl g_is_printed k_is_printed B_is_printed .nil pass0 (pa_cons (pv 0) pa_nil)))) (pss_one (ps_ret (pe_call G_bytes_of (hr.mono (by decide)) rfl g_bytes_of k_bytes_of B_bytes_of .nil pass0 (pa_cons (pe_op op_add_str (pe_op op_add_str pe_str (pe_ix ix_str (pe_globS rfl T.g_HEX_DIGITS) (pe_op op_fdiv (pv 0) pe_int) (fun _ _ => rfl))) (pe_ix ix_str (pe_globS rfl T.g_HEX_DIGITS) (pe_op op_mod (pv 0) pe_int) (fun _ _ => rfl))) pa_nil)))) pss_nil) (pss_cons (ps_if (pt_val (pe_call G_among (hr.mono (by decide)) rfl g_among k_among B_among .nil pass0 (pa_cons (pv 0) (pa_cons (pe_globS rfl T.g_NOT_PLAIN) pa_nil)))) (pss_one (ps_ret (pe_lst (pa_cons (pe_callB call_ord (by rfl) T.b_ord (by decide +kernel) (pa_cons pe_str pa_nil)) (pa_cons (pv 0) pa_nil))))) pss_nil) (pss_one (ps_ret (pe_lst (pa_cons (pv 0) pa_nil))))))), ?_⟩), b⟩
  · obtain ⟨b, rfl, _⟩ := h; rfl
  · obtain ⟨b, rfl, hb, q⟩ := h
    have out : ∀ {z : Str}, z.cps.size ≤ 100 → codes z = qb b → spBytesOf [.str z] H Q E := fun {z} hz e => ⟨z, rfl, hz, fun H' p s1 np hp => q H' p s1 np (by rw [← e]; exact hp)⟩
    refine ⟨_, rfl, _, rfl, rfl, rfl, _, rfl, ?_⟩
    by_cases c1 : b = 10
    · subst c1
      exact if_true_of (by decide +kernel) (out (by decide +kernel) (by decide +kernel))
    refine if_false_of (decide_eq_false fun z => c1 (by have z' : ((b : Nat) : Int) = ((10 : Nat) : Int) := by injection z
                                                        exact Int.ofNat.inj z')) ?_
    refine ⟨_, rfl, _, rfl, rfl, rfl, _, rfl, ?_⟩
    by_cases c2 : b = 9
    · subst c2
      exact if_true_of (by decide +kernel) (out (by decide +kernel) (by decide +kernel))
    refine if_false_of (decide_eq_false fun z => c2 (by have z' : ((b : Nat) : Int) = ((9 : Nat) : Int) := by injection z
                                                        exact Int.ofNat.inj z')) ?_
    refine ⟨_, rfl, b, rfl, _, rfl, ?_⟩
    by_cases c3 : printed b = false
    · rw [c3]
      refine if_true_of rfl ?_
      have hh : ∀ {k : Nat} {i : Int}, k < 16 → i = k → atI (codes "0123456789abcdef") i = some (hexSigns.getD k 0) := fun {k i} hk e => by rw [codes_hexSigns, e]; exact hex_at hk
      refine ⟨_, rfl, _, _, rfl, rfl, ⟨by decide, by decide⟩, _, _, _, rfl, rfl, by decide +kernel, hh (k := b / 16) (by omega) (by omega), ?_⟩
      refine ⟨_, _, rfl, rfl, (by show 2 + 1 ≤ sizeLine; decide), ?_⟩
      refine ⟨_, rfl, _, _, rfl, rfl, (by show (0 : Int) < 16; decide), _, _, _, rfl, rfl, by decide +kernel, hh (k := b % 16) (by omega) (by omega), ?_⟩
      refine ⟨_, _, rfl, rfl, (by show 3 + 1 ≤ sizeLine; decide), ?_⟩
      refine out (by show 4 ≤ 100; decide) ?_
      unfold qb
      rw [if_neg c1, if_neg c2, if_pos c3]
      rfl
    have c3' : printed b = true := by
      cases e : printed b with
      | true => rfl
      | false => exact absurd e c3
    rw [c3']
    refine if_false_of rfl ?_
    refine ⟨_, rfl, b, _, rfl, by decide +kernel, fun H1 s1 => ?_⟩
    refine ⟨_, rfl, ?_⟩
    rw [codes_notPlainQ]
    by_cases c4 : notPlainQ.contains b = true
    · refine if_true_of c4 ?_
      refine ⟨_, rfl, rfl, _, rfl, (by show 2 ≤ sizeLine; decide), fun p np => ?_⟩
      refine q _ p (s1.trans (same_upd np)) (s1.free np) ?_
      rw [upd_same]
      unfold qb
      rw [if_neg c1, if_neg c2, if_neg c3, if_pos c4]
      rfl
    · refine if_false_of (by cases e : notPlainQ.contains b with
        | true => exact absurd e c4
        | false => rfl) ?_
      refine ⟨_, rfl, (by show 1 ≤ sizeLine; decide), fun p np => ?_⟩
      refine q _ p (s1.trans (same_upd np)) (s1.free np) ?_
      rw [upd_same]
      unfold qb
      rw [if_neg c1, if_neg c2, if_neg c3, if_neg c4]
      rfl
theorem ok_quoted (T : Txt K mg c fI) : DOk P w K mg base CX0 3 "quoted" ["subject"] (spQuoted K) := by
  obtain ⟨_, _, g_quoted_byte, k_quoted_byte, G_quoted_byte, B_quoted_byte⟩ := ok_quotedByte (P := P) (w := w) (base := base) T
  obtain ⟨f, fd, mf, kf, F, b⟩ := T.t_quoted
  refine ⟨f, fd, mf, kf, F.ok sc_quoted (fun vs H Q E h => ?_) (fun cdv A outer s H vs Q E hr h => ⟨_, pss_cons (ps_set (i := 1) sc_quoted.nd rfl (Or.inl rfl) (pe_lst pa_nil)) (pss_cons (ps_for PassesOwn.never rfl (pi_list (pv 0)) (pg_name (i := 2) sc_quoted.nd rfl (Or.inl rfl)) (pss_one (ps_expr (pe_bm PySem.F.plainAttrs_list PySem.F.slot_list_extend PySem.F.type_list_extend mt_extend (pv 1) (pa_cons (pe_call G_quoted_byte (hr.mono (by decide)) rfl g_quoted_byte k_quoted_byte B_quoted_byte .nil pass0 (pa_cons (pv 2) pa_nil)) pa_nil))))) (pss_one (ps_ret (pv 1)))), ?_⟩), b⟩
  · obtain ⟨_, _, rfl, _⟩ := h; rfl
  · obtain ⟨a, l, rfl, ha, hl, h3, q⟩ := h
    refine ⟨(by decide : 0 ≤ sizeLine), fun D nD => ?_⟩
    have s0 : Same H (upd H D (.lst [])) := same_upd nD
    refine ⟨_, rfl, a, rfl, ⟨_, s0.seq ha⟩, ?_⟩
    refine for_list (K := K) (a := a) (xs := nls l) (fun i σ H' => Same H H' ∧ ∃ y, σ = [some (.ref a), some (.ref D), y] ∧ H' D = some (.lst (nls (qs (l.take i)))))
      ⟨s0, _, rfl, upd_same⟩ (fun i σ H' _ h => h.1.seq ha) ?_ ?_
    · rintro i v σ H' hv ⟨s1, y, rfl, hD⟩
      obtain ⟨x, hx, rfl⟩ : ∃ x : Nat, l[i]? = some x ∧ v = .int x := by
        unfold nls at hv
        rw [List.getElem?_map] at hv
        cases hx : l[i]? with
        | none => rw [hx] at hv; cases hv
        | some x => rw [hx] at hv; cases hv; exact ⟨x, rfl, rfl⟩
      refine ⟨_, rfl, .inl ⟨rfl, _, SqL.of hD⟩, _, rfl, x, rfl, hl x (List.mem_of_getElem? hx), fun H2 p s2 np hp => ?_⟩
      have hlen := qs_len (l.take i)
      have hq := qb_len x
      have htl : (l.take i).length ≤ 300 := by rw [List.length_take]; omega
      refine ⟨D, p, _, _, rfl, rfl, s2 _ _ hD, hp, ?_, same_own (s1.trans s2) nD, _, rfl, ?_⟩
      · unfold nls
        rw [List.length_map, List.length_map]
        exact Nat.le_trans (by omega : _ ≤ 1204) (by decide)
      · rw [upd_same, take_snoc hx]
        unfold qs nls
        rw [List.flatMap_append, List.map_append]
        simp
    · rintro σ H' ⟨s1, y, rfl, hD⟩
      unfold nls at hD
      rw [List.length_map, List.take_length] at hD
      exact ⟨_, rfl, q H' D s1 nD hD⟩
end
end RM
/-! Part M2: what forms fit, told by what their parts fit; that it's what the specification's pattern fits. -/
namespace PF
open WrPatt
def wordN (c : Nat) : Bool := (decide (65 ≤ c) && decide (c ≤ 90)) || ((decide (97 ≤ c) && decide (c ≤ 122)) || ((decide (48 ≤ c) && decide (c ≤ 57)) || decide (c = 95)))
theorem k_word : ∀ n < 256, isWordByte (UInt8.ofNat n) = wordN n := by decide +kernel
def wordAtN (q : List Nat) (i : Nat) : Bool := match q[i]? with
  | some c => wordN c
  | none => false
def edgeN (q : List Nat) (i : Nat) : Bool := (if i = 0 then false else wordAtN q (i - 1)) != wordAtN q i
theorem tx_get (q : List Nat) (i : Nat) : (tx q)[i]? = q[i]?.map UInt8.ofNat := by unfold tx; rw [List.getElem?_map]
theorem wordAt_is {q : List Nat} (h : Ok8 q) (i : Nat) : wordAt (tx q) i = wordAtN q i := by
  unfold wordAt wordAtN
  rw [tx_get]
  cases e : q[i]? with
  | none => rfl
  | some c => exact k_word c (h c (List.mem_of_getElem? e))
theorem edge_is {q : List Nat} (h : Ok8 q) (i : Nat) : edge (tx q) i = edgeN q i := by
  unfold edge edgeN
  rw [wordAt_is h, wordAt_is h]
/-- at its own place alone -/
def AtP (n : Nat) (f : Nat → Bool) : Nat → Nat → Prop := fun a j => a = j ∧ a ≤ n ∧ f a = true
def ByteR (q : List Nat) (f : Nat → Bool) : Nat → Nat → Prop := fun a j => j = a + 1 ∧ ∃ c, q[a]? = some c ∧ f c = true
def OrId (n : Nat) (R : Nat → Nat → Prop) : Nat → Nat → Prop := fun a j => Id n a j ∨ R a j
def CntR (n : Nat) (R : Nat → Nat → Prop) (k : Nat) : Option Nat → Nat → Nat → Prop
  | none => Thn (Pow n R k) (fun a j => ∃ t, Pow n R t a j)
  | some m => Thn (Pow n R k) (Pow n (OrId n R) (m - k))
/-- what a form fits, by what its parts fit -/
def comb (q : List Nat) (ρ : Nat → Nat → Nat → Prop) (fm : Fm) : Nat → Nat → Prop := match fm.kd with
  | .byte => (match fm.tl with
    | .mem m => ByteR q fun c => m.getD c false
    | _ => fun _ _ => False)
  | .begin_ => AtP q.length fun a => decide (a = 0)
  | .end_ => AtP q.length fun a => decide (a = q.length)
  | .edge => AtP q.length fun a => edgeN q a
  | .noEdge => AtP q.length fun a => !edgeN q a
  | .row => fm.parts.foldl (fun R p => Thn R (ρ p)) (Id q.length)
  | .either => fun a j => ∃ p ∈ fm.parts, ρ p a j
  | .both => fun a j => ∀ p ∈ fm.parts, ρ p a j
  | .turned => fun a j => a ≤ j ∧ j ≤ q.length ∧ ¬ ρ (fm.parts.headD 0) a j
  | .counted => (match fm.tl with
    | .cnt k m => CntR q.length (ρ (fm.parts.headD 0)) k m
    | _ => fun _ _ => False)
  | .group => ρ (fm.parts.headD 0)
def BitR (E : List Nat) : Nat → Nat → Prop := fun a j => bitAt E a j = true
/-- each form's numbers are right by its parts' -/
def Local (q : List Nat) (fs : List Fm) (Es : List (List Nat)) (i : Nat) : Prop := ∀ fm, fs[i]? = some fm → Fit q.length (Es.getD i []) (comb q (fun p => BitR (Es.getD p [])) fm)

/-! ### powers, cut short -/
theorem pow_short {n : Nat} {R : Nat → Nat → Prop} (f : Fwd n R) : ∀ (t : Nat) {a j : Nat}, Pow n R t a j → ∃ s, s ≤ t ∧ s ≤ j - a ∧ Pow n R s a j
  | 0, a, j, h => ⟨0, Nat.le_refl _, Nat.zero_le _, h⟩
  | t + 1, a, j, ⟨k, h1, h2⟩ => by
    obtain ⟨s, l1, l2, h3⟩ := pow_short f t h2
    have fk := f a k h1
    by_cases e : a = k
    · subst e; exact ⟨s, by omega, l2, h3⟩
    · have fj := (Fwd.pow f s k j h3).1
      exact ⟨s + 1, by omega, by omega, k, h1, h3⟩
theorem orId_fwd {n : Nat} {R : Nat → Nat → Prop} (f : Fwd n R) : Fwd n (OrId n R) := fun a j h => h.elim (Fwd.id n a j) (f a j)
theorem pow_orId {n : Nat} {R : Nat → Nat → Prop} (f : Fwd n R) : ∀ (t : Nat) {a j : Nat}, Pow n (OrId n R) t a j ↔ ∃ s, s ≤ t ∧ Pow n R s a j
  | 0, a, j => ⟨fun h => ⟨0, Nat.le_refl _, h⟩, fun ⟨s, l, h⟩ => by
      have : s = 0 := Nat.le_zero.mp l
      subst this; exact h⟩
  | t + 1, a, j => by
    constructor
    · rintro ⟨k, h1, h2⟩
      obtain ⟨s, l, h3⟩ := (pow_orId f t).mp h2
      rcases h1 with ⟨e, _⟩ | h1
      · subst e; exact ⟨s, by omega, h3⟩
      · exact ⟨s + 1, by omega, k, h1, h3⟩
    · rintro ⟨s, l, h⟩
      cases s with
      | zero => exact ⟨a, .inl ⟨rfl, h.2⟩, (pow_orId f t).mpr ⟨0, Nat.zero_le _, h⟩⟩
      | succ s =>
        obtain ⟨k, h1, h2⟩ := h
        exact ⟨k, .inr h1, (pow_orId f t).mpr ⟨s, by omega, h2⟩⟩
theorem pow_congr {n : Nat} {R R' : Nat → Nat → Prop} (f : Fwd n R) (h : ∀ a, a ≤ n → ∀ j, R a j ↔ R' a j) : ∀ (t : Nat) {a : Nat}, a ≤ n → ∀ j, Pow n R t a j ↔ Pow n R' t a j
  | 0, _, _, _ => Iff.rfl
  | t + 1, a, ha, j => then_congr f h (fun b hb k => pow_congr f h t hb k) ha j
theorem counted_has {n : Nat} {r : Rel} (hl : r.length = n + 1) (f : Fwd n (RelR r)) (k : Nat) (m : Option Nat) (hm : ∀ x, m = some x → k ≤ x) {a : Nat} (ha : a ≤ n) (j : Nat) : RelR (r.counted n k m) a j ↔ CntR n (RelR r) k m a j := by
  have hor : ∀ a, a ≤ n → ∀ j, RelR ((same n).or_ r) a j ↔ OrId n (RelR r) a j := fun a _ j => by
    rw [or_has (by rw [same_len, hl])]
    unfold OrId
    rw [same_has]
  have fo : Fwd n (RelR ((same n).or_ r)) := fun a j h => by
    rw [or_has (by rw [same_len, hl]), same_has] at h
    exact h.elim (Fwd.id n a j) (f a j)
  have fp := Fwd.pow f k
  have pw : ∀ (t : Nat) {b : Nat}, b ≤ n → ∀ j, RelR (((same n).or_ r).power n t) b j ↔ Pow n (OrId n (RelR r)) t b j := fun t b hb j => (power_has fo t hb j).trans (pow_congr fo hor t hb j)
  unfold Rel.counted
  rw [then_has]
  cases m with
  | none =>
    constructor
    · rintro ⟨b, h1, h2⟩
      have h1 := (power_has f k ha b).mp h1
      obtain ⟨s, _, h3⟩ := (pow_orId f _).mp ((pw _ (fp a b h1).2 j).mp h2)
      exact ⟨b, h1, s, h3⟩
    · rintro ⟨b, h1, t, h2⟩
      obtain ⟨s, _, l2, h3⟩ := pow_short f t h2
      have hb := (fp a b h1).2
      have hj := (Fwd.pow f t b j h2)
      exact ⟨b, (power_has f k ha b).mpr h1, (pw _ hb j).mpr ((pow_orId f _).mpr ⟨s, (by show s ≤ n + 1; omega), h3⟩)⟩
  | some x =>
    constructor
    · rintro ⟨b, h1, h2⟩
      have h1 := (power_has f k ha b).mp h1
      obtain ⟨s, l, h3⟩ := (pow_orId f _).mp ((pw _ (fp a b h1).2 j).mp h2)
      exact ⟨b, h1, (pow_orId f _).mpr ⟨s, Nat.le_trans l (Nat.min_le_left _ _), h3⟩⟩
    · rintro ⟨b, h1, h2⟩
      obtain ⟨s, l1, h3⟩ := (pow_orId f _).mp h2
      obtain ⟨s', l2, l3, h4⟩ := pow_short f s h3
      have hb := (fp a b h1).2
      have hj := Fwd.pow f s b j h3
      exact ⟨b, (power_has f k ha b).mpr h1, (pw _ hb j).mpr ((pow_orId f _).mpr ⟨s', (by show s' ≤ min (x - k) (n + 1); omega), h4⟩)⟩
theorem counted_len {n : Nat} {r : Rel} (h : r.length = n + 1) (k : Nat) (m : Option Nat) : (r.counted n k m).length = n + 1 := by
  unfold Rel.counted Rel.power
  rw [then_len]
  exact times_len h _ _
theorem cnt_fwd {n : Nat} {R : Nat → Nat → Prop} (f : Fwd n R) (k : Nat) (m : Option Nat) : Fwd n (CntR n R k m) := by
  cases m with
  | none => exact (Fwd.pow f k).then_ fun a j ⟨t, h⟩ => Fwd.pow f t a j h
  | some x => exact (Fwd.pow f k).then_ (Fwd.pow (orId_fwd f) _)

/-! ### the specification's patterns -/
theorem range_has {m : Nat} {f : Nat → List Nat} (a j : Nat) : RelR ((List.range m).map f) a j ↔ a < m ∧ j ∈ f a := by
  unfold RelR
  rw [has_iff, from_range]
  by_cases h : a < m
  · rw [if_pos h]; exact ⟨fun z => ⟨h, z⟩, fun z => z.2⟩
  · rw [if_neg h]; exact ⟨fun z => absurd z List.not_mem_nil, fun z => absurd z.1 h⟩
theorem zipIdx_has {r : Rel} {f : List Nat × Nat → List Nat} (a j : Nat) : RelR (r.zipIdx.map f) a j ↔ a < r.length ∧ j ∈ f (r.from_ a, a) := by
  unfold RelR
  rw [has_iff, from_map]
  by_cases h : a < r.length
  · have e : r.zipIdx[a]? = some (r.from_ a, a) := by
      rw [List.getElem?_zipIdx, List.getElem?_eq_getElem h]
      unfold Rel.from_
      rw [List.getD_eq_getElem?_getD, List.getElem?_eq_getElem h, Nat.zero_add]
      rfl
    rw [e]
    exact ⟨fun z => ⟨h, z⟩, fun z => z.2⟩
  · have e : r.zipIdx[a]? = none := List.getElem?_eq_none (by rw [List.length_zipIdx]; omega)
    rw [e]
    exact ⟨fun z => absurd z List.not_mem_nil, fun z => absurd z.1 h⟩
theorem set_has {q : List Nat} (h8 : Ok8 q) (neg : Bool) (l : List (Nat × Nat)) (a j : Nat) : RelR (rel (tx q) (.set neg l)) a j ↔ ByteR q (inSetN neg l) a j := by
  unfold rel
  rw [range_has, tx_length, tx_get]
  unfold ByteR
  cases e : q[a]? with
  | none =>
    have he : (Option.map UInt8.ofNat (none : Option Nat)).any (inSet neg l) = false := rfl
    rw [he, if_neg Bool.false_ne_true]
    exact ⟨fun z => absurd z.2 List.not_mem_nil, fun ⟨_, c, z, _⟩ => by cases z⟩
  | some c =>
    have hc : c < 256 := h8 c (List.mem_of_getElem? e)
    have ha : a < q.length := (List.getElem?_eq_some_iff.mp e).1
    have he : (Option.map UInt8.ofNat (some c)).any (inSet neg l) = inSetN neg l c := by
      show inSet neg l (UInt8.ofNat c) = _
      unfold inSet inSetN
      rw [k_nat c hc]
    rw [he]
    by_cases hs : inSetN neg l c = true
    · rw [if_pos hs, List.mem_singleton]
      exact ⟨fun z => ⟨z.2, c, rfl, hs⟩, fun z => ⟨by omega, z.1⟩⟩
    · rw [if_neg hs]
      exact ⟨fun z => absurd z.2 List.not_mem_nil, fun ⟨_, c', z, hz⟩ => by cases z; exact absurd hz hs⟩
theorem at_has {n : Nat} {f : Nat → Bool} {g : Nat → List Nat} (hg : ∀ a, a ≤ n → g a = if f a = true then [a] else []) (a j : Nat) : RelR ((List.range (n + 1)).map g) a j ↔ AtP n f a j := by
  rw [range_has]
  unfold AtP
  constructor
  · rintro ⟨h1, h2⟩
    rw [hg a (by omega)] at h2
    split at h2
    · rename_i hf; exact ⟨(List.mem_singleton.mp h2).symm, by omega, hf⟩
    · exact absurd h2 List.not_mem_nil
  · rintro ⟨rfl, h2, h3⟩
    refine ⟨by omega, ?_⟩
    rw [hg a h2, if_pos h3]
    exact List.mem_singleton.mpr rfl
theorem byte_fwd (q : List Nat) (f : Nat → Bool) : Fwd q.length (ByteR q f) := fun a j ⟨e, c, h, _⟩ => by
  have := (List.getElem?_eq_some_iff.mp h).1
  omega
theorem at_fwd (n : Nat) (f : Nat → Bool) : Fwd n (AtP n f) := fun a j ⟨e, h, _⟩ => by omega
theorem fwd_congr {n : Nat} {R R' : Nat → Nat → Prop} (f : Fwd n R) (h : ∀ a j, R' a j ↔ R a j) : Fwd n R' := fun a j z => f a j ((h a j).mp z)
theorem begin_has (s : Bytes) (a j : Nat) : RelR (rel s .begin_) a j ↔ AtP s.length (fun a => decide (a = 0)) a j := by
  unfold rel
  refine at_has (fun a _ => ?_) a j
  by_cases h : a = 0
  · rw [if_pos h, if_pos (decide_eq_true h), h]
  · rw [if_neg h, if_neg (by rw [decide_eq_false h]; exact Bool.false_ne_true)]
theorem end_has (s : Bytes) (a j : Nat) : RelR (rel s .end_) a j ↔ AtP s.length (fun a => decide (a = s.length)) a j := by
  unfold rel
  refine at_has (fun a _ => ?_) a j
  by_cases h : a = s.length
  · rw [if_pos h, if_pos (decide_eq_true h)]
  · rw [if_neg h, if_neg (by rw [decide_eq_false h]; exact Bool.false_ne_true)]
theorem bound_has (s : Bytes) (neg : Bool) (a j : Nat) : RelR (rel s (.bound neg)) a j ↔ AtP s.length (fun a => edge s a != neg) a j := by
  unfold rel
  exact at_has (fun a _ => rfl) a j
theorem both_has {s : Bytes} {a b : Pat} (ha : (rel s a).length = s.length + 1) (f : Fwd s.length (RelR (rel s a))) (i j : Nat) : RelR (rel s (.both a b)) i j ↔ RelR (rel s a) i j ∧ RelR (rel s b) i j := by
  show RelR ((rel s a).zipIdx.map fun x => x.1.filter ((rel s b).from_ x.2).contains) i j ↔ _
  rw [zipIdx_has, ha]
  unfold RelR
  rw [has_iff, List.mem_filter]
  constructor
  · rintro ⟨_, h1, h2⟩; exact ⟨h1, h2⟩
  · rintro ⟨h1, h2⟩
    have := f i j (has_iff.mpr h1)
    exact ⟨by omega, h1, h2⟩
theorem not_has {s : Bytes} {a : Pat} (ha : (rel s a).length = s.length + 1) (i j : Nat) : RelR (rel s (.not_ a)) i j ↔ i ≤ j ∧ j ≤ s.length ∧ ¬ RelR (rel s a) i j := by
  show RelR ((rel s a).zipIdx.map fun x => (List.range (s.length + 1)).filter fun j => decide (x.2 ≤ j) && !x.1.contains j) i j ↔ _
  rw [zipIdx_has, ha]
  rw [List.mem_filter, List.mem_range, Bool.and_eq_true, decide_eq_true_eq, Bool.not_eq_true']
  unfold RelR Rel.has
  constructor
  · rintro ⟨_, h1, h2, h3⟩
    exact ⟨h2, by omega, by rw [h3]; exact Bool.false_ne_true⟩
  · rintro ⟨h1, h2, h3⟩
    exact ⟨by omega, by omega, h1, Bool.eq_false_iff.mpr h3⟩
/-- lengths, and that it goes forward -/
theorem rel_ok {q : List Nat} (h8 : Ok8 q) : ∀ a : Pat, (rel (tx q) a).length = q.length + 1 ∧ Fwd q.length (RelR (rel (tx q) a))
  | .empty => ⟨by show (same (tx q).length).length = _; rw [same_len, tx_length], by
      refine fwd_congr (Fwd.id q.length) fun a j => ?_
      show RelR (same (tx q).length) a j ↔ _
      rw [same_has, tx_length]⟩
  | .set neg l => ⟨by unfold rel; rw [List.length_map, List.length_range, tx_length], fwd_congr (byte_fwd q _) (set_has h8 neg l)⟩
  | .begin_ => ⟨by unfold rel; rw [List.length_map, List.length_range, tx_length], by have := fwd_congr (at_fwd (tx q).length _) (begin_has (tx q)); rw [tx_length] at this; exact this⟩
  | .end_ => ⟨by unfold rel; rw [List.length_map, List.length_range, tx_length], by have := fwd_congr (at_fwd (tx q).length _) (end_has (tx q)); rw [tx_length] at this; exact this⟩
  | .bound neg => ⟨by unfold rel; rw [List.length_map, List.length_range, tx_length], by have := fwd_congr (at_fwd (tx q).length _) (bound_has (tx q) neg); rw [tx_length] at this; exact this⟩
  | .seq a b => ⟨by show ((rel (tx q) a).then_ (rel (tx q) b)).length = _; rw [then_len]; exact (rel_ok h8 a).1, fwd_congr ((rel_ok h8 a).2.then_ (rel_ok h8 b).2) fun i j => then_has i j⟩
  | .alt a b => ⟨by show ((rel (tx q) a).or_ (rel (tx q) b)).length = _; rw [or_len ((rel_ok h8 a).1.trans (rel_ok h8 b).1.symm)]; exact (rel_ok h8 a).1, fun i j h => by
      have := (or_has ((rel_ok h8 a).1.trans (rel_ok h8 b).1.symm) i j).mp h
      exact this.elim ((rel_ok h8 a).2 i j) ((rel_ok h8 b).2 i j)⟩
  | .both a b => ⟨by unfold rel; rw [List.length_map, List.length_zipIdx]; exact (rel_ok h8 a).1, fun i j h => by
      have f := (rel_ok h8 a).2
      have := (both_has (s := tx q) (a := a) (b := b) (by rw [tx_length]; exact (rel_ok h8 a).1) (by rw [tx_length]; exact f) i j).mp h
      exact f i j this.1⟩
  | .not_ a => ⟨by unfold rel; rw [List.length_map, List.length_zipIdx]; exact (rel_ok h8 a).1, fun i j h => by
      have := (not_has (s := tx q) (a := a) (by rw [tx_length]; exact (rel_ok h8 a).1) i j).mp h
      rw [tx_length] at this
      exact ⟨this.1, this.2.1⟩⟩
  | .group _ a => rel_ok h8 a
  | .rep a k m => ⟨by show ((rel (tx q) a).counted (tx q).length k m).length = _; rw [tx_length]; exact counted_len (rel_ok h8 a).1 k m, fun i j h => by
      have h' : RelR ((rel (tx q) a).counted (tx q).length k m) i j := h
      rw [tx_length] at h'
      have f := (rel_ok h8 a).2
      have l := (rel_ok h8 a).1
      have fo : Fwd q.length (RelR ((same q.length).or_ (rel (tx q) a))) := fun a j h => by
        rw [or_has (by rw [same_len, l]), same_has] at h
        exact h.elim (Fwd.id _ a j) (f a j)
      unfold Rel.counted at h'
      rw [then_has] at h'
      obtain ⟨b, h1, h2⟩ := h'
      have hi : i ≤ q.length := by
        have e : i < ((rel (tx q) a).power q.length k).length := by
          rcases Nat.lt_or_ge i ((rel (tx q) a).power q.length k).length with z | z
          · exact z
          · unfold RelR at h1
            rw [has_iff] at h1
            unfold Rel.from_ at h1
            rw [List.getD_eq_getElem?_getD, List.getElem?_eq_none z] at h1
            exact absurd h1 List.not_mem_nil
        unfold Rel.power at e
        rw [times_len l] at e
        omega
      have g1 := Fwd.pow f k i b ((power_has f k hi b).mp h1)
      have g2 := Fwd.pow fo _ b j ((power_has fo _ g1.2 j).mp h2)
      omega⟩
end PF
/-! Part M3: from forms laid out to what they fit. -/
namespace PF
open WrPatt
def FitL (q : List Nat) (Es : List (List Nat)) : List Nat → List Pat → Prop
  | [], [] => True
  | j :: js, a :: as => Fit q.length (Es.getD j []) (RelR (rel (tx q) a)) ∧ FitL q Es js as
  | _, _ => False
def SeqR (q : List Nat) : List Pat → Nat → Nat → Prop
  | [] => Id q.length
  | a :: as => Thn (RelR (rel (tx q) a)) (SeqR q as)
theorem seqR_fwd {q : List Nat} (h8 : Ok8 q) : ∀ as, Fwd q.length (SeqR q as)
  | [] => Fwd.id _
  | a :: as => (rel_ok h8 a).2.then_ (seqR_fwd h8 as)
theorem seqR_is {q : List Nat} (h8 : Ok8 q) : ∀ as i j, RelR (rel (tx q) (seqOf as)) i j ↔ SeqR q as i j
  | [], i, j => by
    show RelR (same (tx q).length) i j ↔ _
    rw [same_has, tx_length]; exact Iff.rfl
  | [a], i, j => (then_id (rel_ok h8 a).2 i j).symm
  | a :: b :: r, i, j => by
    show RelR ((rel (tx q) a).then_ (rel (tx q) (seqOf (b :: r)))) i j ↔ _
    rw [then_has]
    exact ⟨fun ⟨k, h1, h2⟩ => ⟨k, h1, (seqR_is h8 (b :: r) k j).mp h2⟩, fun ⟨k, h1, h2⟩ => ⟨k, h1, (seqR_is h8 (b :: r) k j).mpr h2⟩⟩
theorem fold_is {q : List Nat} (h8 : Ok8 q) {Es : List (List Nat)} : ∀ {js : List Nat} {as : List Pat} {R0 : Nat → Nat → Prop}, FitL q Es js as → Fwd q.length R0 → ∀ a, a ≤ q.length → ∀ j, js.foldl (fun R p => Thn R (BitR (Es.getD p []))) R0 a j ↔ Thn R0 (SeqR q as) a j
  | [], [], R0, _, f, a, _, j => (then_id f a j).symm
  | [], _ :: _, _, h, _, _, _, _ => h.elim
  | _ :: _, [], _, h, _, _, _, _ => h.elim
  | p :: js, b :: as, R0, h, f, a, ha, j => by
    have e : ∀ c, c ≤ q.length → ∀ k, BitR (Es.getD p []) c k ↔ RelR (rel (tx q) b) c k := fun c hc k => h.1.bit c hc k
    have f1 : Fwd q.length (Thn R0 (BitR (Es.getD p []))) := fun c k ⟨l, h1, h2⟩ => by
      have g1 := f c l h1
      have g2 := (rel_ok h8 b).2 l k ((e l g1.2 k).mp h2)
      omega
    rw [List.foldl_cons, fold_is h8 h.2 f1 a ha j]
    constructor
    · rintro ⟨k, ⟨l, h1, h2⟩, h3⟩
      exact ⟨l, h1, k, (e l (f a l h1).2 k).mp h2, h3⟩
    · rintro ⟨l, h1, k, h2, h3⟩
      exact ⟨k, ⟨l, h1, (e l (f a l h1).2 k).mpr h2⟩, h3⟩
theorem altR_is {q : List Nat} (h8 : Ok8 q) {Es : List (List Nat)} : ∀ {js : List Nat} {as : List Pat}, FitL q Es js as → js ≠ [] → ∀ a, a ≤ q.length → ∀ j, (∃ p ∈ js, BitR (Es.getD p []) a j) ↔ RelR (rel (tx q) (altOf as)) a j
  | [], _, _, hn, _, _, _ => absurd rfl hn
  | _ :: _, [], h, _, _, _, _ => h.elim
  | [p], [b], h, _, a, ha, j => by
    have e := h.1.bit a ha j
    exact ⟨fun ⟨x, hx, hb⟩ => by rw [List.mem_singleton.mp hx] at hb; exact e.mp hb, fun z => ⟨p, List.mem_singleton.mpr rfl, e.mpr z⟩⟩
  | [_], _ :: _ :: _, h, _, _, _, _ => h.2.elim
  | _ :: _ :: _, [_], h, _, _, _, _ => h.2.elim
  | p :: p2 :: js, b :: b2 :: as, h, _, a, ha, j => by
    have e := h.1.bit a ha j
    have ih := altR_is h8 (js := p2 :: js) (as := b2 :: as) h.2 (fun z => by cases z) a ha j
    have eo := or_has (r := rel (tx q) b) (q := rel (tx q) (altOf (b2 :: as))) ((rel_ok h8 b).1.trans (rel_ok h8 _).1.symm) a j
    refine Iff.trans ?_ eo.symm
    constructor
    · rintro ⟨x, hx, hb⟩
      rcases List.mem_cons.mp hx with hx | hx
      · rw [hx] at hb; exact .inl (e.mp hb)
      · exact .inr (ih.mp ⟨x, hx, hb⟩)
    · rintro (hz | hz)
      · exact ⟨p, List.mem_cons_self, e.mpr hz⟩
      · obtain ⟨x, hx, hb⟩ := ih.mpr hz
        exact ⟨x, List.mem_cons_of_mem _ hx, hb⟩
theorem bothR_is {q : List Nat} (h8 : Ok8 q) {Es : List (List Nat)} : ∀ {js : List Nat} {as : List Pat}, FitL q Es js as → js ≠ [] → ∀ a, a ≤ q.length → ∀ j, (∀ p ∈ js, BitR (Es.getD p []) a j) ↔ RelR (rel (tx q) (bothOf as)) a j
  | [], _, _, hn, _, _, _ => absurd rfl hn
  | _ :: _, [], h, _, _, _, _ => h.elim
  | [p], [b], h, _, a, ha, j => by
    have e := h.1.bit a ha j
    exact ⟨fun z => e.mp (z p (List.mem_singleton.mpr rfl)), fun z x hx => by rw [List.mem_singleton.mp hx]; exact e.mpr z⟩
  | [_], _ :: _ :: _, h, _, _, _, _ => h.2.elim
  | _ :: _ :: _, [_], h, _, _, _, _ => h.2.elim
  | p :: p2 :: js, b :: b2 :: as, h, _, a, ha, j => by
    have e := h.1.bit a ha j
    have ih := bothR_is h8 (js := p2 :: js) (as := b2 :: as) h.2 (fun z => by cases z) a ha j
    have eo := both_has (s := tx q) (a := b) (b := bothOf (b2 :: as)) (by rw [tx_length]; exact (rel_ok h8 b).1) (by rw [tx_length]; exact (rel_ok h8 b).2) a j
    refine Iff.trans ?_ eo.symm
    constructor
    · intro z
      exact ⟨e.mp (z p List.mem_cons_self), ih.mp fun x hx => z x (List.mem_cons_of_mem _ hx)⟩
    · rintro ⟨z1, z2⟩ x hx
      rcases List.mem_cons.mp hx with hx | hx
      · rw [hx]; exact e.mpr z1
      · exact ih.mpr z2 x hx
theorem cnt_congr {n : Nat} {R R' : Nat → Nat → Prop} (f : Fwd n R') (h : ∀ a, a ≤ n → ∀ j, R a j ↔ R' a j) (k : Nat) (m : Option Nat) {a : Nat} (ha : a ≤ n) (j : Nat) : CntR n R k m a j ↔ CntR n R' k m a j := by
  -- what R says from places within n is all that counts
  have hp : ∀ (t : Nat) {b : Nat}, b ≤ n → ∀ j, Pow n R t b j ↔ Pow n R' t b j := fun t b hb j => (pow_congr f (fun a ha j => (h a ha j).symm) t hb j).symm
  have ho : ∀ a, a ≤ n → ∀ j, OrId n R' a j ↔ OrId n R a j := fun a ha j => or_congr Iff.rfl (h a ha j).symm
  have hq : ∀ (t : Nat) {b : Nat}, b ≤ n → ∀ j, Pow n (OrId n R) t b j ↔ Pow n (OrId n R') t b j := fun t b hb j => (pow_congr (orId_fwd f) ho t hb j).symm
  cases m with
  | none =>
    constructor
    · rintro ⟨b, h1, t, h2⟩
      have h1 := (hp k ha b).mp h1
      exact ⟨b, h1, t, (hp t (Fwd.pow f k a b h1).2 j).mp h2⟩
    · rintro ⟨b, h1, t, h2⟩
      exact ⟨b, (hp k ha b).mpr h1, t, (hp t (Fwd.pow f k a b h1).2 j).mpr h2⟩
  | some x =>
    constructor
    · rintro ⟨b, h1, h2⟩
      have h1 := (hp k ha b).mp h1
      exact ⟨b, h1, (hq _ (Fwd.pow f k a b h1).2 j).mp h2⟩
    · rintro ⟨b, h1, h2⟩
      exact ⟨b, (hp k ha b).mpr h1, (hq _ (Fwd.pow f k a b h1).2 j).mpr h2⟩
theorem atP_congr {n : Nat} {f g : Nat → Bool} (h : ∀ a, a ≤ n → f a = g a) (a j : Nat) : AtP n f a j ↔ AtP n g a j := by
  unfold AtP
  constructor
  · rintro ⟨e, l, z⟩; exact ⟨e, l, by rw [← h a l]; exact z⟩
  · rintro ⟨e, l, z⟩; exact ⟨e, l, by rw [h a l]; exact z⟩
theorem memOf_getD (f : Nat → Bool) {c : Nat} (h : c < 256) : (memOf f).getD c false = f c := by
  rw [List.getD_eq_getElem?_getD, memOf_get h]; rfl
mutual
theorem lay_fit {q : List Nat} (h8 : Ok8 q) {fs : List Fm} {Es : List (List Nat)} : ∀ {lo hi g h : Nat} {a : Pat}, Lay fs lo hi g h a → (∀ i, lo ≤ i → i < hi → Local q fs Es i) → Fit q.length (Es.getD (hi - 1) []) (RelR (rel (tx q) a))
  | lo, _, _, _, _, .byte (neg := neg) (l := l) (f := f) e hf, H => by
    refine (H lo (Nat.le_refl _) (Nat.lt_succ_self _) _ e).ext fun a _ j => ?_
    rw [set_has h8]
    show ByteR q (fun c => (memOf f).getD c false) a j ↔ _
    unfold ByteR
    constructor
    · rintro ⟨e, c, hc, z⟩
      have c8 := h8 c (List.mem_of_getElem? hc)
      exact ⟨e, c, hc, by rw [← hf c c8, ← memOf_getD f c8]; exact z⟩
    · rintro ⟨e, c, hc, z⟩
      have c8 := h8 c (List.mem_of_getElem? hc)
      exact ⟨e, c, hc, by show (memOf f).getD c false = true; rw [memOf_getD f c8, hf c c8]; exact z⟩
  | lo, _, _, _, _, .begin_ e, H => (H lo (Nat.le_refl _) (Nat.lt_succ_self _) _ e).ext fun a _ j => by
      have := begin_has (tx q) a j
      rw [tx_length] at this
      exact this.symm
  | lo, _, _, _, _, .end_ e, H => (H lo (Nat.le_refl _) (Nat.lt_succ_self _) _ e).ext fun a _ j => by
      have := end_has (tx q) a j
      rw [tx_length] at this
      exact this.symm
  | lo, _, _, _, _, .edge e, H => (H lo (Nat.le_refl _) (Nat.lt_succ_self _) _ e).ext fun a _ j => by
      have := bound_has (tx q) false a j
      rw [tx_length] at this
      refine Iff.trans ?_ this.symm
      exact atP_congr (fun a _ => by rw [edge_is h8]; cases edgeN q a <;> rfl) a j
  | lo, _, _, _, _, .noEdge e, H => (H lo (Nat.le_refl _) (Nat.lt_succ_self _) _ e).ext fun a _ j => by
      have := bound_has (tx q) true a j
      rw [tx_length] at this
      refine Iff.trans ?_ this.symm
      show AtP q.length (fun a => !edgeN q a) a j ↔ _
      exact atP_congr (fun a _ => by rw [edge_is h8]; cases edgeN q a <;> rfl) a j
  | lo, _, _, _, _, .row (hi := hi) l n e, H => by
    have fl := layL_fit h8 l fun i h1 h2 => H i h1 (Nat.lt_succ_of_lt h2)
    refine (H hi (LayL.le l).1 (Nat.lt_succ_self _) _ e).ext fun a ha j => ?_
    rw [seqR_is h8]
    exact (fold_is h8 fl (Fwd.id _) a ha j).trans (id_then ha j)
  | lo, _, _, _, _, .either (hi := hi) l n e, H => by
    have fl := layL_fit h8 l fun i h1 h2 => H i h1 (Nat.lt_succ_of_lt h2)
    refine (H hi (LayL.le l).1 (Nat.lt_succ_self _) _ e).ext fun a ha j => ?_
    exact altR_is h8 fl (fun z => by rw [z] at n; exact absurd n (by decide)) a ha j
  | lo, _, _, _, _, .both (hi := hi) l n e, H => by
    have fl := layL_fit h8 l fun i h1 h2 => H i h1 (Nat.lt_succ_of_lt h2)
    refine (H hi (LayL.le l).1 (Nat.lt_succ_self _) _ e).ext fun a ha j => ?_
    exact bothR_is h8 fl (fun z => by rw [z] at n; exact absurd n (by decide)) a ha j
  | lo, _, _, _, _, .turned (hi := hi) (a := b) l e, H => by
    have fl := lay_fit h8 l fun i h1 h2 => H i h1 (Nat.lt_succ_of_lt h2)
    refine (H hi (Nat.le_of_lt (Lay.lt l).1) (Nat.lt_succ_self _) _ e).ext fun a ha j => ?_
    have := not_has (s := tx q) (a := b) (by rw [tx_length]; exact (rel_ok h8 b).1) a j
    rw [tx_length] at this
    refine Iff.trans ?_ this.symm
    exact and_congr Iff.rfl (and_congr Iff.rfl (not_congr (fl.bit a ha j)))
  | lo, _, _, _, _, .counted (hi := hi) (n := k) (m := m) (a := b) l h1 h2 e, H => by
    have fl := lay_fit h8 l fun i h1 h2 => H i h1 (Nat.lt_succ_of_lt h2)
    refine (H hi (Nat.le_of_lt (Lay.lt l).1) (Nat.lt_succ_self _) _ e).ext fun a ha j => ?_
    have := counted_has (rel_ok h8 b).1 (rel_ok h8 b).2 k m (fun x hx => (h2 x hx).1) ha j
    refine Iff.trans ?_ (Iff.trans this.symm ?_)
    · exact cnt_congr (rel_ok h8 b).2 (fun c hc i => fl.bit c hc i) k m ha j
    · show RelR ((rel (tx q) b).counted q.length k m) a j ↔ RelR ((rel (tx q) b).counted (tx q).length k m) a j
      rw [tx_length]
  | lo, _, _, _, _, .group (hi := hi) l e, H => by
    have fl := lay_fit h8 l fun i h1 h2 => H i h1 (Nat.lt_succ_of_lt h2)
    exact (H hi (Nat.le_of_lt (Lay.lt l).1) (Nat.lt_succ_self _) _ e).ext fun a ha j => fl.bit a ha j
theorem layL_fit {q : List Nat} (h8 : Ok8 q) {fs : List Fm} {Es : List (List Nat)} : ∀ {lo hi g h : Nat} {js : List Nat} {as : List Pat}, LayL fs lo hi g h js as → (∀ i, lo ≤ i → i < hi → Local q fs Es i) → FitL q Es js as
  | _, _, _, _, _, _, .nil, _ => trivial
  | lo, hi, _, _, _, _, .cons (mid := mid) a l, H => ⟨lay_fit h8 a fun i h1 h2 => H i h1 (Nat.lt_of_lt_of_le h2 (LayL.le l).1), layL_fit h8 l fun i h1 h2 => H i (Nat.le_trans (Nat.le_of_lt (Lay.lt a).1) h1) h2⟩
end
/-- a form as it may stand at a place -/
inductive Shp (i : Nat) : Fm → Prop where
  | byte (f : Nat → Bool) : Shp i (byteF f)
  | begin_ : Shp i ⟨.begin_, [], .non⟩
  | end_ : Shp i ⟨.end_, [], .non⟩
  | edge : Shp i ⟨.edge, [], .non⟩
  | noEdge : Shp i ⟨.noEdge, [], .non⟩
  | row (js : List Nat) : (∀ j ∈ js, j < i) → js.length ≤ i → Shp i ⟨.row, js, .non⟩
  | either (js : List Nat) : (∀ j ∈ js, j < i) → js.length ≤ i → js ≠ [] → Shp i ⟨.either, js, .non⟩
  | both (js : List Nat) : (∀ j ∈ js, j < i) → js.length ≤ i → js ≠ [] → Shp i ⟨.both, js, .non⟩
  | turned (j : Nat) : j < i → Shp i ⟨.turned, [j], .non⟩
  | counted (j n : Nat) (m : Option Nat) : j < i → n ≤ 100 → (∀ k, m = some k → n ≤ k ∧ k ≤ 100) → Shp i ⟨.counted, [j], .cnt n m⟩
  | group (j k : Nat) : j < i → Shp i ⟨.group, [j], .num k⟩
theorem layL_lt {fs : List Fm} : ∀ {lo hi g h : Nat} {js : List Nat} {as : List Pat}, LayL fs lo hi g h js as → ∀ j ∈ js, j < hi
  | _, _, _, _, _, _, .nil, _, hj => absurd hj List.not_mem_nil
  | _, _, _, _, _, _, .cons a l, j, hj => by
    have h1 := Lay.lt a
    have h2 := LayL.le l
    rcases List.mem_cons.mp hj with e | e
    · omega
    · exact layL_lt l j e
theorem layL_room {fs : List Fm} : ∀ {lo hi g h : Nat} {js : List Nat} {as : List Pat}, LayL fs lo hi g h js as → js.length + lo ≤ hi
  | _, _, _, _, _, _, .nil => by simp
  | _, _, _, _, _, _, .cons a l => by
    have h1 := Lay.lt a
    have h2 := layL_room l
    rw [List.length_cons]
    omega
theorem layL_lens {fs : List Fm} {lo hi g h : Nat} {js : List Nat} {as : List Pat} (l : LayL fs lo hi g h js as) : js.length ≤ hi := by
  have := layL_room l
  omega
mutual
theorem lay_shp {fs : List Fm} : ∀ {lo hi g h : Nat} {a : Pat}, Lay fs lo hi g h a → ∀ i, lo ≤ i → i < hi → ∃ fm, fs[i]? = some fm ∧ Shp i fm
  | lo, _, _, _, _, .byte (f := f) e _, i, h1, h2 => by
    have : i = lo := by omega
    subst this; exact ⟨_, e, .byte f⟩
  | lo, _, _, _, _, .begin_ e, i, h1, h2 => by
    have : i = lo := by omega
    subst this; exact ⟨_, e, .begin_⟩
  | lo, _, _, _, _, .end_ e, i, h1, h2 => by
    have : i = lo := by omega
    subst this; exact ⟨_, e, .end_⟩
  | lo, _, _, _, _, .edge e, i, h1, h2 => by
    have : i = lo := by omega
    subst this; exact ⟨_, e, .edge⟩
  | lo, _, _, _, _, .noEdge e, i, h1, h2 => by
    have : i = lo := by omega
    subst this; exact ⟨_, e, .noEdge⟩
  | _, _, _, _, _, .row (hi := hi) (js := js) l n e, i, h1, h2 => by
    rcases Nat.lt_succ_iff_lt_or_eq.mp h2 with h | h
    · exact layL_shp l i h1 h
    · subst h; exact ⟨_, e, .row js (layL_lt l) (layL_lens l)⟩
  | _, _, _, _, _, .either (hi := hi) (js := js) l n e, i, h1, h2 => by
    rcases Nat.lt_succ_iff_lt_or_eq.mp h2 with h | h
    · exact layL_shp l i h1 h
    · subst h; exact ⟨_, e, .either js (layL_lt l) (layL_lens l) (fun z => by rw [z] at n; exact absurd n (by decide))⟩
  | _, _, _, _, _, .both (hi := hi) (js := js) l n e, i, h1, h2 => by
    rcases Nat.lt_succ_iff_lt_or_eq.mp h2 with h | h
    · exact layL_shp l i h1 h
    · subst h; exact ⟨_, e, .both js (layL_lt l) (layL_lens l) (fun z => by rw [z] at n; exact absurd n (by decide))⟩
  | _, _, _, _, _, .turned (hi := hi) l e, i, h1, h2 => by
    have := Lay.lt l
    rcases Nat.lt_succ_iff_lt_or_eq.mp h2 with h | h
    · exact lay_shp l i h1 h
    · subst h; exact ⟨_, e, .turned _ (by omega)⟩
  | _, _, _, _, _, .counted (hi := hi) l n m e, i, h1, h2 => by
    have := Lay.lt l
    rcases Nat.lt_succ_iff_lt_or_eq.mp h2 with h | h
    · exact lay_shp l i h1 h
    · subst h; exact ⟨_, e, .counted _ _ _ (by omega) n m⟩
  | _, _, _, _, _, .group (hi := hi) l e, i, h1, h2 => by
    have := Lay.lt l
    rcases Nat.lt_succ_iff_lt_or_eq.mp h2 with h | h
    · exact lay_shp l i h1 h
    · subst h; exact ⟨_, e, .group _ _ (by omega)⟩
theorem layL_shp {fs : List Fm} : ∀ {lo hi g h : Nat} {js : List Nat} {as : List Pat}, LayL fs lo hi g h js as → ∀ i, lo ≤ i → i < hi → ∃ fm, fs[i]? = some fm ∧ Shp i fm
  | _, _, _, _, _, _, .nil, i, h1, h2 => by omega
  | _, _, _, _, _, _, .cons (mid := mid) a l, i, h1, h2 => by
    rcases Nat.lt_or_ge i mid with h | h
    · exact lay_shp a i h1 h
    · exact layL_shp l i h h2
end
theorem finish_len {S S' : Rd} (h : finish S = .ok S') : S'.forms.length ≤ S.forms.length + 3 := by
  unfold finish at h
  split at h
  · cases h
  · cases h
    show (endLevelL S.groups S.forms S.top).1.length ≤ _
    unfold endLevelL endRowL endPartL
    dsimp only
    refine Nat.le_trans keepJoined_le ?_
    refine Nat.le_trans (Nat.succ_le_succ keepJoined_le) ?_
    exact Nat.succ_le_succ (Nat.succ_le_succ keepJoined_le)
theorem res_len {p : List Nat} (hp : Ok8 p) {S : Rd} {r : Except Flt Rd} (h : Res p S r) : S.Sm p → ∀ S', r = .ok S' → S'.forms.length ≤ 5 * p.length + 3 := by
  induction h with
  | fin hl =>
    intro sm S' e
    have := finish_len e
    have h1 := sm.fs
    have h2 := sm.pl
    omega
  | err _ _ => intro sm S' e; cases e
  | go hl hs _ ih => exact fun sm S' e => ih (step_sm hp sm hl hs) S' e
/-- what parts that only go on make up goes on only -/
theorem comb_fwd {q : List Nat} {ρ : Nat → Nat → Nat → Prop} {i : Nat} {fm : Fm} (h : Shp i fm) (hρ : ∀ p, p < i → Fwd q.length (ρ p)) : Fwd q.length (comb q ρ fm) := by
  have atp : ∀ f : Nat → Bool, Fwd q.length (AtP q.length f) := fun f a j ⟨e, l, _⟩ => ⟨Nat.le_of_eq e, e ▸ l⟩
  cases h with
  | byte f =>
    exact fun a j ⟨e, c, hc, _⟩ => by
      have := (List.getElem?_eq_some_iff.mp hc).1
      omega
  | begin_ => exact atp _
  | end_ => exact atp _
  | edge => exact atp _
  | noEdge => exact atp _
  | row js hj _ =>
    have go : ∀ (l : List Nat) (R : Nat → Nat → Prop), Fwd q.length R → (∀ p ∈ l, p < i) → Fwd q.length (l.foldl (fun R p => Thn R (ρ p)) R) := by
      intro l
      induction l with
      | nil => exact fun R f _ => f
      | cons p l ih => exact fun R f hl => ih _ (f.then_ (hρ p (hl p List.mem_cons_self))) fun x hx => hl x (List.mem_cons_of_mem _ hx)
    exact go js _ (Fwd.id _) hj
  | either js hj _ _ => exact fun a j ⟨p, hp, hr⟩ => hρ p (hj p hp) a j hr
  | both js hj _ hne =>
    obtain ⟨p, l, rfl⟩ : ∃ p l, js = p :: l := by
      cases js with
      | nil => exact absurd rfl hne
      | cons p l => exact ⟨p, l, rfl⟩
    exact fun a j h => hρ p (hj p List.mem_cons_self) a j (h p List.mem_cons_self)
  | turned j hj => exact fun a j ⟨h1, h2, _⟩ => ⟨h1, h2⟩
  | counted j n m hj _ _ =>
    have f := hρ j hj
    cases m with
    | none => exact (Fwd.pow f n).then_ fun a j ⟨t, h⟩ => Fwd.pow f t a j h
    | some m => exact (Fwd.pow f n).then_ (Fwd.pow (orId_fwd f) _)
  | group j k hj => exact hρ j hj
end PF
/-! Part Q2: quote, as it's due. -/
namespace RM
open PySem PySem.Spec PyProof.Rows L2 PF
def Bytes8 (ns : List Int) : Prop := ∀ z ∈ ns, 0 ≤ z ∧ z ≤ 255
def nat8 (ns : List Int) : List Nat := ns.map Int.toNat
theorem nls_nat8 {ns : List Int} (h : Bytes8 ns) : nls (nat8 ns) = ns.map V.int := by
  unfold nls nat8
  rw [List.map_map]
  refine List.map_congr_left fun z hz => ?_
  have := h z hz
  show V.int ((z.toNat : Nat) : Int) = V.int z
  rw [Int.toNat_of_nonneg this.1]
theorem nat8_lt {ns : List Int} (h : Bytes8 ns) : ∀ b ∈ nat8 ns, b < 256 := fun x hx => by
  obtain ⟨z, hz, rfl⟩ := List.mem_map.mp hx
  have := h z hz
  omega
theorem bytes8_of {ns : List Int} (h : ns.all (PySem.W.Codec.inInt 0 255) = true) : Bytes8 ns := fun z hz => by
  have q := List.all_eq_true.mp h z hz
  have q' : (decide ((0 : Int) ≤ z) && decide (z ≤ 255)) = true := q
  rw [Bool.and_eq_true, decide_eq_true_eq, decide_eq_true_eq] at q'
  exact q'
theorem quoted_text : ∀ {ns : List Int}, Bytes8 ns → (WrPatt.quoted (WrPattNeutral.text ns)).map (fun (c : UInt8) => c.toNat) = qs (nat8 ns)
  | [], _ => rfl
  | z :: ns, h => by
    have ih := quoted_text (ns := ns) fun y hy => h y (List.mem_cons_of_mem _ hy)
    have hz := h z List.mem_cons_self
    have e := qb_due z.toNat (by omega)
    unfold qs nat8 at *
    rw [List.map_cons, List.flatMap_cons, ← ih, ← e]
    unfold WrPatt.quoted WrPattNeutral.text
    rw [List.map_cons, List.flatMap_cons, List.map_append]
    simp
theorem short_iff (ns : List Int) : WrPatt.short (WrPattNeutral.text ns) = decide (ns.length ≤ 200) := by
  unfold WrPatt.short WrPattNeutral.text
  rw [List.length_map]
  rfl
theorem quote_long {ns : List Int} (h : 200 < ns.length) : PyWrpats.quote ns = [9, 1] := by
  show WrPattNeutral.told (WrPatt.answer (.quote (WrPattNeutral.text ns))) = _
  unfold WrPatt.answer
  rw [if_pos (show WrPatt.asked (.quote (WrPattNeutral.text ns)) = false by show WrPatt.short _ = false; rw [short_iff]; exact decide_eq_false (by omega))]
  rfl
theorem quote_short {ns : List Int} (hb : Bytes8 ns) (h : ¬ 200 < ns.length) : (PyWrpats.quote ns).map V.int = V.int 0 :: V.int (qs (nat8 ns)).length :: nls (qs (nat8 ns)) := by
  have e : PyWrpats.quote ns = WrPattNeutral.told (.bytes (WrPatt.quoted (WrPattNeutral.text ns))) := by
    show WrPattNeutral.told (WrPatt.answer (.quote (WrPattNeutral.text ns))) = _
    unfold WrPatt.answer
    rw [if_neg (show ¬ WrPatt.asked (.quote (WrPattNeutral.text ns)) = false by show ¬ WrPatt.short _ = false; rw [short_iff, decide_eq_true (by omega)]; exact fun z => by cases z)]
  rw [e, ← quoted_text hb]
  generalize WrPatt.quoted (WrPattNeutral.text ns) = b
  show V.int 0 :: V.int (b.length : Int) :: (b.map fun (c : UInt8) => ((c.toNat : Nat) : Int)).map V.int = _
  rw [List.length_map]
  congr 2
  unfold nls
  rw [List.map_map, List.map_map]
  rfl
def spQuote (K : PySem.W.Frag) : Sp := fun vs H Q _ => ∃ pl ns, vs = [.ref pl] ∧ SqL K H pl (ns.map V.int) ∧ ns.length ≤ 300 ∧ Bytes8 ns ∧ ∀ H' q, H' q = some (.lst ((PyWrpats.quote ns).map V.int)) → Q (.ref q) H'
section
variable {P : Program} {w : World} {K : PySem.W.Frag} {mg : Str → Option Value} {base : Heap} {c : Cs} {fI : Addr}
theorem ok_quote {f : Addr} {fd : FuncData} (F : Fun K "quote" "quote" s_quote f fd) (T : Txt K mg c fI) : FnOk P w K mg base CX0 4 f fd ["subject"] (spQuote K) := by
  obtain ⟨_, _, g_quoted, k_quoted, G_quoted, B_quoted⟩ := ok_quoted (P := P) (w := w) (base := base) T
  refine F.ok sc_quote (fun vs H Q E h => ?_) (fun cdv A outer s H vs Q E hr h => ⟨_, pss_cons (ps_if (pt_cmpR op_gt (pe_callB call_len_seq (by rfl) T.b_len PySem.boot_len (pa_cons (pv 0) pa_nil)) (pe_globI rfl T.g_LONGEST) (nomark _)) (pss_one (ps_ret (pe_lst (pa_cons (pe_globI rfl T.g_REFUSED) (pa_cons (pe_globI rfl T.g_BEYOND_BOUNDS) pa_nil))))) pss_nil) (pss_cons (ps_set (i := 1) sc_quote.nd rfl (Or.inl rfl) (pe_call G_quoted (hr.mono (by decide)) rfl g_quoted k_quoted B_quoted .nil pass0 (pa_cons (pv 0) pa_nil))) (pss_one (ps_ret (pe_op op_cat (pe_lst (pa_cons (pe_globI rfl T.g_ANSWERED) (pa_cons (pe_callB call_len_seq (by rfl) T.b_len PySem.boot_len (pa_cons (pv 1) pa_nil)) pa_nil))) (pv 1))))), ?_⟩)
  · obtain ⟨_, _, rfl, _⟩ := h; rfl
  · obtain ⟨pl, ns, rfl, hp, h300, h8, g⟩ := h
    refine ⟨_, rfl, _, _, rfl, .inl hp, _, _, rfl, rfl, _, rfl, ?_⟩
    rw [List.length_map]
    by_cases c1 : 200 < ns.length
    · refine if_true_of (decide_eq_true (by omega)) ?_
      refine ⟨(by show 2 ≤ sizeLine; decide), fun t nt => g _ t ?_⟩
      rw [quote_long c1]
      exact upd_same
    · refine if_false_of (decide_eq_false (by omega)) ?_
      refine ⟨_, rfl, pl, nat8 ns, rfl, by rw [nls_nat8 h8]; exact hp, nat8_lt h8, by unfold nat8; rw [List.length_map]; exact h300, fun H1 p s1 np hp1 => ?_⟩
      have hl := qs_len (nat8 ns)
      have hn : (nat8 ns).length = ns.length := by unfold nat8; rw [List.length_map]
      have hz : (nls (qs (nat8 ns))).length ≤ 1200 := by unfold nls; rw [List.length_map]; omega
      refine ⟨_, rfl, _, _, rfl, .inl (SqL.of hp1), (by show 2 ≤ sizeLine; decide), fun t nt => ⟨_, rfl, t, p, _, nls (qs (nat8 ns)), rfl, rfl, upd_same, ?_, ?_, fun u nu => g _ u ?_⟩⟩
      · exact (same_upd nt) _ _ hp1
      · exact Nat.le_trans (Nat.add_le_add_left hz 2) (by decide)
      · rw [upd_same, quote_short h8 c1]
        unfold nls
        rw [List.length_map]
        rfl
end
theorem all_mk {P : Program} {w : World} {K : PySem.W.Frag} {h : Heap} {mg : Str → Option Value} {fa : Addr} (X : K.In h) (G : h.Ns mainGlobals mg) (hfa : mg "quote" = some (.ref fa))
    {tk_NOT_PLAIN : Tok}
    {tk_HEX_DIGITS : Tok}
    {tk_LONGEST : Tok}
    {tk_ANSWERED : Tok}
    {tk_REFUSED : Tok}
    {tk_BEYOND_BOUNDS : Tok}
    {f0 : Addr} {od0 an0 : Option Addr} {sl0 : Array (Option Value)} {oc0 kV0 dc0 pm0 cd0 ct0 : Value}
    {f1 : Addr} {od1 an1 : Option Addr} {sl1 : Array (Option Value)} {oc1 kV1 dc1 pm1 cd1 ct1 : Value}
    {f2 : Addr} {od2 an2 : Option Addr} {sl2 : Array (Option Value)} {oc2 kV2 dc2 pm2 cd2 ct2 : Value}
    {f3 : Addr} {od3 an3 : Option Addr} {sl3 : Array (Option Value)} {oc3 kV3 dc3 pm3 cd3 ct3 : Value}
    {f4 : Addr} {od4 an4 : Option Addr} {sl4 : Array (Option Value)} {oc4 kV4 dc4 pm4 cd4 ct4 : Value}
    {f5 : Addr} {od5 an5 : Option Addr} {sl5 : Array (Option Value)} {oc5 kV5 dc5 pm5 cd5 ct5 : Value}
    (z_NOT_PLAIN : PySem.W.nsIn K mainGlobals "NOT_PLAIN" = some (some (.str "\\|&~*+?{}.^$()[]" tk_NOT_PLAIN)))
    (z_HEX_DIGITS : PySem.W.nsIn K mainGlobals "HEX_DIGITS" = some (some (.str "0123456789abcdef" tk_HEX_DIGITS)))
    (z_LONGEST : PySem.W.nsIn K mainGlobals "LONGEST" = some (some (.int 200 tk_LONGEST)))
    (z_ANSWERED : PySem.W.nsIn K mainGlobals "ANSWERED" = some (some (.int 0 tk_ANSWERED)))
    (z_REFUSED : PySem.W.nsIn K mainGlobals "REFUSED" = some (some (.int 9 tk_REFUSED)))
    (z_BEYOND_BOUNDS : PySem.W.nsIn K mainGlobals "BEYOND_BOUNDS" = some (some (.int 1 tk_BEYOND_BOUNDS)))
    (z_ord : PySem.W.nsIn K mainGlobals "ord" = some none)
    (z_len : PySem.W.nsIn K mainGlobals "len" = some none)
    (a0 : PySem.W.nsIn K mainGlobals "among" = some (some (.ref f0)))
    (l0 : K.lookup f0 = some ⟨oc0, od0, .func (PySem.W.fnOf "among" "among" (defArgs s_among) (defBody s_among) (defScope s_among) .none kV0 dc0 pm0 an0 cd0 ct0), sl0⟩)
    (c0 : PySem.W.codeIn K cd0 "among" = true)
    (k0 : PySem.W.keepIn K (.ref f0) = true)
    (a1 : PySem.W.nsIn K mainGlobals "is_printed" = some (some (.ref f1)))
    (l1 : K.lookup f1 = some ⟨oc1, od1, .func (PySem.W.fnOf "is_printed" "is_printed" (defArgs s_is_printed) (defBody s_is_printed) (defScope s_is_printed) .none kV1 dc1 pm1 an1 cd1 ct1), sl1⟩)
    (c1 : PySem.W.codeIn K cd1 "is_printed" = true)
    (k1 : PySem.W.keepIn K (.ref f1) = true)
    (a2 : PySem.W.nsIn K mainGlobals "quoted" = some (some (.ref f2)))
    (l2 : K.lookup f2 = some ⟨oc2, od2, .func (PySem.W.fnOf "quoted" "quoted" (defArgs s_quoted) (defBody s_quoted) (defScope s_quoted) .none kV2 dc2 pm2 an2 cd2 ct2), sl2⟩)
    (c2 : PySem.W.codeIn K cd2 "quoted" = true)
    (k2 : PySem.W.keepIn K (.ref f2) = true)
    (a3 : PySem.W.nsIn K mainGlobals "quoted_byte" = some (some (.ref f3)))
    (l3 : K.lookup f3 = some ⟨oc3, od3, .func (PySem.W.fnOf "quoted_byte" "quoted_byte" (defArgs s_quoted_byte) (defBody s_quoted_byte) (defScope s_quoted_byte) .none kV3 dc3 pm3 an3 cd3 ct3), sl3⟩)
    (c3 : PySem.W.codeIn K cd3 "quoted_byte" = true)
    (k3 : PySem.W.keepIn K (.ref f3) = true)
    (a4 : PySem.W.nsIn K mainGlobals "bytes_of" = some (some (.ref f4)))
    (l4 : K.lookup f4 = some ⟨oc4, od4, .func (PySem.W.fnOf "bytes_of" "bytes_of" (defArgs s_bytes_of) (defBody s_bytes_of) (defScope s_bytes_of) .none kV4 dc4 pm4 an4 cd4 ct4), sl4⟩)
    (c4 : PySem.W.codeIn K cd4 "bytes_of" = true)
    (k4 : PySem.W.keepIn K (.ref f4) = true)
    (a5 : PySem.W.nsIn K mainGlobals "quote" = some (some (.ref f5)))
    (l5 : K.lookup f5 = some ⟨oc5, od5, .func (PySem.W.fnOf "quote" "quote" (defArgs s_quote) (defBody s_quote) (defScope s_quote) .none kV5 dc5 pm5 an5 cd5 ct5), sl5⟩)
    (c5 : PySem.W.codeIn K cd5 "quote" = true)
    (k5 : PySem.W.keepIn K (.ref f5) = true) :
    ∃ fd : FuncData, (∀ (s : Shared) (us : List Value), us.length = (["subject"] : List Str).length → BindsTo s fd ⟨us, []⟩ ((["subject"] : List Str).zip us)) ∧ ∀ base : Heap, K.In base → base.Ns mainGlobals mg → FnOk P w K mg base CX0 4 fa fd ["subject"] (spQuote K) := by
  have e := hfa.symm.trans (PySem.W.mg_of X G a5)
  cases e
  have F0 := fun_mk (st := s_among) l0 c0 k0
  have b0 := F0.binds (ps := ["byte", "signs"]) fun _ _ _ _ _ _ us hl => match us, hl with | [_, _], _ => rfl
  have F1 := fun_mk (st := s_is_printed) l1 c1 k1
  have b1 := F1.binds (ps := ["byte"]) fun _ _ _ _ _ _ us hl => match us, hl with | [_], _ => rfl
  have F2 := fun_mk (st := s_quoted) l2 c2 k2
  have b2 := F2.binds (ps := ["subject"]) fun _ _ _ _ _ _ us hl => match us, hl with | [_], _ => rfl
  have F3 := fun_mk (st := s_quoted_byte) l3 c3 k3
  have b3 := F3.binds (ps := ["byte"]) fun _ _ _ _ _ _ us hl => match us, hl with | [_], _ => rfl
  have F4 := fun_mk (st := s_bytes_of) l4 c4 k4
  have b4 := F4.binds (ps := ["signs"]) fun _ _ _ _ _ _ us hl => match us, hl with | [_], _ => rfl
  have F5 := fun_mk (st := s_quote) l5 c5 k5
  have b5 := F5.binds (ps := ["subject"]) fun _ _ _ _ _ _ us hl => match us, hl with | [_], _ => rfl
  have T : Txt K mg ⟨0, 0, 0, 0⟩ 0 := {
    b_ord := PySem.W.mg_none_of X G z_ord
    b_len := PySem.W.mg_none_of X G z_len
    g_NOT_PLAIN := ⟨_, PySem.W.mg_of X G z_NOT_PLAIN⟩
    g_HEX_DIGITS := ⟨_, PySem.W.mg_of X G z_HEX_DIGITS⟩
    g_LONGEST := ⟨_, PySem.W.mg_of X G z_LONGEST⟩
    g_ANSWERED := ⟨_, PySem.W.mg_of X G z_ANSWERED⟩
    g_REFUSED := ⟨_, PySem.W.mg_of X G z_REFUSED⟩
    g_BEYOND_BOUNDS := ⟨_, PySem.W.mg_of X G z_BEYOND_BOUNDS⟩
    t_among := ⟨_, _, PySem.W.mg_of X G a0, k0, F0, b0⟩
    t_is_printed := ⟨_, _, PySem.W.mg_of X G a1, k1, F1, b1⟩
    t_quoted := ⟨_, _, PySem.W.mg_of X G a2, k2, F2, b2⟩
    t_quoted_byte := ⟨_, _, PySem.W.mg_of X G a3, k3, F3, b3⟩
    t_bytes_of := ⟨_, _, PySem.W.mg_of X G a4, k4, F4, b4⟩
    t_quote := ⟨_, _, PySem.W.mg_of X G a5, k5, F5, b5⟩
    }
  exact ⟨PySem.W.fnOf "quote" "quote" (defArgs s_quote) (defBody s_quote) (defScope s_quote) .none kV5 dc5 pm5 an5 cd5 ct5, fun s us hu => match us, hu with | [_], _ => .of_eq rfl, fun base _ _ => ok_quote F5 T⟩
end RM
open PySem PySem.W PyProof.Rows
set_option maxRecDepth 100000 in
set_option maxHeartbeats 0 in
theorem PySem.Challenge.cw_patternmeans_s07_quote_holds : PySem.Challenge.rw_patternmeans_s07_quote.Holds := by
  w_on; k_headS; (case hw => exact ⟨[.list []], by decide +kernel, by decide +kernel⟩)
  k_fillS
  refine L2.walk_specK (r := PySem.Challenge.rw_patternmeans_s07_quote) (k := 4) (CX := L2.CX0) (ps := ["subject"]) (sp := RM.spQuote) (by decide +kernel) rfl rfl ⟨rfl, by decide, by decide⟩ (fun w h Y => PySem.W.kIn_of Y) ?F ?S (fun _ _ _ _ z => z)
  case F =>
    intro w mg fa h Y KX G hmg
    refine' RM.all_mk KX G hmg ?z_NOT_PLAIN ?z_HEX_DIGITS ?z_LONGEST ?z_ANSWERED ?z_REFUSED ?z_BEYOND_BOUNDS ?z_ord ?z_len ?a0 ?l0 ?c0 ?k0 ?a1 ?l1 ?c1 ?k1 ?a2 ?l2 ?c2 ?k2 ?a3 ?l3 ?c3 ?k3 ?a4 ?l4 ?c4 ?k4 ?a5 ?l5 ?c5 ?k5
    (case z_NOT_PLAIN => k_is)
    (case z_HEX_DIGITS => k_is)
    (case z_LONGEST => k_is)
    (case z_ANSWERED => k_is)
    (case z_REFUSED => k_is)
    (case z_BEYOND_BOUNDS => k_is)
    (case z_ord => k_is)
    (case z_len => k_is)
    (case a0 => k_is)
    (case l0 => k_is)
    (case c0 => k_is)
    (case k0 => k_is)
    (case a1 => k_is)
    (case l1 => k_is)
    (case c1 => k_is)
    (case k1 => k_is)
    (case a2 => k_is)
    (case l2 => k_is)
    (case c2 => k_is)
    (case k2 => k_is)
    (case a3 => k_is)
    (case l3 => k_is)
    (case c3 => k_is)
    (case k3 => k_is)
    (case a4 => k_is)
    (case l4 => k_is)
    (case c4 => k_is)
    (case k4 => k_is)
    (case a5 => k_is)
    (case l5 => k_is)
    (case c5 => k_is)
    (case k5 => k_is)
  case S =>
    intro K H xs a hO hwi hask hx
    cases hx with
    | cons h1 h2 =>
      cases h2
      cases h1 with
      | lst hs ha =>
        have e := L2.ints_dw a.1 _ ha
        subst e
        have q : ((Codec.inLen 0 300 a.1 && a.1.all (Codec.inInt 0 255)) && true) = true := hwi
        rw [Bool.and_true, Bool.and_eq_true] at q
        exact ⟨_, a.1, rfl, hs, (Codec.inNat_iff.mp q.1).2, RM.bytes8_of q.2, fun H' p hp => .lst (L2.SqL.of hp) (L2.dw_ints _)⟩
