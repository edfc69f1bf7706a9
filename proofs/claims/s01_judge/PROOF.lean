import PyProof.Rows.All
import Wide.All
import OpenK.AllK
import Wide.FinOn
import PyProof.EqAt
import PyProof.EqKinds
import PyProof.TupleCall
import Open.SpecLaws
import KE.OsGo
import HandS.ForSpec
import HandS.Comp
import HandS.Iter
import HandS.Walk
import HandS.ExcInit
import HandS.ExcField
import HandS.HotCalls
import PySem.Challenge.RW_patternmeans_s01_judge
set_option Elab.async false
set_option linter.all false
set_option maxRecDepth 100000
set_option maxHeartbeats 4000000
/-! Part B1: Fault(rule, place), an own exception class over Exception with an __init__ of two fields: its fields stored, made, raised. -/
namespace FX
open PySem PySem.W PySem.Calls PyProof.Rows PySem.HandSPX
open Builtin Builtin.ObjectAttr
abbrev exTail : List Value := [.type "Exception", .type "BaseException", .type "object"]
theorem fx_pass (self : Value) (C : Addr) : refuseLoop self "__setattr__" (.ref C :: exTail) = pure () := (refuseLoop_ref ..).trans (F.store_Exception.passes self)
section
variable {prog : Program} {w : World} {A : Around} {R : Result → Shared → Prop} {hp : Heap} {g : Array GenState} {d : Drawn} {t : Nat} {os : OsState} {K : Frag} {name : Str} {tk : Tok} {v : Value} {x C dx : Addr} {fv : Array Value} {cd : ClassData}
/-- the first field: the exception gets its dict -/
theorem fx_first (X : K.In hp) (hx : hp.get? x = some { cls := .ref C, data := .fields fv }) (hc : clsIn K C = some cd) (hm : cd.mro = .ref C :: exTail) (hh : cd.hasDict = true) (ha : findIn K (.ref C) name = some none)
    (hq : ∀ h' tk' dx, (∀ b o, b ≠ x → hp.get? b = some o → h'.get? b = some o) → hp.objs.size ≤ dx → dx ≠ x → h'.get? x = some { cls := .ref C, dict := some dx, data := .fields fv } → h'.Ns1 dx (fun y => if y = name then some v else none) → R (.ok (.ret .none)) ⟨h', g, d, tk', os⟩) :
    codeAny (model prog w) A (.call (.builtin "object.__setattr__") ⟨[.ref x, .str name tk, v], []⟩) R ⟨hp, g, d, t, os⟩ := by
  have J : InstAt hp x { cls := .ref C, data := .fields fv } C none := ⟨hx, rfl, rfl, trivial⟩
  have S := F.store_object
  have nx : x ≠ hp.objs.size := Nat.ne_of_lt (Heap.lt_size hx)
  have isO : Looks (model prog w) hp (isInstance (.ref x) (.type "object")) true := J.type.andThen (looks_mroIn X (by
    unfold mroIn
    rw [hc, Option.bind_some, hm]
    exact if_neg Bool.false_ne_true))
  refine codeAny_call_builtin S.slot.plain S.entry (@check_slot (model prog w) _ _ ⟨hp, g, d, t, os⟩ "object.__setattr__" "object" "__setattr__" (.ref x) [.str name tk, v] [] _ S.kind S.split isO (S.args (.ref x) (.str name tk) v) ?_)
  have lm : Looks (model prog w) hp (mroOf (.ref C)) (.ref C :: exTail) := by
    rw [← hm]
    exact (looks_clsIn X hc).andThen .now
  have lc : Looks (model prog w) hp (classData C) cd := looks_clsIn X hc
  have ln : Looks (model prog w) hp (storeTaker? none) none := .now
  rw [osa_eq, refuse_eq]
  refine wpAny_bind (wpAny_bind (J.type.at (wpAny_bind (lm.at ?_))))
  rw [fx_pass]
  refine wpAny_pure (wpAny_bind (J.type.at (wpAny_bind ((looks_findIn X ha).at (wpAny_bind (ln.at ?_))))))
  show wpAny _ _ (storeInOwnDict (.ref x) (.ref C) (.str name tk) name v false) _ _ _
  obtain ⟨nm, bs, mro, ns, qn, hd, sn, sb, ab, col, del⟩ := cd
  dsimp only at hh
  subst hh
  unfold storeInOwnDict ownDictForStores
  repeat (first | with_reducible refine store_in_new ?_ ?_ | with_reducible refine wpAny_loadPart_at hx ?_ | with_reducible refine lc.at ?_ | wp_step)
  · exact ⟨_, #[], _, (Heap.get?_update_ne _ _ _ _ nx.symm).trans (Heap.get?_push_at rfl rfl), rfl, fun e z => absurd z (by simp), fun _ => rfl⟩
  · intro h' tk' hn' hs
    have hx2 : (hp.push { cls := .type "dict", data := .dict #[] }).get? x = some { cls := .ref C, data := .fields fv } := Heap.get?_push_of_some _ hx
    refine hq h' tk' hp.objs.size (fun b o hb ho => ?_) (Nat.le_refl _) nx.symm ((hs.2 x nx).trans (Heap.get?_update_self _ hx2 rfl)) hn'
    exact (hs.2 b (Nat.ne_of_lt (Heap.lt_size ho))).trans ((Heap.get?_update_ne _ _ _ _ hb).trans (Heap.get?_push_of_some _ ho))
/-- a further one -/
theorem fx_more {m0 : Str → Option Value} {nl : List Str} (X : K.In hp) (hx : hp.get? x = some { cls := .ref C, dict := some dx, data := .fields fv }) (hns : hp.Ns1 dx m0) (hw : Within m0 nl) (hz : nl.length ≤ 1000) (hc : clsIn K C = some cd) (hm : cd.mro = .ref C :: exTail) (hh : cd.hasDict = true)
    (ha : findIn K (.ref C) name = some none)
    (hq : ∀ h' tk', (∀ b o, b ≠ dx → hp.get? b = some o → h'.get? b = some o) → h'.Ns1 dx (fun y => if y = name then some v else m0 y) → R (.ok (.ret .none)) ⟨h', g, d, tk', os⟩) :
    codeAny (model prog w) A (.call (.builtin "object.__setattr__") ⟨[.ref x, .str name tk, v], []⟩) R ⟨hp, g, d, t, os⟩ := by
  obtain ⟨oD, _, _, hoD, _, _⟩ := hns.count hw
  have J : InstAt hp x { cls := .ref C, dict := some dx, data := .fields fv } C (some oD) := ⟨hx, rfl, rfl, hoD⟩
  have S := F.store_object
  have isO : Looks (model prog w) hp (isInstance (.ref x) (.type "object")) true := J.type.andThen (looks_mroIn X (by
    unfold mroIn
    rw [hc, Option.bind_some, hm]
    exact if_neg Bool.false_ne_true))
  refine codeAny_call_builtin S.slot.plain S.entry (@check_slot (model prog w) _ _ ⟨hp, g, d, t, os⟩ "object.__setattr__" "object" "__setattr__" (.ref x) [.str name tk, v] [] _ S.kind S.split isO (S.args (.ref x) (.str name tk) v) ?_)
  have lm : Looks (model prog w) hp (mroOf (.ref C)) (.ref C :: exTail) := by
    rw [← hm]
    exact (looks_clsIn X hc).andThen .now
  have lc : Looks (model prog w) hp (classData C) cd := looks_clsIn X hc
  have ln : Looks (model prog w) hp (storeTaker? none) none := .now
  rw [osa_eq, refuse_eq]
  refine wpAny_bind (wpAny_bind (J.type.at (wpAny_bind (lm.at ?_))))
  rw [fx_pass]
  refine wpAny_pure (wpAny_bind (J.type.at (wpAny_bind ((looks_findIn X ha).at (wpAny_bind (ln.at ?_))))))
  show wpAny _ _ (storeInOwnDict (.ref x) (.ref C) (.str name tk) name v false) _ _ _
  obtain ⟨nm, bs, mro, ns, qn, hd, sn, sb, ab, col, del⟩ := cd
  dsimp only at hh
  subst hh
  unfold storeInOwnDict ownDictForStores
  repeat (first | with_reducible refine PySem.OEX.store_in_old hns hw hz ?_ | with_reducible refine wpAny_loadPart_at hx ?_ | with_reducible refine lc.at ?_ | wp_step)
  intro h' tk' hn' hs
  exact hq h' tk' (fun b o hb ho => (hs.2 b hb).trans ho) hn'
end
end FX
/-! Part B2: the class Fault as the top has written it; Fault(rule, place) made and raised; its fields read where it is handled, also within a def that is called there. -/
namespace FX
open PySem PySem.W PySem.Calls PyProof.Rows PySem.HandSPX
/-! ### the text of __init__ -/
def iA (p1 p2 p3 : Pos) : Arguments := { posonlyargs := [], args := [{ arg := "self", annotation := none, pos := p1 }, { arg := "rule", annotation := none, pos := p2 }, { arg := "place", annotation := none, pos := p3 }], vararg := none, kwonlyargs := [], kw_defaults := [], kwarg := none, defaults := [] }
def iB (q1 q2 q3 q4 r1 r2 r3 r4 : Pos) : List Stmt := [.Assign [.Attribute (.Name "self" q1) "rule" q2] (.Name "rule" q3) q4, .Assign [.Attribute (.Name "self" r1) "place" r2] (.Name "place" r3) r4]
def iS : Scope := { kind := .function, names := [(PySem.Str.ofString "self", .local), (PySem.Str.ofString "rule", .local), (PySem.Str.ofString "place", .local)], isGenerator := false, isCoroutine := false, more := [] }
/-- what the written part says of Fault, at C, and of its __init__, at fI -/
structure FaultTxt (K : Frag) (mg : Str → Option Value) (C fI : Addr) : Prop where
  gC : mg "Fault" = some (.ref C)
  cls : ∃ nm q N bs sn sub ab col dd k0 k1 k2 k3 k5, K.lookup C = some (excClassObj nm q C N bs exTail true sn sub ab col dd k0 k1 k2 k3 k5 "Exception.__new__")
  sa : findIn K (.ref C) "__setattr__" = some (some (.builtin "object.__setattr__"))
  ga : findIn K (.ref C) "__getattribute__" = some (some (.builtin "BaseException.__getattribute__"))
  gg : findIn K (.ref C) "__getattr__" = some none
  nR : findIn K (.ref C) "rule" = some none
  nP : findIn K (.ref C) "place" = some none
  iC : findIn K (.ref C) "__init__" = some (some (.ref fI))
  tC : typeIn K (.ref fI) = some (.type "function")
  kC : keepIn K (.ref C) = true
  exC : subIn K (.ref C) (.type "BaseException") = some true
  tyC : typeIn K (.ref C) = some (.type "type")
  hdC : hasDictIn K C = true
  te : exmOne K (.ref C) (.ref C) = some true
  fn : ∃ (oc : Value) (od : Option Addr) (doc pm : Value) (an : Option Addr) (cdv ct : Value) (osl : Array (Option Value)) (p1 p2 p3 q1 q2 q3 q4 r1 r2 r3 r4 : Pos),
    K.lookup fI = some ⟨oc, od, .func (fnOf "__init__" "Fault.__init__" (iA p1 p2 p3) (iB q1 q2 q3 q4 r1 r2 r3 r4) iS .none .none doc pm an cdv ct), osl⟩ ∧ codeIn K cdv "Fault.__init__" = true
theorem two_size (v u : Value) : [v, u].length ≤ sizeLine := by
  rw [sizeLine_eq]
  exact (by decide : 2 ≤ 16777216)
theorem ldC {M : Model} {s : Shared} {name : Str} {scope : Scope} {L a : Addr} {cd : Value} {m : Str → Option Value} {x : Str} {pos : Pos} {v : Value} {Q : Value → Shared → Prop} {A : Around} {E : Value → Shared → Prop} (hn : s.heap.Ns L m) (hv : m x = some v) (h : Q v s)
    (hk : scope.kind = .function := by rfl) (hl : (envOfC name scope L a cd).kindOf x = some .local := by rfl) (hd : (x == ("__debug__" : Str)) = false := by decide) :
    wpAny M A (eval (.Name x pos) (envOfC name scope L a cd)) Q E s := wpAny_Name (wpAny_loadName_local hk hl hn hv h) hd
/-- the fields behind both stores -/
abbrev fldN (v u : Value) : Str → Option Value := fun y => if y = "place" then some u else if y = "rule" then some v else none
/-- what __init__ leaves of a fresh exception at x -/
structure InitEnd (h h' : Heap) (x C dx t1 : Addr) (v u : Value) : Prop where
  keep : ∀ b o, b ≠ x → h.get? b = some o → h'.get? b = some o
  obj : h'.get? x = some { cls := .ref C, dict := some dx, data := .fields #[.ref t1, .none, .none, .none, .bool false, .none] }
  dbig : h.objs.size ≤ dx
  dne : dx ≠ x
  ns : h'.Ns1 dx (fldN v u)
/-- a made Fault -/
structure OwnMade (h h' : Heap) (e C d : Addr) (v u : Value) : Prop where
  keep : ∀ b o, h.get? b = some o → h'.get? b = some o
  new : h.objs.size ≤ e
  obj : ∃ oe vs, h'.get? e = some oe ∧ oe.cls = .ref C ∧ oe.dict = some d ∧ oe.data = .fields vs ∧ vs[1]? = some .none
  dbig : h.objs.size ≤ d
  dne : d ≠ e
  ns : h'.Ns1 d (fldN v u)
theorem kept_but {K : Frag} {h h' : Heap} {x : Addr} (X : K.In h) (hx : K.lookup x = none) (k : ∀ b o, b ≠ x → h.get? b = some o → h'.get? b = some o) : K.In h' := fun a o e =>
  k a o (fun z => by rw [z, hx] at e; cases e) (X a o e)
section
variable {prog : Program} {w : World} {A : Around} {E : Value → Shared → Prop} {R : Result → Shared → Prop} {s : Shared} {K : Frag} {mg : Str → Option Value} {C fI : Addr}
theorem fault_init (T : FaultTxt K mg C fI) {x t0 : Addr} {v u : Value} (X : K.In s.heap) (hlim : s.heap.NoLimit) (hx : s.heap.get? x = some (excO C t0)) (hnx : K.lookup x = none) (hroom : A.depth < recursionLimit)
    (hq : ∀ h' tk dx, InitEnd s.heap h' x C dx t0 v u → R (.ok (.ret .none)) { s with heap := h', toks := tk }) :
    codeAny (model prog w) A (.call (.ref fI) ⟨[.ref x, v, u], []⟩) R s := by
  obtain ⟨oc, od, doc, pm, an, cdv, ct, osl, p1, p2, p3, q1, q2, q3, q4, r1, r2, r3, r4, ho, hcd⟩ := T.fn
  obtain ⟨nm, q, N, bs, sn, sub, ab, col, dd, k0, k1, k2, k3, k5, hC⟩ := T.cls
  have hcl : clsIn K C = some { name := nm, bases := bs, mro := .ref C :: exTail, ns := N, qualname := q, hasDict := true, slotNames := sn, subclasses := sub, abstract := ab, collection := col, hasDel := false } := by unfold clsIn; rw [hC] <;> rfl
  refine Att.call_fn (binds := [("self", .ref x), ("rule", v), ("place", u)]) X hlim ho hcd hroom (BindsTo.of_eq (by first | rfl | with_unfolding_all rfl)) (by first | rfl | decide | with_unfolding_all rfl) (fun s₁ IC => ?_) rfl rfl rfl
  obtain ⟨h₁, tk₁, rfl⟩ := IC.toInCall.same
  have k : ∀ b o, s.heap.get? b = some o → h₁.get? b = some o := IC.toInCall.keep
  have hn := IC.toInCall.ns
  have X₁ : K.In h₁ := X.keeps k
  have hx₁ := k _ _ hx
  -- the frame's own dict is another object than the exception
  obtain ⟨oN, esN, epN, hoN, hdN, hrN⟩ := id hn
  -- self.rule = rule
  show wpAny _ _ (execs _ _) _ _ _
  refine wpAny_execs_cons (plainObj_wpAny_Assign_Attribute ?_)
  refine ldC (v := v) hn (by first | rfl | with_unfolding_all rfl | kernel_rfl) (ldC (v := .ref x) hn (by first | rfl | with_unfolding_all rfl | kernel_rfl) ?_)
  refine set_plain X₁ (ox := excO C t0) (od := none) ⟨hx₁, rfl, rfl, trivial⟩ T.sa ?_
  refine fx_first X₁ hx₁ hcl rfl rfl T.nR (fun h₃ tk₃ dx k₃ dn dne hx₃ hn₃ => ?_)
  have z : s.heap.objs.size < h₁.objs.size := hn.lt
  have X₃ : K.In h₃ := kept_but X₁ hnx k₃
  have hn2 := hn.at fun o e => k₃ _ _ (Nat.ne_of_gt (Heap.lt_size hx)) e
  obtain ⟨oD, _, _, hoD, _, _⟩ := hn₃.count (Within.cons "rule" v Within.nil)
  -- self.place = place
  show wpAny _ _ (execs _ _) _ _ _
  refine wpAny_execs_cons (plainObj_wpAny_Assign_Attribute ?_)
  refine ldC (v := u) hn2 (by first | rfl | with_unfolding_all rfl | kernel_rfl) (ldC (v := .ref x) hn2 (by first | rfl | with_unfolding_all rfl | kernel_rfl) ?_)
  refine set_plain X₃ (ox := { cls := .ref C, dict := some dx, data := .fields #[.ref t0, .none, .none, .none, .bool false, .none] }) (od := some oD) ⟨hx₃, rfl, rfl, hoD⟩ T.sa ?_
  refine fx_more X₃ hx₃ hn₃ (Within.cons "rule" v Within.nil) (by decide) hcl rfl rfl T.nP (fun h₄ tk₄ k₄ hn₄ => ?_)
  show wpAny _ _ (execs _ _) _ _ _
  refine wpAny_execs_nil (hq h₄ tk₄ dx ⟨fun b o hb e => ?_, k₄ x _ (Ne.symm dne) hx₃, Nat.le_of_lt (Nat.lt_of_lt_of_le z dn), dne, hn₄⟩)
  have hbd : b ≠ dx := Nat.ne_of_lt (Nat.lt_of_lt_of_le (Nat.lt_trans (Heap.lt_size e) z) dn)
  exact k₄ b o hbd (k₃ b o hb (k b o e))
theorem fault_made (T : FaultTxt K mg C fI) {v u : Value} (X : K.In s.heap) (hlim : s.heap.NoLimit) (hroom : A.depth + 1 < recursionLimit)
    (hq : ∀ h' tk e d, OwnMade s.heap h' e C d v u → R (.ok (.ret (.ref e))) { s with heap := h', toks := tk }) :
    codeAny (model prog w) A (.call (.ref C) ⟨[v, u], []⟩) R s := by
  obtain ⟨nm, q, N, bs, sn, sub, ab, col, dd, k0, k1, k2, k3, k5, hC⟩ := T.cls
  obtain ⟨hp, g, dr, tk, os⟩ := s
  have k : ∀ b o, hp.get? b = some o → ((hp.push (kdv_tup [v, u])).push (excO C hp.objs.size)).get? b = some o := fun b o e => Heap.get?_push_of_some _ (Heap.get?_push_of_some _ e)
  have hget : ((hp.push (kdv_tup [v, u])).push (excO C hp.objs.size)).get? (hp.objs.size + 1) = some (excO C hp.objs.size) := by heap_get
  have hnx : K.lookup (hp.objs.size + 1) = none := by
    cases e : K.lookup (hp.objs.size + 1) with
    | none => rfl
    | some o =>
      have z : hp.get? (hp.objs.size + 1) = some o := X _ _ e
      exact absurd (Nat.lt_of_succ_lt (Heap.lt_size z)) (Nat.lt_irrefl _)
  refine call_own F.excBase_Exception (fun X => rfl) (X _ _ hC) (looks_findIn X T.iC) (fun self => bind_fn X self T.tC) (two_size v u) ?_
  refine fault_init (s := ⟨(hp.push (kdv_tup [v, u])).push (excO C hp.objs.size), g, dr, tk, os⟩) T (X.keeps k) (hlim.keeps k) hget hnx ?_ fun h' tk' dx ⟨k', hx, dn, dne, hns⟩ => ?_
  · show A.depth + 1 < recursionLimit
    exact hroom
  · have old : ∀ b o, hp.get? b = some o → h'.get? b = some o := fun b o e => k' b o (Nat.ne_of_lt (Nat.lt_succ_of_lt (Heap.lt_size e))) (k b o e)
    have z : hp.objs.size + 1 + 1 ≤ dx := by
      first
        | (simpa only [Heap.size_push] using dn)
        | exact dn
        | (have q := dn; rw [Heap.size_push, Heap.size_push] at q; exact q)
    exact ⟨rfl, hq h' tk' (hp.objs.size + 1) dx ⟨old, Nat.le_succ _, ⟨_, _, hx, rfl, rfl, rfl, rfl⟩, Nat.le_trans (Nat.le_trans (Nat.le_succ _) (Nat.le_succ _)) z, dne, hns⟩⟩
end
end FX
namespace L2
open PySem PySem.Spec PyProof.Rows
abbrev flt (v u : V) : List (Str × V) := [(("rule" : Str), v), (("place" : Str), u)]
theorem lk_rule {v u : V} : List.lookup ("rule" : Str) (flt v u) = some v := by simp [List.lookup]
theorem lk_place {v u : V} : List.lookup ("place" : Str) (flt v u) = some u := by
  have e : (("place" : Str) == "rule") = false := by decide +kernel
  simp [List.lookup, e]
theorem relO_flt {v u : V} {v' u' : Value} (r : RelV v v') (r2 : RelV u u') (f : Str) : RelO (List.lookup f (flt v u)) (FX.fldN v' u' f) := by
  show RelO _ (if f = "place" then some u' else if f = "rule" then some v' else none)
  by_cases h2 : f = "place"
  · subst h2
    rw [if_pos rfl, lk_place]
    exact r2
  · rw [if_neg h2]
    by_cases h1 : f = "rule"
    · subst h1
      rw [if_pos rfl, lk_rule]
      exact r
    · rw [if_neg h1]
      have q1 : (f == ("rule" : Str)) = false := by simpa using h1
      have q2 : (f == ("place" : Str)) = false := by simpa using h2
      have q : List.lookup f (flt v u) = none := by simp [List.lookup, q1, q2]
      rw [q]
      trivial
section
variable {X : Cx} {C fI : Addr}
/-- Fault(e1, e2) -/
def tMkFlt (C : Addr) (ta : TA) : St → Hp → XK → Prop := fun σ H Q => ta σ H fun vs H1 => ∃ v u, vs = [v, u] ∧ ∀ d, H1 d = none → Q (.ref C) (some d) (upd H1 d (.xd (flt v u)))
theorem pmk_flt {a b : Expr} {ta : TA} {p pos : Pos} {k : Nat} (T : FX.FaultTxt X.K X.mg C fI) (hr : Room k X.A) (ha : PA X [a, b] ta) (hg : Gl X "Fault" := by rfl)
    (he : starEach (a :: [b]) X.env = (false, eval a X.env) :: starEach [b] X.env := by rfl) (hpl : (backTo pos (starEach [b] X.env)).any (·.1) = false := by rfl) :
    PMk X (.Call (.Name "Fault" p) [a, b] [] pos) (tMkFlt C ta) := by
  intro pins s σ H Q I h
  refine wpAny_Call_Name_kw (ld_glob I hg T.gC ?_)
  refine PySem.W.callWith_K (h₀ := X.base) I.ok.mod.kin T.kC (thn (ha.run pos pins s σ H _ I h) fun us s1 hh => ?_) he hpl
  obtain ⟨vs, H1, I1, r1, v, u, ev, q1⟩ := hh
  subst ev
  refine ⟨I1.kIn, ?_⟩
  cases r1 with
  | cons rv rn =>
    rename_i v' us'
    cases rn with
    | cons ru rm =>
      rename_i u' us2
      cases rm
      show wpAny _ _ (call (.ref C) [v', u']) _ _ _
      have hlim := I1.nolimit
      obtain ⟨hp, g, dr, tk, os⟩ := s1
      refine wpAny_call (FX.fault_made T I1.kIn hlim (by have := hr.dp; omega) fun h' tk' e d M => ?_)
      show MkP X pins σ Q (.ref e) ⟨h', g, dr, tk', os⟩
      obtain ⟨oe, fv, hoe, hc, hd, hdat, h1⟩ := M.obj
      have hns := M.ns
      obtain ⟨G', g1, g2⟩ := restrict h' fun b => decide (b ≠ e)
      have gk : ∀ b, b ≠ e → G'.get? b = h'.get? b := fun b hb => g1 b (decide_eq_true hb)
      have ge : G'.get? e = none := g2 e (by simp)
      have old : ∀ b o, hp.get? b = some o → G'.get? b = some o := fun b o q => (gk b (Nat.ne_of_lt (Nat.lt_of_lt_of_le (Heap.lt_size q) M.new))).trans (M.keep b o q)
      have ob : ObjOk X.prog X.w (upd H1 d (.xd (flt v u))) G' d (.xd (flt v u)) :=
        ⟨_, hns.at (fun o q => (gk d M.dne).trans q), fun f => relO_flt rv ru f⟩
      have J : Inv X pins σ (upd H1 d (.xd (flt v u))) ⟨G', g, dr, tk', os⟩ := I1.laid (t' := tk') old M.dbig ob
      refine ⟨e, oe, fv, ⟨G', g, dr, tk', os⟩, _, .ref C, some d, rfl, J, fun b o q => ?_, ge, hoe, ⟨hc, hd⟩, hdat, h1, ?_, rfl, I1.bare, raises_own T.exC T.tyC, q1 d (I1.hok.fresh M.dbig)⟩
      · by_cases hb : b = e
        · have q' : G'.get? b = some o := q
          rw [hb, ge] at q'; cases q'
        · exact (gk b hb).symm.trans q
      · rw [upd_ne (Ne.symm M.dne)]
        exact I1.hok.fresh M.new
/-- raise Fault(e1, e2) -/
def tRaiseFlt (C : Addr) (W : WX) (ta : TA) : TS := fun _ σ H => tMkFlt C ta σ H fun cls d H' => W cls d σ H'
theorem ps_raiseFlt {a b : Expr} {ta : TA} {W : WX} {p pos pos2 : Pos} {k : Nat} (hc : X.calm = true) (T : FX.FaultTxt X.K X.mg C fI) (hr : Room k X.A) (tk : Takes X W) (ha : PA X [a, b] ta) (hg : Gl X "Fault" := by rfl)
    (he : starEach (a :: [b]) X.env = (false, eval a X.env) :: starEach [b] X.env := by rfl) (hpl : (backTo pos (starEach [b] X.env)).any (·.1) = false := by rfl) :
    PS X (.Raise (some (.Call (.Name "Fault" p) [a, b] [] pos)) none pos2) (tRaiseFlt C W ta) := ps_raise hc tk (pmk_flt T hr ha hg he hpl)
end
end L2
/-! Part B3: a def called in the suite that handles a Fault, the Fault its argument: its fields are read there. -/
namespace FX
open PySem PySem.Spec PyProof.Rows L2 L2H
section
variable {X : Cx}
/-- e.n, e the exception that is handled (pinned: at a, its class cls, its dict d) -/
theorem pe_xfP {a C : Addr} {oe : Obj} {cls : Value} {d : Option Addr} {e : Expr} {te : TE} {pos : Pos} {n : Str} (T : XfC X.K C) (hno : PySem.W.findIn X.K (.ref C) n = some none) (hp : (a, oe) ∈ X.pn) (hz : Zc cls d oe) (hf : ∃ vs, oe.data = .fields vs) (he : PE X e te)
    (hb : attributeBase e n X.env (eval e X.env) = eval e X.env := by rfl) : PE X (.Attribute e n pos) (tXf a cls d C n te) := by
  refine ⟨fun pins s σ H Q I h => attr_of hb (thn (he.run pins s σ H _ I h) fun u s1 hh => ?_)⟩
  obtain ⟨x, H1, I1, rx, rfl, rfl, dd, fs, v, rfl, ea, l, q⟩ := hh
  obtain rfl : u = Value.ref a := rx
  have ha := (I1.pin (a, oe) (List.mem_append_left _ hp)).1
  obtain ⟨vs, hd⟩ := hf
  have hx : ObjOk X.prog X.w H1 s1.heap dd (.xd fs) := I1.hok dd _ ea
  obtain ⟨mA, hns, hr⟩ := hx
  obtain ⟨od, ho, hl⟩ := lookIn_ns hns
  obtain ⟨u, hu, ru⟩ := RelO.some_of (v := v) (o := mA n) (l ▸ hr n)
  have J : PySem.W.InstAt s1.heap a oe C (some od) := ⟨ha, hz.1, by unfold PySem.W.notCls; rw [hd] <;> rfl, by rw [hz.2]; exact ho⟩
  exact HandSPX.exc_get I1.kIn J T.ga T.gg T.exC (PySem.W.findObj_own T.hdC hno rfl (by rw [hl, hu])) (handed_of ru) ⟨v, H1, I1.tok _, ru, q⟩
variable {x qual : Str} {st : Stmt} {f : Addr} {fd : FuncData} {N ps : List Str} {k : Nat} {p : Addr × Obj}
/-- a call there, of a def that lets nothing out; p: a pinned object, which stays pinned in its body -/
theorem run_fnP {pins : List (Addr × Obj)} {σ : L2.St} {H : Hp} {s : Shared} {Q : VK} {us : List Value} {vs : List V} (hp : p ∈ X.pn) (D : Fun X.K x qual st f fd) (S : FnScope N ps (defScope st)) (hr : RoomH (k + 1) X.A) (hb : Binds X.K fd ps []) (I : Inv X pins σ H s) (r : Vals vs us) (hl : vs.length = ps.length)
    (body : ∀ (cdv : Value) (A : Around) (outer : List Env) (s : Shared), RoomH k (A.deeper (envOfC qual (defScope st) s.heap.objs.size f cdv)) →
      ∃ t, PSs (cxH CX0 X.prog X.w X.K X.mg X.base N qual (defScope st) f cdv A outer s H E0 p) (defBody st) t ∧ t { nx := fun _ H' => Q .non H', rt := Q } (L2.start N vs) H) :
    wpAny (model X.prog X.w) X.A (call (.ref f) us) (EP X pins σ Q) X.xe s := by
  have hlu : us.length = ps.length := by rw [← r.length]; exact hl
  have b := hb s us I.kIn (by rw [List.append_nil]; exact hlu)
  rw [List.append_nil] at b
  have P1 := I.pin p (List.mem_append_left _ hp)
  have hpin : PinOk X.stack H s p := ⟨P1.1, P1.2.1, fun hm => (List.mem_cons.mp (I.stkSub p.1 hm)).elim P1.2.2.1 P1.2.2.2.1, P1.2.2.2.2⟩
  have e0 := I.env0
  obtain ⟨oc, od, kV, doc, pm, an, cdv, ct, osl, rfl, lk, hcd⟩ := D.ex
  have lim : s.heap.NoLimit := e0.mod.nolimit.keeps fun b o e => (e0.bs b o e).1
  have kinds : ∀ y ∈ ps.zip us, (defScope st).names.lookup y.1 = some .local ∨ ((defScope st).names.lookup y.1 = some .cell ∧ ((cellsFrom (s.heap.objs.size + 1) (defScope st).names []).lookup y.1).isSome = true) := fun ⟨n, v⟩ hy =>
    (S.par n (List.of_mem_zip hy).1).elim .inl fun q => .inr ⟨q, PySem.W.cellsFrom_some _ _ _ (.inl q)⟩
  have go : codeAny (model X.prog X.w) X.A (.call (.ref f) ⟨us, []⟩) (CR CX0 X.stack X.prog X.w H s Q E0) s := by
    refine codeAny_call_function hr.depth (I.kIn _ _ lk) rfl S.co S.gen rfl (PySem.W.codeRec_of I.kIn hcd) (b _ _ _ _ ?_)
    refine wpAny_newFunctionEnv_cells S.kind kinds fun env he s1 y => ?_
    subst he
    refine ⟨lim.keeps y.toInCall.keep, codeAny_func ?_⟩
    obtain ⟨t, ht, hq⟩ := body cdv X.A X.stack s (hr.deeper _)
    have J : Inv (cxH CX0 X.prog X.w X.K X.mg X.base N qual (defScope st) f cdv X.A X.stack s H E0 p) [] (L2.start N vs) H s1 := inv_startH S hpin e0 hl r y
    refine wpAny_mono (ht.run [] s1 (L2.start N vs) H _ J hq) (fun fl s' hs => ?_) fun e s' hs => hs
    cases fl with
    | ret u =>
      obtain ⟨v, σ', H', J', rv, q⟩ := hs
      exact ⟨v, H', J'.os, J'.bare, J'.base, J'.hok, rv, q⟩
    | next =>
      obtain ⟨σ', H', J', q⟩ := hs
      exact ⟨V.non, H', J'.os, J'.bare, J'.base, J'.hok, rfl, q⟩
    | brk => exact hs.elim fun _ z => z.elim fun _ z => z.2.elim
    | cont => exact hs.elim fun _ z => z.elim fun _ z => z.2.elim
  refine wpAny_call (codeAny_mono go fun r s' hq => ?_)
  cases r with
  | error e => exact False.elim hq
  | ok fl =>
    cases fl with
    | ret u => exact I.after hq
    | next => exact False.elim hq
    | brk => exact False.elim hq
    | cont => exact False.elim hq
end
end FX
/-! Part A1: the reader's mirror, its small readers, and that they are the specification's. -/
namespace PF
open WrPatt
abbrev Flt := Nat × Nat
/-- the byte at a place, 256 behind the end -/
def now (p : List Nat) (i : Nat) : Nat := p.getD i 256
def Ok8 (p : List Nat) : Prop := ∀ x ∈ p, x < 256
def tx (p : List Nat) : Bytes := p.map UInt8.ofNat
def at_ (p : List Nat) (i : Nat) : In := ⟨i, (tx p).drop i⟩

def specials : List Nat := [92, 124, 38, 126, 42, 43, 63, 123, 125, 46, 94, 36, 40, 41, 91, 93, 45, 58]
def notPlain : List Nat := [92, 124, 38, 126, 42, 43, 63, 123, 125, 46, 94, 36, 40, 41, 91, 93]
def notPlainSet : List Nat := [93, 45, 94]
def notAtoms : List Nat := [126, 124, 38, 41]
def printed (c : Nat) : Bool := decide (32 ≤ c) && decide (c ≤ 126)
def digit (c : Nat) : Bool := decide (48 ≤ c) && decide (c ≤ 57)
def hexv (c : Nat) : Option Nat := if 48 ≤ c ∧ c ≤ 57 then some (c - 48) else if 65 ≤ c ∧ c ≤ 70 then some (10 + c - 65) else if 97 ≤ c ∧ c ≤ 102 then some (10 + c - 97) else none
def readHex (p : List Nat) (i : Nat) : Except Flt (Nat × Nat) := match hexv (now p i) with
  | some v => .ok (v, i + 1)
  | none => .error (1, i)
def readHex2 (p : List Nat) (i : Nat) : Except Flt (Nat × Nat) := match readHex p i with
  | .error e => .error e
  | .ok (u, j) => match readHex p j with
    | .error e => .error e
    | .ok (l, k) => .ok (16 * u + l, k)
def readEscaped (p : List Nat) (i : Nat) : Except Flt (Nat × Nat) := if now p i = 110 then .ok (10, i + 1) else if now p i = 116 then .ok (9, i + 1) else if now p i = 120 then readHex2 p (i + 1)
  else if specials.contains (now p i) = true then .ok (now p i, i + 1) else .error (1, i)
def readPlain (barred p : List Nat) (i : Nat) : Except Flt (Nat × Nat) := if printed (now p i) = true ∧ barred.contains (now p i) = false then .ok (now p i, i + 1) else .error (1, i)
def readSetByte (p : List Nat) (i : Nat) : Except Flt (Nat × Nat) := if now p i = 92 then readEscaped p (i + 1) else readPlain notPlainSet p i
def readItem (p : List Nat) (i : Nat) : Except Flt ((Nat × Nat) × Nat) := match readSetByte p i with
  | .error e => .error e
  | .ok (a, j) => if now p j = 45 then (match readSetByte p (j + 1) with
      | .error e => .error e
      | .ok (b, k) => if b < a then .error (3, j + 1) else .ok ((a, b), k)) else .ok ((a, a), j)
/-- items up to the ], which is taken, too -/
def readItems (p : List Nat) : Nat → Nat → Except Flt (List (Nat × Nat) × Nat)
  | 0, i => .error (1, i)
  | f + 1, i => if now p i = 93 then .ok ([], i + 1) else match readItem p i with
    | .error e => .error e
    | .ok (x, j) => match readItems p f j with
      | .error e => .error e
      | .ok (l, k) => .ok (x :: l, k)
/-- behind the [ -/
def readSet (p : List Nat) (i : Nat) : Except Flt ((Bool × List (Nat × Nat)) × Nat) := match readItem p (if now p i = 94 then i + 1 else i) with
  | .error e => .error e
  | .ok (x, j) => match readItems p (p.length + 1) j with
    | .error e => .error e
    | .ok (l, k) => .ok ((decide (now p i = 94), x :: l), k)
def readDigits (p : List Nat) (first : Nat) : Nat → Nat → Nat → Except Flt (Nat × Nat)
  | 0, n, i => .ok (n, i)
  | f + 1, n, i => if digit (now p i) = true then (if n = 0 ∧ first < i then .error (1, i) else readDigits p first f (n * 10 + now p i - 48) (i + 1)) else .ok (n, i)
def readNumber (p : List Nat) (least i : Nat) : Except Flt (Nat × Nat) := match readDigits p i (p.length + 1) 0 i with
  | .error e => .error e
  | .ok (n, j) => if j = i then .error (1, i) else if 100 < n ∨ n < least then .error (2, i) else .ok (n, j)
def need (p : List Nat) (c i : Nat) : Except Flt Nat := if now p i = c then .ok (i + 1) else .error (1, i)
/-- behind the { -/
def readNumbers (p : List Nat) (i : Nat) : Except Flt ((Nat × Option Nat) × Nat) := match readNumber p 0 i with
  | .error e => .error e
  | .ok (n, j) => if now p j = 44 then (if now p (j + 1) = 125 then .ok ((n, none), j + 2) else match readNumber p n (j + 1) with
      | .error e => .error e
      | .ok (m, k) => match need p 125 k with
        | .error e => .error e
        | .ok l => .ok ((n, some m), l))
    else match need p 125 j with
      | .error e => .error e
      | .ok l => .ok ((n, some n), l)
def readCount (p : List Nat) (i : Nat) : Except Flt (Option (Nat × Option Nat) × Nat) := if now p i = 42 then .ok (some (0, none), i + 1) else if now p i = 43 then .ok (some (1, none), i + 1) else if now p i = 63 then .ok (some (0, some 1), i + 1)
  else if now p i = 123 then (match readNumbers p (i + 1) with
    | .error e => .error e
    | .ok (c, j) => .ok (some c, j)) else .ok (none, i)

/-! ### what stands at a place -/
theorem now_lt {p : List Nat} {i : Nat} (h : i < p.length) : now p i = p[i] := by
  unfold now; simp [List.getD, List.getElem?_eq_getElem h]
theorem now_ge {p : List Nat} {i : Nat} (h : p.length ≤ i) : now p i = 256 := by
  unfold now; simp [List.getD, List.getElem?_eq_none h]
theorem now_byte {p : List Nat} (hp : Ok8 p) {i : Nat} (h : i < p.length) : now p i < 256 := by
  rw [now_lt h]; exact hp _ (List.getElem_mem h)
theorem lt_of_now {p : List Nat} {i : Nat} (h : now p i ≠ 256) : i < p.length := by
  rcases Nat.lt_or_ge i p.length with q | q
  · exact q
  · exact absurd (now_ge q) h
theorem tx_length (p : List Nat) : (tx p).length = p.length := by unfold tx; simp
theorem at_next (p : List Nat) (i : Nat) : (at_ p i).next = at_ p (i + 1) := by
  unfold at_ In.next; simp [List.drop_drop]
theorem at_nil {p : List Nat} {i : Nat} (h : p.length ≤ i) : (at_ p i).b = [] := by
  unfold at_; exact List.drop_eq_nil_of_le (by rw [tx_length]; exact h)
theorem at_cons {p : List Nat} {i : Nat} (h : i < p.length) : (at_ p i).b = UInt8.ofNat (now p i) :: (at_ p (i + 1)).b := by
  have h' : i < (tx p).length := by rw [tx_length]; exact h
  show (tx p).drop i = _ :: (tx p).drop (i + 1)
  rw [List.drop_eq_getElem_cons h', now_lt h]
  simp [tx]
theorem at_p (p : List Nat) (i : Nat) : (at_ p i).p = i := rfl
theorem at_b_nil {p : List Nat} {i : Nat} : (at_ p i).b = [] ↔ p.length ≤ i := by
  constructor
  · intro h
    rcases Nat.lt_or_ge i p.length with q | q
    · rw [at_cons q] at h; cases h
    · exact q
  · exact at_nil
theorem at_b_len (p : List Nat) (i : Nat) : (at_ p i).b.length = p.length - i := by
  show ((tx p).drop i).length = _
  rw [List.length_drop, tx_length]
theorem ofNat_eq {n m : Nat} (h : n < 256) (h' : m < 256) : (UInt8.ofNat n = UInt8.ofNat m) ↔ n = m := by
  constructor
  · intro e
    have := congrArg UInt8.toNat e
    simp only [UInt8.toNat_ofNat'] at this
    omega
  · intro e; rw [e]
theorem is_iff {p : List Nat} (hp : Ok8 p) {i : Nat} {c : Char} (hc : c.toNat < 256) : (at_ p i).is c = true ↔ now p i = c.toNat := by
  unfold In.is
  rcases Nat.lt_or_ge i p.length with q | q
  · rw [at_cons q]
    simp only [List.head?_cons, beq_iff_eq, Option.some.injEq]
    exact ofNat_eq (now_byte hp q) hc
  · rw [at_nil q, now_ge q]
    simp
    omega
theorem is_dec {p : List Nat} (hp : Ok8 p) (i : Nat) (c : Char) (hc : c.toNat < 256) : (at_ p i).is c = decide (now p i = c.toNat) := by
  have := is_iff hp (i := i) hc
  by_cases h : now p i = c.toNat
  · rw [this.mpr h]; simp [h]
  · have : (at_ p i).is c = false := by
      cases e : (at_ p i).is c
      · rfl
      · exact absurd (this.mp e) h
    rw [this]; simp [h]

/-! ### bytes' kinds, by all bytes -/
theorem k_special : ∀ n < 256, SPECIAL.contains (UInt8.ofNat n) = specials.contains n := by decide +kernel
theorem k_forms : ∀ n < 256, FORMS.contains (UInt8.ofNat n) = notPlain.contains n := by decide +kernel
theorem k_seen : ∀ n < 256, isSeen (UInt8.ofNat n) = printed n := by decide +kernel
theorem k_digit : ∀ n < 256, isDigit (UInt8.ofNat n) = digit n := by decide +kernel
theorem k_hex : ∀ n < 256, hex (UInt8.ofNat n) = hexv n := by decide +kernel
theorem k_nat : ∀ n < 256, (UInt8.ofNat n).toNat = n := by decide +kernel
theorem k_eq (m : Nat) (hm : m < 256) : ∀ n < 256, (UInt8.ofNat n = UInt8.ofNat m) ↔ n = m := fun n h => ofNat_eq h hm

/-- In terms of places: what a reader of the specification gives, as (value, place) -/
def lift {α : Type} (p : List Nat) (r : Except Flt (α × Nat)) : Except Flt (α × In) := match r with
  | .error e => .error e
  | .ok (a, i) => .ok (a, at_ p i)
theorem bad_at (p : List Nat) (i : Nat) {α : Type} : (bad (at_ p i) : Except Fault α) = .error (1, i) := rfl
theorem hexv_end : hexv 256 = none := by decide
theorem escaped_is {p : List Nat} (hp : Ok8 p) (i : Nat) : escaped (at_ p i) = lift p (readEscaped p i) := by
  unfold escaped readEscaped
  rcases Nat.lt_or_ge i p.length with q | q
  · have hb := now_byte hp q
    rw [at_cons q]
    simp only [k_special _ hb, at_next]
    have e110 : (UInt8.ofNat (now p i) = 110) ↔ now p i = 110 := k_eq 110 (by decide) _ hb
    have e116 : (UInt8.ofNat (now p i) = 116) ↔ now p i = 116 := k_eq 116 (by decide) _ hb
    have e120 : (UInt8.ofNat (now p i) = 120) ↔ now p i = 120 := k_eq 120 (by decide) _ hb
    simp only [e110, e116, e120, k_nat _ hb]
    by_cases c1 : now p i = 110
    · rw [c1]; simp [specials, lift]
    by_cases c2 : now p i = 116
    · rw [c2]; simp [specials, lift]
    by_cases c3 : now p i = 120
    · rw [c3]
      rw [if_neg (by decide), if_neg (by decide), if_neg (by decide), if_pos rfl, if_neg (by decide), if_neg (by decide), if_pos rfl]
      unfold readHex2 readHex
      rcases Nat.lt_or_ge (i + 1) p.length with q1 | q1
      · have hb1 := now_byte hp q1
        rw [at_cons q1]
        simp only [k_hex _ hb1, at_next]
        cases hexv (now p (i + 1)) with
        | none => rfl
        | some u =>
          rcases Nat.lt_or_ge (i + 1 + 1) p.length with q2 | q2
          · have hb2 := now_byte hp q2
            dsimp only
            rw [at_cons q2]
            simp only [k_hex _ hb2, at_next]
            cases hexv (now p (i + 1 + 1)) with
            | none => rfl
            | some l => rfl
          · dsimp only
            rw [at_nil q2, now_ge q2, hexv_end]
            rfl
      · rw [at_nil q1, now_ge q1, hexv_end]
        rfl
    rw [if_neg c1, if_neg c2, if_neg c3, if_neg c1, if_neg c2, if_neg c3]
    by_cases c4 : specials.contains (now p i) = true
    · rw [if_pos c4, if_pos c4]; rfl
    · rw [if_neg c4, if_neg c4]; rfl
  · rw [at_nil q, now_ge q]
    rfl
theorem setByte_is {p : List Nat} (hp : Ok8 p) (i : Nat) : setByte (at_ p i) = lift p (readSetByte p i) := by
  unfold setByte readSetByte
  rcases Nat.lt_or_ge i p.length with q | q
  · have hb := now_byte hp q
    rw [at_cons q]
    have e92 : (UInt8.ofNat (now p i) = 92) ↔ now p i = 92 := k_eq 92 (by decide) _ hb
    have e93 : (UInt8.ofNat (now p i) = 93) ↔ now p i = 93 := k_eq 93 (by decide) _ hb
    have e45 : (UInt8.ofNat (now p i) = 45) ↔ now p i = 45 := k_eq 45 (by decide) _ hb
    have e94 : (UInt8.ofNat (now p i) = 94) ↔ now p i = 94 := k_eq 94 (by decide) _ hb
    simp only [at_next, ne_eq, e92, e93, e45, e94, k_seen _ hb, k_nat _ hb]
    by_cases c1 : now p i = 92
    · rw [if_pos c1, if_pos c1, escaped_is hp]
    · rw [if_neg c1, if_neg c1]
      unfold readPlain
      have t : (notPlainSet.contains (now p i) = false) ↔ (¬ now p i = 93 ∧ ¬ now p i = 45 ∧ ¬ now p i = 94) := by
        simp [notPlainSet]
      simp only [t]
      by_cases c2 : printed (now p i) = true ∧ ¬now p i = 93 ∧ ¬now p i = 45 ∧ ¬now p i = 94
      · rw [if_pos c2, if_pos c2]; rfl
      · rw [if_neg c2, if_neg c2]; rfl
  · rw [at_nil q, now_ge q, if_neg (by decide)]
    unfold readPlain
    rw [now_ge q]
    rfl
/-- a reader that gives something has gone past something -/
theorem readHex_lt {p : List Nat} {i v j : Nat} (h : readHex p i = .ok (v, j)) : j = i + 1 ∧ i < p.length := by
  unfold readHex at h
  cases e : hexv (now p i) with
  | none => rw [e] at h; cases h
  | some u =>
    rw [e] at h
    cases h
    refine ⟨rfl, lt_of_now fun z => ?_⟩
    rw [z, hexv_end] at e; cases e
theorem readHex2_lt {p : List Nat} {i v j : Nat} (h : readHex2 p i = .ok (v, j)) : i < j ∧ j ≤ p.length := by
  unfold readHex2 at h
  cases e : readHex p i with
  | error _ => rw [e] at h; cases h
  | ok x =>
    obtain ⟨u, k⟩ := x
    rw [e] at h
    dsimp only at h
    cases e2 : readHex p k with
    | error _ => rw [e2] at h; cases h
    | ok y =>
      obtain ⟨l, m⟩ := y
      rw [e2] at h
      cases h
      have := readHex_lt e
      have := readHex_lt e2
      omega
theorem readEscaped_lt {p : List Nat} {i v j : Nat} (h : readEscaped p i = .ok (v, j)) : i < j ∧ j ≤ p.length := by
  unfold readEscaped at h
  have key : now p i ≠ 256 → i < i + 1 ∧ i + 1 ≤ p.length := fun z => ⟨Nat.lt_succ_self _, lt_of_now z⟩
  by_cases c1 : now p i = 110
  · rw [if_pos c1] at h; cases h; exact key (by omega)
  rw [if_neg c1] at h
  by_cases c2 : now p i = 116
  · rw [if_pos c2] at h; cases h; exact key (by omega)
  rw [if_neg c2] at h
  by_cases c3 : now p i = 120
  · rw [if_pos c3] at h
    have := readHex2_lt h
    omega
  rw [if_neg c3] at h
  by_cases c4 : specials.contains (now p i) = true
  · rw [if_pos c4] at h; cases h
    exact key fun z => by rw [z] at c4; exact absurd c4 (by decide)
  · rw [if_neg c4] at h; cases h
theorem readPlain_lt {b p : List Nat} {i v j : Nat} (h : readPlain b p i = .ok (v, j)) : i < j ∧ j ≤ p.length := by
  unfold readPlain at h
  by_cases c : printed (now p i) = true ∧ b.contains (now p i) = false
  · rw [if_pos c] at h; cases h
    refine ⟨Nat.lt_succ_self _, lt_of_now fun z => ?_⟩
    have := c.1
    rw [z] at this; exact absurd this (by decide)
  · rw [if_neg c] at h; cases h
theorem readSetByte_lt {p : List Nat} {i v j : Nat} (h : readSetByte p i = .ok (v, j)) : i < j ∧ j ≤ p.length := by
  unfold readSetByte at h
  by_cases c : now p i = 92
  · rw [if_pos c] at h
    have := readEscaped_lt h
    omega
  · rw [if_neg c] at h
    exact readPlain_lt h
theorem readItem_lt {p : List Nat} {i j : Nat} {x : Nat × Nat} (h : readItem p i = .ok (x, j)) : i < j ∧ j ≤ p.length := by
  unfold readItem at h
  cases e : readSetByte p i with
  | error _ => rw [e] at h; cases h
  | ok y =>
    obtain ⟨a, k⟩ := y
    have h1 := readSetByte_lt e
    rw [e] at h
    dsimp only at h
    by_cases c : now p k = 45
    · rw [if_pos c] at h
      cases e2 : readSetByte p (k + 1) with
      | error _ => rw [e2] at h; cases h
      | ok z =>
        obtain ⟨b, m⟩ := z
        have h2 := readSetByte_lt e2
        rw [e2] at h
        dsimp only at h
        by_cases c2 : b < a
        · rw [if_pos c2] at h; cases h
        · rw [if_neg c2] at h; cases h; omega
    · rw [if_neg c] at h; cases h; exact h1
/-- what an item's reading gives to the specification -/
theorem item_is {p : List Nat} (hp : Ok8 p) (i : Nat) : (match setByte (at_ p i) with
    | .error e => .error e
    | .ok (a, x) => if x.is '-' = true then (match setByte x.next with
        | .error e => .error e
        | .ok (b, y) => if b < a then .error (3, x.p + 1) else .ok ((a, b), y))
      else .ok ((a, a), x) : Except Flt ((Nat × Nat) × In)) = lift p (readItem p i) := by
  unfold readItem
  rw [setByte_is hp]
  cases readSetByte p i with
  | error e => rfl
  | ok y =>
    obtain ⟨a, j⟩ := y
    dsimp only [lift]
    rw [is_dec hp j '-' (by decide), at_next]
    simp only [decide_eq_true_eq]
    show (if now p j = 45 then _ else _) = _
    by_cases c : now p j = 45
    · rw [if_pos c, if_pos c, setByte_is hp]
      cases readSetByte p (j + 1) with
      | error e => rfl
      | ok z =>
        obtain ⟨b, k⟩ := z
        dsimp only [lift]
        by_cases c2 : b < a
        · rw [if_pos c2, if_pos c2]; rfl
        · rw [if_neg c2, if_neg c2]
    · rw [if_neg c, if_neg c]
theorem itemsIn_step {p : List Nat} (hp : Ok8 p) (f i : Nat) (had : Bool) : itemsIn (f + 1) had (at_ p i) = if had = true ∧ now p i = 93 then .ok ([], at_ p (i + 1)) else match readItem p i with
    | .error e => .error e
    | .ok (x, j) => (itemsIn f true (at_ p j)).map fun z => (x :: z.1, z.2) := by
  rw [itemsIn, is_dec hp i ']' (by decide)]
  have e : (had && decide (now p i = (']' : Char).toNat)) = true ↔ had = true ∧ now p i = 93 := by
    rw [Bool.and_eq_true, decide_eq_true_eq]
    exact Iff.rfl
  simp only [e]
  by_cases c : had = true ∧ now p i = 93
  · rw [if_pos c, if_pos c, at_next]
  · rw [if_neg c, if_neg c]
    have q := item_is hp i
    cases es : setByte (at_ p i) with
    | error e =>
      rw [es] at q
      cases er : readItem p i with
      | error e' => rw [er] at q; cases q; rfl
      | ok _ => rw [er] at q; cases q
    | ok y =>
      obtain ⟨a, x⟩ := y
      rw [es] at q
      dsimp only at q ⊢
      by_cases c2 : x.is '-' = true
      · rw [if_pos c2] at q ⊢
        cases es2 : setByte x.next with
        | error e =>
          rw [es2] at q
          cases er : readItem p i with
          | error e' => rw [er] at q; cases q; rfl
          | ok _ => rw [er] at q; cases q
        | ok z =>
          obtain ⟨b, y⟩ := z
          rw [es2] at q
          dsimp only at q ⊢
          by_cases c3 : b < a
          · rw [if_pos c3] at q ⊢
            cases er : readItem p i with
            | error e' => rw [er] at q; cases q; rfl
            | ok _ => rw [er] at q; cases q
          · rw [if_neg c3] at q ⊢
            cases er : readItem p i with
            | error e' => rw [er] at q; cases q
            | ok v => obtain ⟨v1, v2⟩ := v; rw [er] at q; cases q; rfl
      · rw [if_neg c2] at q ⊢
        cases er : readItem p i with
        | error e' => rw [er] at q; cases q
        | ok v => obtain ⟨v1, v2⟩ := v; rw [er] at q; cases q; rfl
theorem items_is {p : List Nat} (hp : Ok8 p) : ∀ (f g i : Nat), p.length - i < f → p.length - i < g → itemsIn f true (at_ p i) = lift p (readItems p g i)
  | 0, _, _, h, _ => absurd h (Nat.not_lt_zero _)
  | _, 0, _, _, h => absurd h (Nat.not_lt_zero _)
  | f + 1, g + 1, i, h1, h2 => by
    rw [itemsIn_step hp, readItems]
    by_cases c : now p i = 93
    · rw [if_pos ⟨rfl, c⟩, if_pos c]; rfl
    · rw [if_neg (fun z => c z.2), if_neg c]
      cases e : readItem p i with
      | error e => rfl
      | ok y =>
        obtain ⟨x, j⟩ := y
        have hj := readItem_lt e
        dsimp only
        rw [items_is hp f g j (by omega) (by omega)]
        cases readItems p g j with
        | error e => rfl
        | ok z => rfl
theorem set_is {p : List Nat} (hp : Ok8 p) (i f : Nat) (hf : p.length - i < f) : (match itemsIn (f + 1) false (if (at_ p i).is '^' = true then (at_ p i).next else at_ p i) with
    | .error e => .error e
    | .ok (l, x) => .ok (((at_ p i).is '^', l), x) : Except Flt ((Bool × List (Nat × Nat)) × In)) = lift p (readSet p i) := by
  unfold readSet
  have e : (if (at_ p i).is '^' = true then (at_ p i).next else at_ p i) = at_ p (if now p i = 94 then i + 1 else i) := by
    rw [is_dec hp i '^' (by decide), at_next]
    simp only [decide_eq_true_eq]
    show (if now p i = 94 then _ else _) = _
    by_cases c : now p i = 94
    · rw [if_pos c, if_pos c]
    · rw [if_neg c, if_neg c]
  have hd : (at_ p i).is '^' = decide (now p i = 94) := is_dec hp i '^' (by decide)
  rw [e, hd, itemsIn_step hp, if_neg (fun z => Bool.noConfusion z.1)]
  have hi : i ≤ (if now p i = 94 then i + 1 else i) := by split <;> omega
  cases e : readItem p (if now p i = 94 then i + 1 else i) with
  | error e => rfl
  | ok y =>
    obtain ⟨x, j⟩ := y
    have hj := readItem_lt e
    dsimp only
    rw [items_is hp f (p.length + 1) j (by omega) (by omega)]
    cases readItems p (p.length + 1) j with
    | error e => rfl
    | ok z => rfl
end PF
/-! Part A2: numbers and counts. -/
namespace PF
open WrPatt
def dg (p : List Nat) (i : Nat) : Bytes := (at_ p i).b.takeWhile isDigit
def dfold (n : Nat) (l : Bytes) : Nat := l.foldl (fun (n : Nat) (c : UInt8) => 10 * n + (c.toNat - 48)) n
theorem digit_end : digit 256 = false := by decide
theorem dg_yes {p : List Nat} (hp : Ok8 p) {i : Nat} (h : digit (now p i) = true) : dg p i = UInt8.ofNat (now p i) :: dg p (i + 1) := by
  have q : i < p.length := lt_of_now fun z => by rw [z, digit_end] at h; cases h
  unfold dg
  rw [at_cons q, List.takeWhile_cons, k_digit _ (now_byte hp q), if_pos h]
theorem dg_no {p : List Nat} (hp : Ok8 p) {i : Nat} (h : digit (now p i) = false) : dg p i = [] := by
  unfold dg
  rcases Nat.lt_or_ge i p.length with q | q
  · rw [at_cons q, List.takeWhile_cons, k_digit _ (now_byte hp q), h]; rfl
  · rw [at_nil q]; rfl
theorem digit_bounds {c : Nat} (h : digit c = true) : 48 ≤ c ∧ c ≤ 57 := by
  unfold digit at h
  simpa using h
theorem readDigits_pos {p : List Nat} (hp : Ok8 p) (first : Nat) : ∀ (f n j : Nat), p.length - j < f → n ≠ 0 → readDigits p first f n j = .ok (dfold n (dg p j), j + (dg p j).length)
  | 0, _, _, h, _ => absurd h (Nat.not_lt_zero _)
  | f + 1, n, j, h, hn => by
    rw [readDigits]
    cases c : digit (now p j) with
    | false => rw [dg_no hp c]; rfl
    | true =>
      have b := digit_bounds c
      have hj : j < p.length := lt_of_now (by omega)
      rw [if_pos rfl, if_neg (fun z => hn z.1), readDigits_pos hp first f _ (j + 1) (by omega) (by omega), dg_yes hp c]
      have e : n * 10 + now p j - 48 = 10 * n + ((UInt8.ofNat (now p j)).toNat - 48) := by
        rw [k_nat _ (by omega)]; omega
      show Except.ok (dfold (n * 10 + now p j - 48) (dg p (j + 1)), _) = Except.ok (dfold (10 * n + ((UInt8.ofNat (now p j)).toNat - 48)) (dg p (j + 1)), _)
      rw [e, List.length_cons]
      congr 2
      omega
theorem dg_len_le (p : List Nat) (i : Nat) : i + (dg p i).length ≤ p.length ∨ dg p i = [] := by
  have h : (dg p i).length ≤ (at_ p i).b.length := by
    unfold dg
    exact (List.takeWhile_sublist _).length_le
  rw [at_b_len] at h
  rcases Nat.lt_or_ge i p.length with q | q
  · left; omega
  · right
    have : (dg p i).length = 0 := by omega
    exact List.eq_nil_of_length_eq_zero this
/-- a number's reading against a bound: what the specification's gives and its look at the bound -/
theorem number_is {p : List Nat} (hp : Ok8 p) (i least : Nat) : (match numberIn (at_ p i) with
    | .error e => .error e
    | .ok (n, x) => if n < least then .error (2, i) else .ok (n, x) : Except Flt (Nat × In)) = lift p (readNumber p least i) := by
  unfold readNumber
  have hd : numberIn (at_ p i) = (if dg p i = [] then .error (1, i) else if (dg p i).head? = some 48 ∧ 1 < (dg p i).length then .error (1, i + 1) else if COUNT < dfold 0 (dg p i) then .error (2, i) else .ok (dfold 0 (dg p i), at_ p (i + (dg p i).length))) := by
    unfold numberIn
    have e : (⟨(at_ p i).p + (dg p i).length, (at_ p i).b.drop (dg p i).length⟩ : In) = at_ p (i + (dg p i).length) := by
      unfold at_
      simp [List.drop_drop]
    show (if dg p i = [] then bad (at_ p i) else if (dg p i).head? = some 48 ∧ 1 < (dg p i).length then .error (1, (at_ p i).p + 1) else if COUNT < dfold 0 (dg p i) then .error (2, (at_ p i).p) else .ok (dfold 0 (dg p i), (⟨(at_ p i).p + (dg p i).length, (at_ p i).b.drop (dg p i).length⟩ : In))) = (_ : Except Flt (Nat × In))
    rw [e]
    rfl
  rw [hd]
  cases c : digit (now p i) with
  | false =>
    have e : readDigits p i (p.length + 1) 0 i = .ok (0, i) := by rw [readDigits, c]; rfl
    rw [dg_no hp c, if_pos rfl, e]
    dsimp only
    rw [if_pos rfl]
    rfl
  | true =>
    have b := digit_bounds c
    have hi : i < p.length := lt_of_now (by omega)
    have e1 : readDigits p i (p.length + 1) 0 i = readDigits p i p.length (now p i - 48) (i + 1) := by
      rw [readDigits, if_pos c, if_neg (fun z => Nat.lt_irrefl _ z.2)]
      congr 1
      omega
    have hne : dg p i ≠ [] := by rw [dg_yes hp c]; simp
    rw [if_neg hne, e1]
    have hhead : (dg p i).head? = some 48 ↔ now p i = 48 := by
      rw [dg_yes hp c]
      simp only [List.head?_cons, Option.some.injEq]
      exact k_eq 48 (by decide) _ (by omega)
    have hlen : (dg p i).length = (dg p (i + 1)).length + 1 := by rw [dg_yes hp c]; rfl
    have hfold : dfold 0 (dg p i) = dfold (now p i - 48) (dg p (i + 1)) := by
      rw [dg_yes hp c]
      show dfold (10 * 0 + ((UInt8.ofNat (now p i)).toNat - 48)) _ = _
      rw [k_nat _ (by omega)]
      congr 1
      omega
    obtain ⟨m, hm⟩ : ∃ m, p.length = m + 1 := ⟨p.length - 1, by omega⟩
    by_cases z : now p i = 48
    · rw [hm, z, readDigits]
      cases c2 : digit (now p (i + 1)) with
      | true =>
        have A : (dg p i).head? = some 48 ∧ 1 < (dg p i).length := ⟨hhead.mpr z, by rw [hlen, dg_yes hp c2, List.length_cons]; omega⟩
        rw [if_pos A, if_pos rfl, if_pos (show 48 - 48 = 0 ∧ i < i + 1 from ⟨rfl, Nat.lt_succ_self _⟩)]
        rfl
      | false =>
        have A : ¬ ((dg p i).head? = some 48 ∧ 1 < (dg p i).length) := fun w => by
          rw [hlen, dg_no hp c2] at w
          exact absurd w.2 (by decide)
        have hf : dfold 0 (dg p i) = 0 := by rw [hfold, dg_no hp c2, z]; rfl
        rw [if_neg A, hf, hlen, dg_no hp c2, if_neg (by decide : ¬ COUNT < 0), if_neg (by decide : ¬ (false = true))]
        dsimp only [List.length_nil]
        rw [if_neg (by omega : ¬ i + 1 = i)]
        by_cases l : 0 < least
        · rw [if_pos l, if_pos (.inr l)]; rfl
        · rw [if_neg l, if_neg (by intro w; rcases w with w | w; exact absurd w (by decide); exact l w)]; rfl
    · rw [readDigits_pos hp i _ _ _ (by omega) (by omega), if_neg (fun w => z (hhead.mp w.1)), hfold, hlen]
      dsimp only
      rw [if_neg (by omega : ¬ i + 1 + (dg p (i + 1)).length = i)]
      have ep : i + ((dg p (i + 1)).length + 1) = i + 1 + (dg p (i + 1)).length := by omega
      rw [ep]
      show _ = lift p (if 100 < _ ∨ _ then _ else _)
      by_cases w : 100 < dfold (now p i - 48) (dg p (i + 1))
      · rw [if_pos (show COUNT < _ from w), if_pos (.inl w)]; rfl
      · rw [if_neg (show ¬ COUNT < _ from w)]
        dsimp only
        by_cases l : dfold (now p i - 48) (dg p (i + 1)) < least
        · rw [if_pos l, if_pos (.inr l)]; rfl
        · rw [if_neg l, if_neg (by intro y; rcases y with y | y; exact w y; exact l y)]; rfl
theorem number0_is {p : List Nat} (hp : Ok8 p) (i : Nat) : numberIn (at_ p i) = lift p (readNumber p 0 i) := by
  rw [← number_is hp i 0]
  cases numberIn (at_ p i) with
  | error e => rfl
  | ok x => obtain ⟨n, y⟩ := x; rfl
theorem readNumber_lt {p : List Nat} (hp : Ok8 p) {i least n j : Nat} (h : readNumber p least i = .ok (n, j)) : i < j ∧ j ≤ p.length ∧ n ≤ 100 ∧ least ≤ n := by
  unfold readNumber at h
  cases e : readDigits p i (p.length + 1) 0 i with
  | error _ => rw [e] at h; cases h
  | ok x =>
    obtain ⟨n', j'⟩ := x
    rw [e] at h
    dsimp only at h
    by_cases c1 : j' = i
    · rw [if_pos c1] at h; cases h
    rw [if_neg c1] at h
    by_cases c2 : 100 < n' ∨ n' < least
    · rw [if_pos c2] at h; cases h
    rw [if_neg c2] at h
    cases h
    have key : ∀ (f m k : Nat), i ≤ k → k ≤ p.length → ∀ n j, readDigits p i f m k = .ok (n, j) → k ≤ j ∧ j ≤ p.length := by
      intro f
      induction f with
      | zero => intro m k h1 h2 n j e; rw [readDigits] at e; cases e; exact ⟨Nat.le_refl _, h2⟩
      | succ f ih =>
        intro m k h1 h2 n j e
        rw [readDigits] at e
        cases c : digit (now p k) with
        | false => rw [c] at e; cases e; exact ⟨Nat.le_refl _, h2⟩
        | true =>
          have hk : k < p.length := lt_of_now fun z => by rw [z, digit_end] at c; cases c
          rw [if_pos c] at e
          by_cases c2 : m = 0 ∧ i < k
          · rw [if_pos c2] at e; cases e
          · rw [if_neg c2] at e
            have := ih _ (k + 1) (by omega) (by omega) n j e
            omega
    rcases Nat.lt_or_ge i p.length with q | q
    · have := key _ _ _ (Nat.le_refl _) (by omega) _ _ e
      omega
    · exfalso
      rw [readDigits, now_ge q, digit_end] at e
      cases e
      exact c1 rfl
theorem numbers_is {p : List Nat} (hp : Ok8 p) (i : Nat) : countIn (at_ p i) = lift p (readNumbers p i) := by
  unfold countIn readNumbers
  rw [number0_is hp]
  cases e : readNumber p 0 i with
  | error e => rfl
  | ok x =>
    obtain ⟨n, j⟩ := x
    dsimp only [lift]
    rw [is_dec hp j '}' (by decide), is_dec hp j ',' (by decide), at_next, is_dec hp (j + 1) '}' (by decide), at_next]
    simp only [decide_eq_true_eq, decide_eq_false_iff_not]
    show (if now p j = 125 then _ else if ¬ now p j = 44 then _ else if now p (j + 1) = 125 then _ else _) = _
    by_cases c1 : now p j = 125
    · have c2 : ¬ now p j = 44 := by omega
      rw [if_pos c1, if_neg c2]
      unfold need
      rw [if_pos c1]
    · rw [if_neg c1]
      by_cases c2 : now p j = 44
      · rw [if_neg (fun z => z c2), if_pos c2]
        by_cases c3 : now p (j + 1) = 125
        · rw [if_pos c3, if_pos c3]
        · rw [if_neg c3, if_neg c3]
          have q := number_is hp (j + 1) n
          cases e2 : numberIn (at_ p (j + 1)) with
          | error e =>
            rw [e2] at q
            cases e3 : readNumber p n (j + 1) with
            | error e' => rw [e3] at q; cases q; rfl
            | ok y => obtain ⟨v, k⟩ := y; rw [e3] at q; cases q
          | ok y =>
            obtain ⟨m, z⟩ := y
            rw [e2] at q
            dsimp only at q ⊢
            by_cases c4 : m < n
            · rw [if_pos c4] at q ⊢
              cases e3 : readNumber p n (j + 1) with
              | error e' => rw [e3] at q; cases q; rfl
              | ok y => obtain ⟨v, k⟩ := y; rw [e3] at q; cases q
            · rw [if_neg c4] at q ⊢
              cases e3 : readNumber p n (j + 1) with
              | error e' => rw [e3] at q; cases q
              | ok y =>
                obtain ⟨v, k⟩ := y
                rw [e3] at q
                cases q
                dsimp only
                rw [is_dec hp k '}' (by decide), at_next]
                simp only [decide_eq_true_eq]
                unfold need
                show (if now p k = 125 then _ else _) = _
                by_cases c5 : now p k = 125
                · rw [if_pos c5, if_pos c5]
                · rw [if_neg c5, if_neg c5]; rfl
      · rw [if_pos c2, if_neg c2]
        unfold need
        rw [if_neg c1]
        rfl
theorem need_lt {p : List Nat} {c i j : Nat} (hc : c ≠ 256) (h : need p c i = .ok j) : j = i + 1 ∧ i < p.length := by
  unfold need at h
  by_cases q : now p i = c
  · rw [if_pos q] at h; cases h; exact ⟨rfl, lt_of_now (by rw [q]; exact hc)⟩
  · rw [if_neg q] at h; cases h
theorem readNumbers_lt {p : List Nat} (hp : Ok8 p) {i j : Nat} {c : Nat × Option Nat} (h : readNumbers p i = .ok (c, j)) : i < j ∧ j ≤ p.length ∧ c.1 ≤ 100 ∧ ∀ m, c.2 = some m → c.1 ≤ m ∧ m ≤ 100 := by
  unfold readNumbers at h
  cases e : readNumber p 0 i with
  | error _ => rw [e] at h; cases h
  | ok x =>
    obtain ⟨n, k⟩ := x
    have h1 := readNumber_lt hp e
    rw [e] at h
    dsimp only at h
    by_cases c1 : now p k = 44
    · rw [if_pos c1] at h
      by_cases c2 : now p (k + 1) = 125
      · rw [if_pos c2] at h
        cases h
        have : k + 1 < p.length := lt_of_now (by omega)
        exact ⟨by omega, by omega, h1.2.2.1, fun m z => by cases z⟩
      · rw [if_neg c2] at h
        cases e2 : readNumber p n (k + 1) with
        | error _ => rw [e2] at h; cases h
        | ok y =>
          obtain ⟨m, l⟩ := y
          have h2 := readNumber_lt hp e2
          rw [e2] at h
          dsimp only at h
          cases e3 : need p 125 l with
          | error _ => rw [e3] at h; cases h
          | ok t =>
            have h3 := need_lt (by decide) e3
            rw [e3] at h
            cases h
            exact ⟨by omega, by omega, h1.2.2.1, fun m' z => by cases z; omega⟩
    · rw [if_neg c1] at h
      cases e3 : need p 125 k with
      | error _ => rw [e3] at h; cases h
      | ok t =>
        have h3 := need_lt (by decide) e3
        rw [e3] at h
        cases h
        exact ⟨by omega, by omega, h1.2.2.1, fun m' z => by cases z; omega⟩
theorem readCount_lt {p : List Nat} (hp : Ok8 p) {i j : Nat} {c : Nat × Option Nat} (h : readCount p i = .ok (some c, j)) : i < j ∧ j ≤ p.length ∧ c.1 ≤ 100 ∧ ∀ m, c.2 = some m → c.1 ≤ m ∧ m ≤ 100 := by
  unfold readCount at h
  by_cases c1 : now p i = 42
  · rw [if_pos c1] at h; cases h
    exact ⟨Nat.lt_succ_self _, lt_of_now (by omega), by decide, fun m z => by cases z⟩
  rw [if_neg c1] at h
  by_cases c2 : now p i = 43
  · rw [if_pos c2] at h; cases h
    exact ⟨Nat.lt_succ_self _, lt_of_now (by omega), by decide, fun m z => by cases z⟩
  rw [if_neg c2] at h
  by_cases c3 : now p i = 63
  · rw [if_pos c3] at h; cases h
    exact ⟨Nat.lt_succ_self _, lt_of_now (by omega), by decide, fun m z => by cases z; decide⟩
  rw [if_neg c3] at h
  by_cases c4 : now p i = 123
  · rw [if_pos c4] at h
    cases e : readNumbers p (i + 1) with
    | error _ => rw [e] at h; cases h
    | ok x =>
      obtain ⟨c', j'⟩ := x
      rw [e] at h
      cases h
      have := readNumbers_lt hp e
      exact ⟨by omega, this.2.1, this.2.2.1, this.2.2.2⟩
  · rw [if_neg c4] at h; cases h
theorem readCount_none {p : List Nat} {i j : Nat} (h : readCount p i = .ok (none, j)) : j = i := by
  unfold readCount at h
  by_cases c1 : now p i = 42
  · rw [if_pos c1] at h; cases h
  rw [if_neg c1] at h
  by_cases c2 : now p i = 43
  · rw [if_pos c2] at h; cases h
  rw [if_neg c2] at h
  by_cases c3 : now p i = 63
  · rw [if_pos c3] at h; cases h
  rw [if_neg c3] at h
  by_cases c4 : now p i = 123
  · rw [if_pos c4] at h
    cases e : readNumbers p (i + 1) with
    | error _ => rw [e] at h; cases h
    | ok x => obtain ⟨c', j'⟩ := x; rw [e] at h; cases h
  · rw [if_neg c4] at h; cases h; rfl
/-- one count more, in the specification's loop -/
theorem countsIn_step {p : List Nat} (hp : Ok8 p) (f : Nat) (a : Pat) (i : Nat) : countsIn (f + 1) a (at_ p i) = match readCount p i with
    | .error e => .error e
    | .ok (none, j) => .ok (a, at_ p j)
    | .ok (some c, j) => countsIn f (.rep a c.1 c.2) (at_ p j) := by
  unfold readCount
  rw [countsIn, is_dec hp i '*' (by decide), is_dec hp i '+' (by decide), is_dec hp i '?' (by decide), is_dec hp i '{' (by decide), at_next, numbers_is hp]
  simp only [decide_eq_true_eq]
  show (if now p i = 42 then _ else if now p i = 43 then _ else if now p i = 63 then _ else if now p i = 123 then _ else _) = _
  by_cases c1 : now p i = 42
  · rw [if_pos c1, if_pos c1]
  rw [if_neg c1, if_neg c1]
  by_cases c2 : now p i = 43
  · rw [if_pos c2, if_pos c2]
  rw [if_neg c2, if_neg c2]
  by_cases c3 : now p i = 63
  · rw [if_pos c3, if_pos c3]
  rw [if_neg c3, if_neg c3]
  by_cases c4 : now p i = 123
  · rw [if_pos c4, if_pos c4]
    cases readNumbers p (i + 1) with
    | error e => rfl
    | ok x => obtain ⟨c, j⟩ := x; rfl
  · rw [if_neg c4, if_neg c4]
end PF
/-! Part A3: the forms, the machine that reads, how forms lie. -/
namespace PF
open WrPatt
inductive Kd where
  | byte
  | begin_
  | end_
  | edge
  | noEdge
  | row
  | either
  | both
  | turned
  | counted
  | group
  deriving DecidableEq
inductive Tl where
  | non
  | mem (m : List Bool)
  | cnt (n : Nat) (m : Option Nat)
  | num (k : Nat)
structure Fm where
  kd : Kd
  parts : List Nat
  tl : Tl
structure Lv where
  rows : List Nat
  parts : List Nat
  pieces : List Nat
  turned : Bool
  shut : Bool
  gbp : Nat
  group : Option Nat
structure Rd where
  place : Nat
  groups : Nat
  forms : List Fm
  top : Lv
  below : List Lv
def Lv.new (shut : Bool) (g : Nat) (k : Option Nat) : Lv := ⟨[], [], [], false, shut, g, k⟩
def Lv.bars (L : Lv) : Bool := L.shut || (L.turned || decide (0 < L.parts.length))
def memOf (f : Nat → Bool) : List Bool := (List.range 256).map f
def inSetN (neg : Bool) (l : List (Nat × Nat)) (c : Nat) : Bool := (l.any fun x => decide (x.1 ≤ c) && decide (c ≤ x.2)) != neg
def byteF (f : Nat → Bool) : Fm := ⟨.byte, [], .mem (memOf f)⟩
def readEscAtom (p : List Nat) (i : Nat) : Except Flt (Fm × Nat) := if now p i = 98 then .ok (⟨.edge, [], .non⟩, i + 1) else if now p i = 66 then .ok (⟨.noEdge, [], .non⟩, i + 1) else match readEscaped p i with
  | .error e => .error e
  | .ok (c, j) => .ok (byteF fun b => decide (b = c), j)
def readAtom (p : List Nat) (i : Nat) : Except Flt (Fm × Nat) := if now p i = 91 then (match readSet p (i + 1) with
    | .error e => .error e
    | .ok (x, j) => .ok (byteF (inSetN x.1 x.2), j))
  else if now p i = 94 then .ok (⟨.begin_, [], .non⟩, i + 1) else if now p i = 36 then .ok (⟨.end_, [], .non⟩, i + 1) else if now p i = 46 then .ok (byteF fun b => decide (b ≠ 10), i + 1)
  else if now p i = 92 then readEscAtom p (i + 1) else match readPlain notPlain p i with
    | .error e => .error e
    | .ok (c, j) => .ok (byteF fun b => decide (b = c), j)
def keepJoined (kd : Kd) (fs : List Fm) : List Nat → List Fm × Nat
  | [i] => (fs, i)
  | js => (fs ++ [⟨kd, js, .non⟩], fs.length)
def endPartL (g : Nat) (fs : List Fm) (L : Lv) : List Fm × Lv := ((keepJoined .row fs L.pieces).1, { L with parts := L.parts ++ [(keepJoined .row fs L.pieces).2], pieces := [], gbp := g })
def endRowL (g : Nat) (fs : List Fm) (L : Lv) : List Fm × Lv := let q := endPartL g fs L
  ((keepJoined .both q.1 q.2.parts).1, { q.2 with rows := q.2.rows ++ [(keepJoined .both q.1 q.2.parts).2], parts := [] })
def endLevelL (g : Nat) (fs : List Fm) (L : Lv) : List Fm × Lv × Nat := let q := endRowL g fs L
  ((keepJoined .either q.1 q.2.rows).1, q.2, (keepJoined .either q.1 q.2.rows).2)
def countLoop (p : List Nat) : Nat → List Fm → Nat → Nat → Except Flt (List Fm × Nat × Nat)
  | 0, _, _, pl => .error (1, pl)
  | f + 1, fs, i, pl => match readCount p pl with
    | .error e => .error e
    | .ok (none, j) => .ok (fs, i, j)
    | .ok (some c, j) => countLoop p f (fs ++ [⟨.counted, [i], .cnt c.1 c.2⟩]) fs.length j
/-- a ~ ahead: the form of what's turned -/
def turnF (t : Bool) (fs : List Fm) (i : Nat) : List Fm × Nat := if t = true then (fs ++ [⟨.turned, [i], .non⟩], fs.length) else (fs, i)
def endPiece (p : List Nat) (i : Nat) (S : Rd) : Except Flt Rd := match countLoop p (p.length + 1) S.forms i S.place with
  | .error e => .error e
  | .ok (fs, j, pl) => .ok { S with place := pl, forms := (turnF S.top.turned fs j).1, top := { S.top with turned := false, pieces := S.top.pieces ++ [(turnF S.top.turned fs j).2] } }
def groupF (k : Option Nat) (fs : List Fm) (i : Nat) : List Fm × Nat := match k with
  | none => (fs, i)
  | some k => (fs ++ [⟨.group, [i], .num k⟩], fs.length)
def openBracket (p : List Nat) (S : Rd) : Except Flt Rd := if now p (S.place + 1) = 58 then .ok { S with place := S.place + 2, top := Lv.new S.top.bars S.groups none, below := S.top :: S.below }
  else if S.top.bars = true ∨ S.groups = 32 then .error (4, S.place) else .ok { S with place := S.place + 1, groups := S.groups + 1, top := Lv.new S.top.bars (S.groups + 1) (some (S.groups + 1)), below := S.top :: S.below }
def closeBracket (p : List Nat) (S : Rd) : Except Flt Rd := match S.below with
  | [] => .error (1, S.place)
  | l :: r => let q := endLevelL S.groups S.forms S.top
    let z := groupF S.top.group q.1 q.2.2
    endPiece p z.2 { S with place := S.place + 1, forms := z.1, top := l, below := r }
def passBoth (S : Rd) : Except Flt Rd := if S.top.gbp < S.groups then .error (4, S.place) else .ok { S with place := S.place + 1, forms := (endPartL S.groups S.forms S.top).1, top := (endPartL S.groups S.forms S.top).2 }
def atomStep (p : List Nat) (S : Rd) : Except Flt Rd := match readAtom p S.place with
  | .error e => .error e
  | .ok (fm, j) => endPiece p S.forms.length { S with place := j, forms := S.forms ++ [fm] }
def step (p : List Nat) (S : Rd) : Except Flt Rd := if now p S.place = 40 then openBracket p S
  else if S.top.turned = true ∨ notAtoms.contains (now p S.place) = false then atomStep p S
  else if now p S.place = 126 then .ok { S with place := S.place + 1, top := { S.top with turned := true } }
  else if now p S.place = 124 then .ok { S with place := S.place + 1, forms := (endRowL S.groups S.forms S.top).1, top := (endRowL S.groups S.forms S.top).2 }
  else if now p S.place = 38 then passBoth S
  else closeBracket p S
def finish (S : Rd) : Except Flt Rd := if S.below ≠ [] ∨ S.top.turned = true then .error (1, S.place) else .ok { S with forms := (endLevelL S.groups S.forms S.top).1, top := (endLevelL S.groups S.forms S.top).2.1 }
def Rd.start : Rd := ⟨0, 0, [], Lv.new false 0 none, []⟩
/-- what the loop over the pattern comes to -/
inductive Res (p : List Nat) : Rd → Except Flt Rd → Prop where
  | fin {S : Rd} : p.length ≤ S.place → Res p S (finish S)
  | err {S : Rd} {e : Flt} : S.place < p.length → step p S = .error e → Res p S (.error e)
  | go {S S' : Rd} {r : Except Flt Rd} : S.place < p.length → step p S = .ok S' → Res p S' r → Res p S r

/-! ### how forms lie -/
def seqOf : List Pat → Pat
  | [] => .empty
  | [a] => a
  | a :: b :: r => .seq a (seqOf (b :: r))
def altOf : List Pat → Pat
  | [] => .empty
  | [a] => a
  | a :: b :: r => .alt a (altOf (b :: r))
def bothOf : List Pat → Pat
  | [] => .empty
  | [a] => a
  | a :: b :: r => .both a (bothOf (b :: r))
mutual
/-- forms lo to hi (hi - 1 the whole) are those of a pattern, its groups those from g + 1 to h -/
inductive Lay (fs : List Fm) : Nat → Nat → Nat → Nat → Pat → Prop where
  | byte {lo g : Nat} {neg : Bool} {l : List (Nat × Nat)} {f : Nat → Bool} : fs[lo]? = some (byteF f) → (∀ c, c < 256 → f c = inSetN neg l c) → Lay fs lo (lo + 1) g g (.set neg l)
  | begin_ {lo g : Nat} : fs[lo]? = some ⟨.begin_, [], .non⟩ → Lay fs lo (lo + 1) g g .begin_
  | end_ {lo g : Nat} : fs[lo]? = some ⟨.end_, [], .non⟩ → Lay fs lo (lo + 1) g g .end_
  | edge {lo g : Nat} : fs[lo]? = some ⟨.edge, [], .non⟩ → Lay fs lo (lo + 1) g g (.bound false)
  | noEdge {lo g : Nat} : fs[lo]? = some ⟨.noEdge, [], .non⟩ → Lay fs lo (lo + 1) g g (.bound true)
  | row {lo hi g h : Nat} {js : List Nat} {as : List Pat} : LayL fs lo hi g h js as → js.length ≠ 1 → fs[hi]? = some ⟨.row, js, .non⟩ → Lay fs lo (hi + 1) g h (seqOf as)
  | either {lo hi g h : Nat} {js : List Nat} {as : List Pat} : LayL fs lo hi g h js as → 1 < js.length → fs[hi]? = some ⟨.either, js, .non⟩ → Lay fs lo (hi + 1) g h (altOf as)
  | both {lo hi g h : Nat} {js : List Nat} {as : List Pat} : LayL fs lo hi g h js as → 1 < js.length → fs[hi]? = some ⟨.both, js, .non⟩ → Lay fs lo (hi + 1) g h (bothOf as)
  | turned {lo hi g h : Nat} {a : Pat} : Lay fs lo hi g h a → fs[hi]? = some ⟨.turned, [hi - 1], .non⟩ → Lay fs lo (hi + 1) g h (.not_ a)
  | counted {lo hi g h n : Nat} {m : Option Nat} {a : Pat} : Lay fs lo hi g h a → n ≤ 100 → (∀ k, m = some k → n ≤ k ∧ k ≤ 100) → fs[hi]? = some ⟨.counted, [hi - 1], .cnt n m⟩ → Lay fs lo (hi + 1) g h (.rep a n m)
  | group {lo hi g h : Nat} {a : Pat} : Lay fs lo hi (g + 1) h a → fs[hi]? = some ⟨.group, [hi - 1], .num (g + 1)⟩ → Lay fs lo (hi + 1) g h (.group (g + 1) a)
/-- side by side -/
inductive LayL (fs : List Fm) : Nat → Nat → Nat → Nat → List Nat → List Pat → Prop where
  | nil {lo g : Nat} : LayL fs lo lo g g [] []
  | cons {lo mid hi g k h : Nat} {a : Pat} {js : List Nat} {as : List Pat} : Lay fs lo mid g k a → LayL fs mid hi k h js as → LayL fs lo hi g h ((mid - 1) :: js) (a :: as)
end
theorem get_app {α : Type} {l x : List α} {i : Nat} {a : α} (h : l[i]? = some a) : (l ++ x)[i]? = some a := by
  have : i < l.length := (List.getElem?_eq_some_iff.mp h).1
  rw [List.getElem?_append_left this]; exact h
mutual
theorem Lay.mono {fs x : List Fm} : ∀ {lo hi g h : Nat} {a : Pat}, Lay fs lo hi g h a → Lay (fs ++ x) lo hi g h a
  | _, _, _, _, _, .byte e f => .byte (get_app e) f
  | _, _, _, _, _, .begin_ e => .begin_ (get_app e)
  | _, _, _, _, _, .end_ e => .end_ (get_app e)
  | _, _, _, _, _, .edge e => .edge (get_app e)
  | _, _, _, _, _, .noEdge e => .noEdge (get_app e)
  | _, _, _, _, _, .row l n e => .row (LayL.mono l) n (get_app e)
  | _, _, _, _, _, .either l n e => .either (LayL.mono l) n (get_app e)
  | _, _, _, _, _, .both l n e => .both (LayL.mono l) n (get_app e)
  | _, _, _, _, _, .turned l e => .turned (Lay.mono l) (get_app e)
  | _, _, _, _, _, .counted l n m e => .counted (Lay.mono l) n m (get_app e)
  | _, _, _, _, _, .group l e => .group (Lay.mono l) (get_app e)
theorem LayL.mono {fs x : List Fm} : ∀ {lo hi g h : Nat} {js : List Nat} {as : List Pat}, LayL fs lo hi g h js as → LayL (fs ++ x) lo hi g h js as
  | _, _, _, _, _, _, .nil => .nil
  | _, _, _, _, _, _, .cons a l => .cons (Lay.mono a) (LayL.mono l)
end
mutual
theorem Lay.lt {fs : List Fm} : ∀ {lo hi g h : Nat} {a : Pat}, Lay fs lo hi g h a → lo < hi ∧ hi ≤ fs.length ∧ g ≤ h
  | _, _, _, _, _, .byte e _ => ⟨Nat.lt_succ_self _, (List.getElem?_eq_some_iff.mp e).1, Nat.le_refl _⟩
  | _, _, _, _, _, .begin_ e => ⟨Nat.lt_succ_self _, (List.getElem?_eq_some_iff.mp e).1, Nat.le_refl _⟩
  | _, _, _, _, _, .end_ e => ⟨Nat.lt_succ_self _, (List.getElem?_eq_some_iff.mp e).1, Nat.le_refl _⟩
  | _, _, _, _, _, .edge e => ⟨Nat.lt_succ_self _, (List.getElem?_eq_some_iff.mp e).1, Nat.le_refl _⟩
  | _, _, _, _, _, .noEdge e => ⟨Nat.lt_succ_self _, (List.getElem?_eq_some_iff.mp e).1, Nat.le_refl _⟩
  | _, _, _, _, _, .row l _ e => ⟨Nat.lt_succ_of_le (LayL.le l).1, (List.getElem?_eq_some_iff.mp e).1, (LayL.le l).2⟩
  | _, _, _, _, _, .either l _ e => ⟨Nat.lt_succ_of_le (LayL.le l).1, (List.getElem?_eq_some_iff.mp e).1, (LayL.le l).2⟩
  | _, _, _, _, _, .both l _ e => ⟨Nat.lt_succ_of_le (LayL.le l).1, (List.getElem?_eq_some_iff.mp e).1, (LayL.le l).2⟩
  | _, _, _, _, _, .turned l e => ⟨Nat.lt_succ_of_lt (Lay.lt l).1, (List.getElem?_eq_some_iff.mp e).1, (Lay.lt l).2.2⟩
  | _, _, _, _, _, .counted l _ _ e => ⟨Nat.lt_succ_of_lt (Lay.lt l).1, (List.getElem?_eq_some_iff.mp e).1, (Lay.lt l).2.2⟩
  | _, _, _, _, _, .group l e => ⟨Nat.lt_succ_of_lt (Lay.lt l).1, (List.getElem?_eq_some_iff.mp e).1, Nat.le_of_succ_le (Lay.lt l).2.2⟩
theorem LayL.le {fs : List Fm} : ∀ {lo hi g h : Nat} {js : List Nat} {as : List Pat}, LayL fs lo hi g h js as → lo ≤ hi ∧ g ≤ h
  | _, _, _, _, _, _, .nil => ⟨Nat.le_refl _, Nat.le_refl _⟩
  | _, _, _, _, _, _, .cons a l => ⟨Nat.le_trans (Nat.le_of_lt (Lay.lt a).1) (LayL.le l).1, Nat.le_trans (Lay.lt a).2.2 (LayL.le l).2⟩
end
theorem LayL.snoc {fs : List Fm} : ∀ {lo mid hi g k h : Nat} {js : List Nat} {as : List Pat} {a : Pat}, LayL fs lo mid g k js as → Lay fs mid hi k h a → LayL fs lo hi g h (js ++ [hi - 1]) (as ++ [a])
  | _, _, _, _, _, _, _, _, _, .nil, z => .cons z .nil
  | _, _, _, _, _, _, _, _, _, .cons x l, z => .cons x (LayL.snoc l z)
theorem LayL.append {fs : List Fm} : ∀ {lo mid hi g k h : Nat} {js js' : List Nat} {as as' : List Pat}, LayL fs lo mid g k js as → LayL fs mid hi k h js' as' → LayL fs lo hi g h (js ++ js') (as ++ as')
  | _, _, _, _, _, _, _, _, _, _, .nil, z => z
  | _, _, _, _, _, _, _, _, _, _, .cons x l, z => .cons x (LayL.append l z)
theorem LayL.len {fs : List Fm} : ∀ {lo hi g h : Nat} {js : List Nat} {as : List Pat}, LayL fs lo hi g h js as → js.length = as.length
  | _, _, _, _, _, _, .nil => rfl
  | _, _, _, _, _, _, .cons _ l => congrArg Nat.succ (LayL.len l)
/-- joined: what's alone needs no form around it -/
theorem keepJoined_lay {kd : Kd} {op : List Pat → Pat} {fs : List Fm} {lo g h : Nat} {js : List Nat} {as : List Pat} (l : LayL fs lo fs.length g h js as) (one : ∀ a, op [a] = a)
    (many : ∀ x : List Fm, LayL (fs ++ x) lo fs.length g h js as → js.length ≠ 1 → (fs ++ x)[fs.length]? = some ⟨kd, js, .non⟩ → Lay (fs ++ x) lo (fs.length + 1) g h (op as)) :
    ∃ x, (keepJoined kd fs js).1 = fs ++ x ∧ Lay (fs ++ x) lo (fs ++ x).length g h (op as) ∧ (keepJoined kd fs js).2 = (fs ++ x).length - 1 := by
  have gen : js.length ≠ 1 → ∃ x, (fs ++ [⟨kd, js, .non⟩] : List Fm) = fs ++ x ∧ Lay (fs ++ x) lo (fs ++ x).length g h (op as) ∧ fs.length = (fs ++ x).length - 1 := fun hn => by
    refine ⟨[⟨kd, js, .non⟩], rfl, ?_, ?_⟩
    · have e : (fs ++ [(⟨kd, js, .non⟩ : Fm)]).length = fs.length + 1 := by rw [List.length_append]; rfl
      rw [e]
      exact many _ l.mono hn (by rw [List.getElem?_append_right (Nat.le_refl _), Nat.sub_self]; rfl)
    · rw [List.length_append]; rfl
  match js, l, gen with
  | [], l, gen => exact gen (by decide)
  | [j], l, gen =>
    cases l with
    | cons a l2 =>
      cases l2
      rename_i a _
      refine ⟨[], ?_, ?_, ?_⟩
      · rw [List.append_nil]; rfl
      · rw [List.append_nil, one]; exact a
      · rw [List.append_nil]; rfl
  | j :: j2 :: r, l, gen => exact gen (by simp)
theorem endLevel_lay {fs : List Fm} {L : Lv} {n0 n1 n2 g g1 g2 g3 gg : Nat} {ras pas as : List Pat} (l1 : LayL fs n0 n1 g g1 L.rows ras) (l2 : LayL fs n1 n2 g1 g2 L.parts pas) (l3 : LayL fs n2 fs.length g2 g3 L.pieces as) :
    ∃ x, (endLevelL gg fs L).1 = fs ++ x ∧ Lay (fs ++ x) n0 (fs ++ x).length g g3 (altOf (ras ++ [bothOf (pas ++ [seqOf as])])) ∧ (endLevelL gg fs L).2.2 = (fs ++ x).length - 1 := by
  obtain ⟨x1, e1, k1, w1⟩ := keepJoined_lay (kd := .row) (op := seqOf) l3 (fun _ => rfl) fun x l n e => .row l n e
  have p2 : LayL (fs ++ x1) n1 (fs ++ x1).length g1 g3 (L.parts ++ [(fs ++ x1).length - 1]) (pas ++ [seqOf as]) := l2.mono.snoc k1
  obtain ⟨x2, e2, k2, w2⟩ := keepJoined_lay (kd := .both) (op := bothOf) p2 (fun _ => rfl) fun x l n e => .both l (Nat.lt_of_le_of_ne (by rw [List.length_append]; exact Nat.le_add_left _ _) (Ne.symm n)) e
  have p3 : LayL (fs ++ x1 ++ x2) n0 (fs ++ x1 ++ x2).length g g3 (L.rows ++ [(fs ++ x1 ++ x2).length - 1]) (ras ++ [bothOf (pas ++ [seqOf as])]) := l1.mono.mono.snoc k2
  obtain ⟨x3, e3, k3, w3⟩ := keepJoined_lay (kd := .either) (op := altOf) p3 (fun _ => rfl) fun x l n e => .either l (Nat.lt_of_le_of_ne (by rw [List.length_append]; exact Nat.le_add_left _ _) (Ne.symm n)) e
  refine ⟨x1 ++ x2 ++ x3, ?_, ?_, ?_⟩
  · show (keepJoined .either (keepJoined .both (keepJoined .row fs L.pieces).1 (L.parts ++ [(keepJoined .row fs L.pieces).2])).1 (L.rows ++ [(keepJoined .both (keepJoined .row fs L.pieces).1 (L.parts ++ [(keepJoined .row fs L.pieces).2])).2])).1 = _
    rw [e1, w1, e2, w2, e3]
    simp
  · have ee : fs ++ (x1 ++ x2 ++ x3) = fs ++ x1 ++ x2 ++ x3 := by simp
    rw [ee]; exact k3
  · show (keepJoined .either (keepJoined .both (keepJoined .row fs L.pieces).1 (L.parts ++ [(keepJoined .row fs L.pieces).2])).1 (L.rows ++ [(keepJoined .both (keepJoined .row fs L.pieces).1 (L.parts ++ [(keepJoined .row fs L.pieces).2])).2])).2 = _
    have ee : fs ++ (x1 ++ x2 ++ x3) = fs ++ x1 ++ x2 ++ x3 := by simp
    rw [e1, w1, e2, w2, w3, ee]
end PF
/-! Part A4: what the machine comes to is what the specification reads. -/
namespace PF
open WrPatt
theorem memOf_get {f : Nat → Bool} {c : Nat} (h : c < 256) : (memOf f)[c]? = some (f c) := by
  unfold memOf
  rw [List.getElem?_map, List.getElem?_range h]; rfl
/-! ### atoms that are no brackets -/
theorem dot_set (c : Nat) : decide (c ≠ 10) = inSetN true [(10, 10)] c := by
  unfold inSetN
  by_cases h : c = 10
  · subst h; rfl
  · have : (decide (10 ≤ c) && decide (c ≤ 10)) = false := by
      rw [Bool.and_eq_false_iff, decide_eq_false_iff_not, decide_eq_false_iff_not]; omega
    simp [this, h]
theorem one_set (v c : Nat) : decide (c = v) = inSetN false [(v, v)] c := by
  unfold inSetN
  by_cases h : c = v
  · subst h; simp
  · have : (decide (v ≤ c) && decide (c ≤ v)) = false := by
      rw [Bool.and_eq_false_iff, decide_eq_false_iff_not, decide_eq_false_iff_not]; omega
    simp [this, h]
theorem head_iff {p : List Nat} (hp : Ok8 p) {i : Nat} (m : Nat) (hm : m < 256) : (at_ p i).b.head? = some (UInt8.ofNat m) ↔ now p i = m := by
  rcases Nat.lt_or_ge i p.length with q | q
  · rw [at_cons q]
    simp only [List.head?_cons, Option.some.injEq]
    exact ofNat_eq (now_byte hp q) hm
  · rw [at_nil q, now_ge q]
    simp
    omega
theorem readItems_lt {p : List Nat} : ∀ {f i j : Nat} {l : List (Nat × Nat)}, readItems p f i = .ok (l, j) → i < j ∧ j ≤ p.length
  | 0, _, _, _, h => by rw [readItems] at h; cases h
  | f + 1, i, j, l, h => by
    rw [readItems] at h
    by_cases c : now p i = 93
    · rw [if_pos c] at h; cases h
      exact ⟨Nat.lt_succ_self _, lt_of_now (by omega)⟩
    · rw [if_neg c] at h
      cases e : readItem p i with
      | error _ => rw [e] at h; cases h
      | ok y =>
        obtain ⟨x, k⟩ := y
        have h1 := readItem_lt e
        rw [e] at h
        dsimp only at h
        cases e2 : readItems p f k with
        | error _ => rw [e2] at h; cases h
        | ok z =>
          obtain ⟨l2, m⟩ := z
          have h2 := readItems_lt e2
          rw [e2] at h
          cases h
          omega
theorem readSet_lt {p : List Nat} {i j : Nat} {x : Bool × List (Nat × Nat)} (h : readSet p i = .ok (x, j)) : i < j ∧ j ≤ p.length := by
  unfold readSet at h
  have hi : i ≤ (if now p i = 94 then i + 1 else i) := by split <;> omega
  cases e : readItem p (if now p i = 94 then i + 1 else i) with
  | error _ => rw [e] at h; cases h
  | ok y =>
    obtain ⟨x1, k⟩ := y
    have h1 := readItem_lt e
    rw [e] at h
    dsimp only at h
    cases e2 : readItems p (p.length + 1) k with
    | error _ => rw [e2] at h; cases h
    | ok z =>
      obtain ⟨l2, m⟩ := z
      have h2 := readItems_lt e2
      rw [e2] at h
      cases h
      omega
/-- what the specification's atom reader gives where no bracket stands -/
theorem atom_is {p : List Nat} (hp : Ok8 p) (f : Nat) (no : Bool) (g i : Nat) (hc : now p i ≠ 40) : match readAtom p i with
    | .error e => atomIn (f + 1) no g (at_ p i) = .error e
    | .ok (fm, j) => i < j ∧ j ≤ p.length ∧ ∃ a, atomIn (f + 1) no g (at_ p i) = .ok (a, g, at_ p j) ∧ ∀ (fs : List Fm) (lo k : Nat), fs[lo]? = some fm → Lay fs lo (lo + 1) k k a := by
  rcases Nat.lt_or_ge i p.length with q | q
  · have hb := now_byte hp q
    have st : i < i + 1 ∧ i + 1 ≤ p.length := ⟨Nat.lt_succ_self _, q⟩
    unfold atomIn readAtom
    rw [at_cons q]
    have e46 : (UInt8.ofNat (now p i) = 46) ↔ now p i = 46 := k_eq 46 (by decide) _ hb
    have e94 : (UInt8.ofNat (now p i) = 94) ↔ now p i = 94 := k_eq 94 (by decide) _ hb
    have e36 : (UInt8.ofNat (now p i) = 36) ↔ now p i = 36 := k_eq 36 (by decide) _ hb
    have e92 : (UInt8.ofNat (now p i) = 92) ↔ now p i = 92 := k_eq 92 (by decide) _ hb
    have e91 : (UInt8.ofNat (now p i) = 91) ↔ now p i = 91 := k_eq 91 (by decide) _ hb
    have e40 : (UInt8.ofNat (now p i) = 40) ↔ now p i = 40 := k_eq 40 (by decide) _ hb
    simp only [e46, e94, e36, e92, e91, e40, at_next]
    by_cases c1 : now p i = 91
    · rw [if_pos c1, if_neg (by omega), if_neg (by omega), if_neg (by omega), if_neg (by omega), if_pos c1]
      have hl : (UInt8.ofNat (now p i) :: (at_ p (i + 1)).b).length + 1 = p.length - i + 1 := by
        rw [← at_cons q, at_b_len]
      rw [hl]
      have hs := set_is hp (i + 1) (p.length - i) (by omega)
      have hn : (at_ p (i + 1)).next = at_ p (i + 1 + 1) := at_next p (i + 1)
      rw [hn] at hs
      generalize itemsIn (p.length - i + 1) false (if (at_ p (i + 1)).is '^' = true then at_ p (i + 1 + 1) else at_ p (i + 1)) = I at hs ⊢
      cases I with
      | error e =>
        cases hr : readSet p (i + 1) with
        | error e' => rw [hr] at hs; cases hs; rfl
        | ok y => obtain ⟨v, k⟩ := y; rw [hr] at hs; cases hs
      | ok z =>
        obtain ⟨l, x⟩ := z
        cases hr : readSet p (i + 1) with
        | error e' => rw [hr] at hs; cases hs
        | ok y =>
          obtain ⟨v, k⟩ := y
          have hk := readSet_lt hr
          rw [hr] at hs
          cases hs
          exact ⟨by omega, hk.2, _, rfl, fun fs lo k e => .byte e fun c hc => rfl⟩
    rw [if_neg c1, if_neg c1]
    by_cases c2 : now p i = 94
    · rw [if_pos c2, if_neg (by omega), if_pos c2]
      exact ⟨st.1, st.2, _, rfl, fun fs lo k e => .begin_ e⟩
    rw [if_neg c2, if_neg c2]
    by_cases c3 : now p i = 36
    · rw [if_pos c3, if_neg (by omega), if_pos c3]
      exact ⟨st.1, st.2, _, rfl, fun fs lo k e => .end_ e⟩
    rw [if_neg c3, if_neg c3]
    by_cases c4 : now p i = 46
    · rw [if_pos c4, if_pos c4]
      exact ⟨st.1, st.2, _, rfl, fun fs lo k e => .byte e fun c hc => dot_set c⟩
    rw [if_neg c4, if_neg c4]
    by_cases c5 : now p i = 92
    · rw [if_pos c5, if_pos c5]
      unfold readEscAtom
      have h98 : (at_ p (i + 1)).b.head? = some 98 ↔ now p (i + 1) = 98 := head_iff hp 98 (by decide)
      have h66 : (at_ p (i + 1)).b.head? = some 66 ↔ now p (i + 1) = 66 := head_iff hp 66 (by decide)
      simp only [h98, h66]
      by_cases d1 : now p (i + 1) = 98
      · have : i + 1 < p.length := lt_of_now (by omega)
        rw [if_pos d1, if_pos d1]
        exact ⟨by omega, by omega, _, rfl, fun fs lo k e => .edge e⟩
      rw [if_neg d1, if_neg d1]
      by_cases d2 : now p (i + 1) = 66
      · have : i + 1 < p.length := lt_of_now (by omega)
        rw [if_pos d2, if_pos d2]
        exact ⟨by omega, by omega, _, rfl, fun fs lo k e => .noEdge e⟩
      rw [if_neg d2, if_neg d2, escaped_is hp]
      cases hr : readEscaped p (i + 1) with
      | error e => rfl
      | ok y =>
        obtain ⟨v, k⟩ := y
        have hk := readEscaped_lt hr
        exact ⟨by omega, hk.2, _, rfl, fun fs lo k e => .byte e fun c hc => one_set v c⟩
    rw [if_neg c5, if_neg c5, if_neg hc]
    unfold readPlain
    rw [k_seen _ hb, k_forms _ hb, k_nat _ hb]
    by_cases c6 : printed (now p i) = true ∧ notPlain.contains (now p i) = false
    · rw [if_pos c6, if_pos c6]
      exact ⟨st.1, st.2, _, rfl, fun fs lo k e => .byte e fun c hc => one_set _ c⟩
    · rw [if_neg c6, if_neg c6]
      rfl
  · have e : readAtom p i = .error (1, i) := by
      unfold readAtom readPlain
      rw [now_ge q]; rfl
    rw [e]
    unfold atomIn
    rw [at_nil q]
    rfl
end PF
/-! Part A5: the machine against the specification's reader, piece by piece. -/
namespace PF
open WrPatt
def Rd.adv (S : Rd) (j h : Nat) (x : List Fm) (L : Lv) : Rd := ⟨j, h, S.forms ++ x, L, S.below⟩
theorem Rd.adv_adv (S : Rd) (j h j' h' : Nat) (x y : List Fm) (L L' : Lv) : (S.adv j h x L).adv j' h' y L' = S.adv j' h' (x ++ y) L' := by
  unfold Rd.adv; simp
theorem Rd.adv_self (S : Rd) : S.adv S.place S.groups [] S.top = S := by
  unfold Rd.adv; simp
def Stop (p : List Nat) (j : Nat) : Prop := p.length ≤ j ∨ now p j = 124 ∨ now p j = 38 ∨ now p j = 41
def StopR (p : List Nat) (j : Nat) : Prop := p.length ≤ j ∨ now p j = 124 ∨ now p j = 41
def StopP (p : List Nat) (j : Nat) : Prop := p.length ≤ j ∨ now p j = 41
theorem stop_iff {p : List Nat} (hp : Ok8 p) (i : Nat) : ((at_ p i).b = [] ∨ (at_ p i).is '|' = true ∨ (at_ p i).is '&' = true ∨ (at_ p i).is ')' = true) ↔ Stop p i := by
  rw [at_b_nil, is_iff hp (by decide), is_iff hp (by decide), is_iff hp (by decide)]
  exact Iff.rfl
theorem bar_iff {p : List Nat} (hp : Ok8 p) (i : Nat) : (at_ p i).is '|' = true ↔ now p i = 124 := is_iff hp (by decide)
theorem amp_iff {p : List Nat} (hp : Ok8 p) (i : Nat) : (at_ p i).is '&' = true ↔ now p i = 38 := is_iff hp (by decide)
theorem shut_iff {p : List Nat} (hp : Ok8 p) (i : Nat) : (at_ p i).is ')' = true ↔ now p i = 41 := is_iff hp (by decide)
theorem tilde_iff {p : List Nat} (hp : Ok8 p) (i : Nat) : (at_ p i).is '~' = true ↔ now p i = 126 := is_iff hp (by decide)
theorem colon_iff {p : List Nat} (hp : Ok8 p) (i : Nat) : (at_ p i).is ':' = true ↔ now p i = 58 := is_iff hp (by decide)
theorem open_iff {p : List Nat} (hp : Ok8 p) {i : Nat} (q : i < p.length) : (UInt8.ofNat (now p i) = 40) ↔ now p i = 40 := k_eq 40 (by decide) _ (now_byte hp q)
/-- counts: the loop behind an atom -/
theorem counts_is {p : List Nat} (hp : Ok8 p) : ∀ (f1 f2 : Nat) (fs : List Fm) (i lo g h : Nat) (a : Pat), p.length - i < f1 → p.length - i < f2 → i ≤ p.length → Lay fs lo fs.length g h a →
    match countsIn f1 a (at_ p i) with
    | .error e => countLoop p f2 fs (fs.length - 1) i = .error e
    | .ok (b, x) => ∃ j fs', x = at_ p j ∧ i ≤ j ∧ j ≤ p.length ∧ countLoop p f2 fs (fs.length - 1) i = .ok (fs ++ fs', (fs ++ fs').length - 1, j) ∧ Lay (fs ++ fs') lo (fs ++ fs').length g h b
  | 0, _, _, _, _, _, _, _, h, _, _, _ => absurd h (Nat.not_lt_zero _)
  | _, 0, _, _, _, _, _, _, _, h, _, _ => absurd h (Nat.not_lt_zero _)
  | f1 + 1, f2 + 1, fs, i, lo, g, h, a, h1, h2, h3, l => by
    rw [countsIn_step hp, countLoop]
    cases e : readCount p i with
    | error e => rfl
    | ok y =>
      obtain ⟨c, j⟩ := y
      cases c with
      | none =>
        have := readCount_none e
        subst this
        exact ⟨j, [], rfl, Nat.le_refl _, h3, by simp, by rw [List.append_nil]; exact l⟩
      | some c =>
        have hj := readCount_lt hp e
        have el : (fs ++ [(⟨.counted, [fs.length - 1], .cnt c.1 c.2⟩ : Fm)]).length = fs.length + 1 := by rw [List.length_append]; rfl
        have l2 : Lay (fs ++ [⟨.counted, [fs.length - 1], .cnt c.1 c.2⟩]) lo (fs ++ [(⟨.counted, [fs.length - 1], .cnt c.1 c.2⟩ : Fm)]).length g h (.rep a c.1 c.2) := by
          rw [el]
          exact .counted l.mono hj.2.2.1 hj.2.2.2 (by rw [List.getElem?_append_right (Nat.le_refl _), Nat.sub_self]; rfl)
        have ih := counts_is hp f1 f2 (fs ++ [⟨.counted, [fs.length - 1], .cnt c.1 c.2⟩]) j lo g h (.rep a c.1 c.2) (by omega) (by omega) hj.2.1 l2
        have ei : (fs ++ [(⟨.counted, [fs.length - 1], .cnt c.1 c.2⟩ : Fm)]).length - 1 = fs.length := by rw [el]; rfl
        rw [ei] at ih
        dsimp only
        cases ec : countsIn f1 (.rep a c.1 c.2) (at_ p j) with
        | error e => rw [ec] at ih; exact ih
        | ok z =>
          obtain ⟨b, x⟩ := z
          rw [ec] at ih
          obtain ⟨k, fs', q1, q2, q3, q4, q5⟩ := ih
          refine ⟨k, [⟨.counted, [fs.length - 1], .cnt c.1 c.2⟩] ++ fs', q1, by omega, q3, ?_, ?_⟩
          · rw [q4]; simp
          · have e2 : fs ++ ([⟨.counted, [fs.length - 1], .cnt c.1 c.2⟩] ++ fs') = fs ++ [(⟨.counted, [fs.length - 1], .cnt c.1 c.2⟩ : Fm)] ++ fs' := by simp
            rw [e2]; exact q5
/-- what follows a step's outcome -/
def Then (p : List Nat) (q r : Except Flt Rd) : Prop := match q with
  | .error e => r = .error e
  | .ok S' => Res p S' r
def PAtom (p : List Nat) (f : Nat) : Prop := ∀ S : Rd, 8 * (p.length - S.place) + 1 ≤ f → S.place < p.length → (S.top.turned = true ∨ notAtoms.contains (now p S.place) = false) → S.groups ≤ 32 →
  match atomIn f S.top.bars S.groups (at_ p S.place) with
  | .error e => Res p S (.error e)
  | .ok (a, h, x) => ∃ j fs', x = at_ p j ∧ S.place < j ∧ j ≤ p.length ∧ h ≤ 32 ∧ Lay (S.forms ++ fs') S.forms.length (S.forms ++ fs').length S.groups h a ∧
    ∀ r, Then p (endPiece p ((S.forms ++ fs').length - 1) (S.adv j h fs' S.top)) r → Res p S r
def PPiece (p : List Nat) (f : Nat) : Prop := ∀ S : Rd, 8 * (p.length - S.place) + 2 ≤ f → ¬ Stop p S.place → S.top.turned = false → S.groups ≤ 32 →
  match pieceIn f S.top.bars S.groups (at_ p S.place) with
  | .error e => Res p S (.error e)
  | .ok (a, h, x) => ∃ j fs', x = at_ p j ∧ S.place < j ∧ j ≤ p.length ∧ h ≤ 32 ∧ Lay (S.forms ++ fs') S.forms.length (S.forms ++ fs').length S.groups h a ∧
    ∀ r, Res p (S.adv j h fs' { S.top with pieces := S.top.pieces ++ [(S.forms ++ fs').length - 1] }) r → Res p S r
def PPart (p : List Nat) (f : Nat) : Prop := ∀ S : Rd, 8 * (p.length - S.place) + 3 ≤ f → S.place ≤ p.length → S.top.turned = false → S.groups ≤ 32 →
  match partIn f S.top.bars S.groups (at_ p S.place) with
  | .error e => Res p S (.error e)
  | .ok (a, h, x) => ∃ j fs' js as, x = at_ p j ∧ S.place ≤ j ∧ j ≤ p.length ∧ Stop p j ∧ h ≤ 32 ∧ a = seqOf as ∧ (¬ Stop p S.place → as ≠ []) ∧ LayL (S.forms ++ fs') S.forms.length (S.forms ++ fs').length S.groups h js as ∧
    ∀ r, Res p (S.adv j h fs' { S.top with pieces := S.top.pieces ++ js }) r → Res p S r
def LayR (F : List Fm) (n0 g h : Nat) (ps js : List Nat) (a : Pat) : Prop := ∃ m k pas as, LayL F n0 m g k ps pas ∧ LayL F m F.length k h js as ∧ a = bothOf (pas ++ [seqOf as])
def LayV (F : List Fm) (n0 g h : Nat) (rs ps js : List Nat) (a : Pat) : Prop := ∃ m k ras b, LayL F n0 m g k rs ras ∧ LayR F m k h ps js b ∧ a = altOf (ras ++ [b])
def PRow (p : List Nat) (f : Nat) : Prop := ∀ S : Rd, 8 * (p.length - S.place) + 4 ≤ f → S.place ≤ p.length → S.top.turned = false → S.top.pieces = [] → S.top.gbp = S.groups → S.groups ≤ 32 →
  match rowIn f S.top.bars S.groups (at_ p S.place) with
  | .error e => Res p S (.error e)
  | .ok (a, h, x) => ∃ j fs' ps js gb, x = at_ p j ∧ S.place ≤ j ∧ j ≤ p.length ∧ StopR p j ∧ h ≤ 32 ∧ LayR (S.forms ++ fs') S.forms.length S.groups h ps js a ∧
    ∀ r, Res p (S.adv j h fs' { S.top with parts := S.top.parts ++ ps, pieces := js, gbp := gb }) r → Res p S r
def PPat (p : List Nat) (f : Nat) : Prop := ∀ S : Rd, 8 * (p.length - S.place) + 5 ≤ f → S.place ≤ p.length → S.top.turned = false → S.top.pieces = [] → S.top.parts = [] → S.top.gbp = S.groups → S.groups ≤ 32 →
  match patternIn f S.top.shut S.groups (at_ p S.place) with
  | .error e => Res p S (.error e)
  | .ok (a, h, x) => ∃ j fs' rs ps js gb, x = at_ p j ∧ S.place ≤ j ∧ j ≤ p.length ∧ StopP p j ∧ h ≤ 32 ∧ LayV (S.forms ++ fs') S.forms.length S.groups h rs ps js a ∧
    ∀ r, Res p (S.adv j h fs' { S.top with rows := S.top.rows ++ rs, parts := ps, pieces := js, gbp := gb }) r → Res p S r

theorem endV_lay {F : List Fm} {n0 g h gg : Nat} {L : Lv} {a : Pat} (l : LayV F n0 g h L.rows L.parts L.pieces a) :
    ∃ x, (endLevelL gg F L).1 = F ++ x ∧ Lay (F ++ x) n0 (F ++ x).length g h a ∧ (endLevelL gg F L).2.2 = (F ++ x).length - 1 := by
  obtain ⟨m, k, ras, b, l1, ⟨m2, k2, pas, as, l2, l3, rfl⟩, rfl⟩ := l
  exact endLevel_lay l1 l2 l3
def gIn (k : Option Nat) (g : Nat) : Nat := match k with
  | none => g
  | some _ => g + 1
def patIn (k : Option Nat) (g : Nat) (a : Pat) : Pat := match k with
  | none => a
  | some _ => .group (g + 1) a
theorem group_lay {F : List Fm} {n0 g h : Nat} {a : Pat} (k : Option Nat) (l : Lay F n0 F.length (gIn k g) h a) (hk : ∀ n, k = some n → n = g + 1) :
    ∃ x, (groupF k F (F.length - 1)).1 = F ++ x ∧ Lay (F ++ x) n0 (F ++ x).length g h (patIn k g a) ∧ (groupF k F (F.length - 1)).2 = (F ++ x).length - 1 := by
  cases k with
  | none => exact ⟨[], by rw [List.append_nil]; rfl, by rw [List.append_nil]; exact l, by rw [List.append_nil]; rfl⟩
  | some n =>
    obtain rfl := hk n rfl
    have e : (F ++ [(⟨.group, [F.length - 1], .num (g + 1)⟩ : Fm)]).length = F.length + 1 := by rw [List.length_append]; rfl
    refine ⟨[⟨.group, [F.length - 1], .num (g + 1)⟩], rfl, ?_, ?_⟩
    · rw [e]
      exact .group l.mono (by rw [List.getElem?_append_right (Nat.le_refl _), Nat.sub_self]; rfl)
    · rw [e]; rfl
theorem res_step {p : List Nat} {S S' : Rd} {r : Except Flt Rd} (h : S.place < p.length) (e : step p S = .ok S') (k : Res p S' r) : Res p S r := .go h e k
theorem res_match {p : List Nat} {S : Rd} {q r : Except Flt Rd} (h : S.place < p.length) (e : step p S = q) (k : Then p q r) : Res p S r := by
  unfold Then at k
  cases q with
  | error e' => rw [k]; exact .err h e
  | ok S' => exact .go h e k
theorem res_end {p : List Nat} {S : Rd} (h : p.length ≤ S.place) (b : S.below ≠ [] ∨ S.top.turned = true) : Res p S (.error (1, S.place)) := by
  have e : finish S = .error (1, S.place) := if_pos b
  rw [← e]
  exact .fin h
theorem bars_open {L : Lv} (h : L.turned = false) (h2 : L.parts = []) : L.bars = L.shut := by
  unfold Lv.bars; rw [h, h2]; simp
theorem step_close {p : List Nat} {S : Rd} (h : now p S.place = 41) (t : S.top.turned = false) : step p S = closeBracket p S := by
  unfold step
  rw [if_neg (by omega), if_neg (by rw [t, h]; decide), if_neg (by omega), if_neg (by omega), if_neg (by omega)]
/-- behind a bracket's inside: the closing one, or the end -/
theorem close_sim {p : List Nat} {S S1 : Rd} {f h h' g' : Nat} {k : Option Nat} {a : Pat} {x : In} (hp : Ok8 p) (hb : S1.below = S.top :: S.below) (hf : S1.forms = S.forms) (ht : S1.top = Lv.new S.top.bars g' k) (hg' : S1.groups = g') (hpl : S.place < S1.place)
    (hk : ∀ n, k = some n → n = S.groups + 1) (eg : g' = gIn k S.groups)
    (hs : ∀ r, Res p S1 r → Res p S r)
    (q : ∃ j fs' rs ps js gb, x = at_ p j ∧ S1.place ≤ j ∧ j ≤ p.length ∧ StopP p j ∧ h ≤ 32 ∧ LayV (S1.forms ++ fs') S1.forms.length S1.groups h rs ps js a ∧
      ∀ r, Res p (S1.adv j h fs' { S1.top with rows := S1.top.rows ++ rs, parts := ps, pieces := js, gbp := gb }) r → Res p S1 r) :
    match (if x.is ')' = true then .ok (patIn k S.groups a, h, x.next) else bad x : Read) with
    | .error e => Res p S (.error e)
    | .ok (a, h, x) => ∃ j fs', x = at_ p j ∧ S.place < j ∧ j ≤ p.length ∧ h ≤ 32 ∧ Lay (S.forms ++ fs') S.forms.length (S.forms ++ fs').length S.groups h a ∧
      ∀ r, Then p (endPiece p ((S.forms ++ fs').length - 1) (S.adv j h fs' S.top)) r → Res p S r := by
  obtain ⟨j, fs', rs, ps, js, gb, rfl, q1, q2, q3, q4, q5, q6⟩ := q
  by_cases c : now p j = 41
  · rw [if_pos ((shut_iff hp j).mpr c)]
    have hj : j < p.length := lt_of_now (by omega)
    rw [hf, hg'] at q5
    have q5' : LayV (S.forms ++ fs') S.forms.length g' h ({ S1.top with rows := S1.top.rows ++ rs, parts := ps, pieces := js, gbp := gb } : Lv).rows ps js a := by
      have e : ({ S1.top with rows := S1.top.rows ++ rs, parts := ps, pieces := js, gbp := gb } : Lv).rows = rs := by
        show S1.top.rows ++ rs = rs
        rw [ht]; rfl
      rw [e]; exact q5
    obtain ⟨x, e1, l1, w1⟩ := endV_lay (gg := h) (L := { S1.top with rows := S1.top.rows ++ rs, parts := ps, pieces := js, gbp := gb }) q5'
    rw [eg] at l1
    obtain ⟨y, e2, l2, w2⟩ := group_lay k l1 hk
    refine ⟨j + 1, fs' ++ x ++ y, at_next p j, by omega, by omega, q4, ?_, fun r hr => ?_⟩
    · have e : S.forms ++ (fs' ++ x ++ y) = S.forms ++ fs' ++ x ++ y := by simp
      rw [e]; exact l2
    · refine hs r (q6 r (res_match hj (step_close (S := S1.adv j h fs' { S1.top with rows := S1.top.rows ++ rs, parts := ps, pieces := js, gbp := gb }) c (by show S1.top.turned = false; rw [ht]; rfl)) ?_))
      have ec : closeBracket p (S1.adv j h fs' { S1.top with rows := S1.top.rows ++ rs, parts := ps, pieces := js, gbp := gb }) = endPiece p ((S.forms ++ (fs' ++ x ++ y)).length - 1) (S.adv (j + 1) h (fs' ++ x ++ y) S.top) := by
        unfold closeBracket
        show (match S1.below with | [] => _ | l :: r => _) = _
        rw [hb]
        dsimp only
        have ef : (S1.adv j h fs' { S1.top with rows := S1.top.rows ++ rs, parts := ps, pieces := js, gbp := gb }).forms = S.forms ++ fs' := by show S1.forms ++ fs' = _; rw [hf]
        have et : (S1.adv j h fs' { S1.top with rows := S1.top.rows ++ rs, parts := ps, pieces := js, gbp := gb }).top.group = k := by show S1.top.group = k; rw [ht]; rfl
        rw [ef, et]
        show endPiece p (groupF k (endLevelL h (S.forms ++ fs') _).1 (endLevelL h (S.forms ++ fs') _).2.2).2 _ = _
        show endPiece p (groupF k (endLevelL h (S.forms ++ fs') { S1.top with rows := S1.top.rows ++ rs, parts := ps, pieces := js, gbp := gb }).1 (endLevelL h (S.forms ++ fs') { S1.top with rows := S1.top.rows ++ rs, parts := ps, pieces := js, gbp := gb }).2.2).2 ⟨j + 1, h, (groupF k (endLevelL h (S.forms ++ fs') { S1.top with rows := S1.top.rows ++ rs, parts := ps, pieces := js, gbp := gb }).1 (endLevelL h (S.forms ++ fs') { S1.top with rows := S1.top.rows ++ rs, parts := ps, pieces := js, gbp := gb }).2.2).1, S.top, S.below⟩ = _
        rw [e1, w1, e2, w2]
        have e : S.forms ++ (fs' ++ x ++ y) = S.forms ++ fs' ++ x ++ y := by simp
        unfold Rd.adv
        rw [e]
      rw [ec]
      exact hr
  · rw [if_neg (fun z => c ((shut_iff hp j).mp z))]
    have hj : p.length ≤ j := by
      rcases q3 with q | q
      · exact q
      · exact absurd q c
    refine hs _ (q6 _ ?_)
    exact res_end (S := S1.adv j h fs' { S1.top with rows := S1.top.rows ++ rs, parts := ps, pieces := js, gbp := gb }) hj (.inl (by show S1.below ≠ []; rw [hb]; simp))
end PF
/-! Part A6: the simulation, and what the reader comes to. -/
namespace PF
open WrPatt
/-- what the specification reads from an opening bracket on -/
theorem atom_open {p : List Nat} (hp : Ok8 p) (f : Nat) (no : Bool) (g : Nat) {i : Nat} (c : now p i = 40) : atomIn (f + 1) no g (at_ p i) = if now p (i + 1) = 58 then (match patternIn f no g (at_ p (i + 2)) with
      | .error e => .error e
      | .ok (a, h, x) => if x.is ')' = true then .ok (patIn none g a, h, x.next) else bad x)
    else if no = true ∨ 32 ≤ g then .error (4, i) else match patternIn f no (g + 1) (at_ p (i + 1)) with
      | .error e => .error e
      | .ok (a, h, x) => if x.is ')' = true then .ok (patIn (some (g + 1)) g a, h, x.next) else bad x := by
  have hi : i < p.length := lt_of_now (by omega)
  have hcol : (at_ p (i + 1)).is ':' = decide (now p (i + 1) = 58) := is_dec hp _ ':' (by decide)
  unfold atomIn
  rw [at_cons hi, c, at_next, at_next, hcol]
  show (let plain := decide (now p (i + 1) = 58)
    if plain = false ∧ (no = true ∨ GROUPS ≤ g) then .error (4, (at_ p i).p) else
        match patternIn f no (if plain = true then g else g + 1) (if plain = true then at_ p (i + 1 + 1) else at_ p (i + 1)) with
        | .error e => .error e
        | .ok (a, h, x) => if x.is ')' = true then .ok (if plain = true then a else .group (g + 1) a, h, x.next) else bad x : Read) = _
  by_cases c2 : now p (i + 1) = 58
  · rw [decide_eq_true c2, if_pos c2]
    dsimp only
    rw [if_neg (fun z => Bool.noConfusion z.1), if_pos rfl, if_pos rfl]
    rfl
  · rw [decide_eq_false c2, if_neg c2]
    dsimp only
    by_cases c3 : no = true ∨ 32 ≤ g
    · rw [if_pos c3, if_pos ⟨rfl, c3⟩]
      rfl
    · rw [if_neg c3, if_neg (fun z => c3 z.2), if_neg (fun z => Bool.noConfusion z), if_neg (fun z => Bool.noConfusion z)]
      rfl
theorem pAtom {p : List Nat} (hp : Ok8 p) {f : Nat} (ih : PPat p f) : PAtom p (f + 1) := by
  intro S hf hi ht hg
  by_cases c : now p S.place = 40
  · -- a bracket
    have hstep : step p S = openBracket p S := by unfold step; rw [if_pos c]
    rw [atom_open hp f S.top.bars S.groups c]
    by_cases c2 : now p (S.place + 1) = 58
    · have hl : S.place + 1 < p.length := lt_of_now (by omega)
      rw [if_pos c2]
      have ho : step p S = .ok { S with place := S.place + 2, top := Lv.new S.top.bars S.groups none, below := S.top :: S.below } := by rw [hstep]; unfold openBracket; rw [if_pos c2]
      have q := ih { S with place := S.place + 2, top := Lv.new S.top.bars S.groups none, below := S.top :: S.below } (by show 8 * (p.length - (S.place + 2)) + 5 ≤ f; omega) (by show S.place + 2 ≤ p.length; omega) rfl rfl rfl rfl hg
      have q' : match patternIn f S.top.bars S.groups (at_ p (S.place + 2)) with
        | .error e => Res p { S with place := S.place + 2, top := Lv.new S.top.bars S.groups none, below := S.top :: S.below } (.error e)
        | .ok (a, h, x) => _ := q
      cases ep : patternIn f S.top.bars S.groups (at_ p (S.place + 2)) with
      | error e =>
        rw [ep] at q'
        exact .go hi ho q'
      | ok z =>
        obtain ⟨a, h, x⟩ := z
        rw [ep] at q'
        obtain ⟨j, fs', rs, ps, js, gb, q1, q2, q3, q4, q5, q6, q7⟩ := q'
        exact close_sim (S := S) (S1 := { S with place := S.place + 2, top := Lv.new S.top.bars S.groups none, below := S.top :: S.below }) (f := 0) (h' := 0) (k := none) (g' := S.groups) hp rfl rfl rfl rfl (by show S.place < S.place + 2; omega) (fun n z => by cases z) rfl (fun r hr => .go hi ho hr) ⟨j, fs', rs, ps, js, gb, q1, q2, q3, q4, q5, q6, q7⟩
    · rw [if_neg c2]
      by_cases c3 : S.top.bars = true ∨ S.groups = 32
      · rw [if_pos (by rcases c3 with c3 | c3; exact .inl c3; exact .inr (by rw [c3]; decide) : S.top.bars = true ∨ 32 ≤ S.groups)]
        exact .err hi (by rw [hstep]; unfold openBracket; rw [if_neg c2, if_pos c3])
      · have c4 : ¬ (S.top.bars = true ∨ 32 ≤ S.groups) := fun z => by
          rcases z with w | w
          · exact c3 (.inl w)
          · exact c3 (.inr (Nat.le_antisymm hg w))
        rw [if_neg c4]
        have ho : step p S = .ok { S with place := S.place + 1, groups := S.groups + 1, top := Lv.new S.top.bars (S.groups + 1) (some (S.groups + 1)), below := S.top :: S.below } := by rw [hstep]; unfold openBracket; rw [if_neg c2, if_neg c3]
        have hg2 : S.groups + 1 ≤ 32 := by
          have : S.groups ≠ 32 := fun z => c3 (.inr z)
          omega
        have q := ih { S with place := S.place + 1, groups := S.groups + 1, top := Lv.new S.top.bars (S.groups + 1) (some (S.groups + 1)), below := S.top :: S.below } (by show 8 * (p.length - (S.place + 1)) + 5 ≤ f; omega) (by show S.place + 1 ≤ p.length; omega) rfl rfl rfl rfl hg2
        have q' : match patternIn f S.top.bars (S.groups + 1) (at_ p (S.place + 1)) with
          | .error e => Res p { S with place := S.place + 1, groups := S.groups + 1, top := Lv.new S.top.bars (S.groups + 1) (some (S.groups + 1)), below := S.top :: S.below } (.error e)
          | .ok (a, h, x) => _ := q
        cases ep : patternIn f S.top.bars (S.groups + 1) (at_ p (S.place + 1)) with
        | error e =>
          rw [ep] at q'
          exact .go hi ho q'
        | ok z =>
          obtain ⟨a, h, x⟩ := z
          rw [ep] at q'
          obtain ⟨j, fs', rs, ps, js, gb, q1, q2, q3, q4, q5, q6, q7⟩ := q'
          exact close_sim (S := S) (S1 := { S with place := S.place + 1, groups := S.groups + 1, top := Lv.new S.top.bars (S.groups + 1) (some (S.groups + 1)), below := S.top :: S.below }) (f := 0) (h' := 0) (k := some (S.groups + 1)) (g' := S.groups + 1) hp rfl rfl rfl rfl (by show S.place < S.place + 1; omega) (fun n z => by cases z; rfl) rfl (fun r hr => .go hi ho hr) ⟨j, fs', rs, ps, js, gb, q1, q2, q3, q4, q5, q6, q7⟩
  · -- another atom
    have hstep : step p S = atomStep p S := by unfold step; rw [if_neg c, if_pos ht]
    have q := atom_is hp f S.top.bars S.groups S.place c
    cases er : readAtom p S.place with
    | error e =>
      rw [er] at q
      have q' : atomIn (f + 1) S.top.bars S.groups (at_ p S.place) = .error e := q
      rw [q']
      exact .err hi (by rw [hstep]; unfold atomStep; rw [er])
    | ok y =>
      obtain ⟨fm, j⟩ := y
      rw [er] at q
      obtain ⟨q1, q2, a, q3, q4⟩ := q
      rw [q3]
      have el : (S.forms ++ [fm]).length = S.forms.length + 1 := by rw [List.length_append]; rfl
      refine ⟨j, [fm], rfl, q1, q2, hg, ?_, fun r hr => ?_⟩
      · rw [el]
        exact q4 _ _ _ (by rw [List.getElem?_append_right (Nat.le_refl _), Nat.sub_self]; rfl)
      · refine res_match hi hstep ?_
        have e : atomStep p S = endPiece p ((S.forms ++ [fm]).length - 1) (S.adv j S.groups [fm] S.top) := by
          unfold atomStep
          rw [er, el]
          rfl
        rw [e]
        exact hr
/-- behind an atom: its counts, a ~ ahead -/
theorem endPiece_sim {p : List Nat} (hp : Ok8 p) {S : Rd} {n0 g : Nat} {a : Pat} (hi : S.place ≤ p.length) (l : Lay S.forms n0 S.forms.length g S.groups a) :
    match countsIn ((at_ p S.place).b.length + 1) a (at_ p S.place) with
    | .error e => endPiece p (S.forms.length - 1) S = .error e
    | .ok (b, x) => ∃ j fs', x = at_ p j ∧ S.place ≤ j ∧ j ≤ p.length ∧ Lay (S.forms ++ fs') n0 (S.forms ++ fs').length g S.groups (if S.top.turned = true then .not_ b else b) ∧
      endPiece p (S.forms.length - 1) S = .ok (S.adv j S.groups fs' { S.top with turned := false, pieces := S.top.pieces ++ [(S.forms ++ fs').length - 1] }) := by
  have q := counts_is hp ((at_ p S.place).b.length + 1) (p.length + 1) S.forms S.place n0 g S.groups a (by rw [at_b_len]; omega) (by omega) hi l
  unfold endPiece
  cases ec : countsIn ((at_ p S.place).b.length + 1) a (at_ p S.place) with
  | error e =>
    rw [ec] at q
    have q' : countLoop p (p.length + 1) S.forms (S.forms.length - 1) S.place = .error e := q
    rw [q']
  | ok z =>
    obtain ⟨b, x⟩ := z
    rw [ec] at q
    obtain ⟨j, fs', q1, q2, q3, q4, q5⟩ := q
    rw [q4]
    cases ht : S.top.turned with
    | false =>
      exact ⟨j, fs', q1, q2, q3, q5, rfl⟩
    | true =>
      have el : (S.forms ++ fs' ++ [(⟨.turned, [(S.forms ++ fs').length - 1], .non⟩ : Fm)]).length = (S.forms ++ fs').length + 1 := by rw [List.length_append]; rfl
      have ea : S.forms ++ (fs' ++ [(⟨.turned, [(S.forms ++ fs').length - 1], .non⟩ : Fm)]) = S.forms ++ fs' ++ [⟨.turned, [(S.forms ++ fs').length - 1], .non⟩] := by simp
      refine ⟨j, fs' ++ [⟨.turned, [(S.forms ++ fs').length - 1], .non⟩], q1, q2, q3, ?_, ?_⟩
      · rw [ea, el]
        exact .turned q5.mono (by rw [List.getElem?_append_right (Nat.le_refl _), Nat.sub_self]; rfl)
      · unfold Rd.adv
        rw [ea, el]
        rfl
theorem not_stop {p : List Nat} {i : Nat} (h : ¬ Stop p i) : i < p.length ∧ now p i ≠ 124 ∧ now p i ≠ 38 ∧ now p i ≠ 41 := by
  unfold Stop at h
  omega
theorem pPiece {p : List Nat} (hp : Ok8 p) {f : Nat} (ih : PAtom p f) : PPiece p (f + 1) := by
  intro S hf hn ht hg
  obtain ⟨hi, n1, n2, n3⟩ := not_stop hn
  unfold pieceIn
  dsimp only
  have ht' := tilde_iff hp S.place
  -- from a state whose atom is to be read: the atom, its counts
  have go : ∀ (S1 : Rd), 8 * (p.length - S1.place) + 1 ≤ f → S1.place < p.length → (S1.top.turned = true ∨ notAtoms.contains (now p S1.place) = false) → S1.groups = S.groups → S1.forms = S.forms → S.place ≤ S1.place → S1.below = S.below →
      { S1.top with turned := false } = S.top → (∀ r, Res p S1 r → Res p S r) →
      match (match atomIn f S1.top.bars S.groups (at_ p S1.place) with
        | .error e => .error e
        | .ok (a, h, x) => match countsIn (x.b.length + 1) a x with
          | .error e => .error e
          | .ok (b, y) => .ok (if S1.top.turned = true then .not_ b else b, h, y) : Read) with
      | .error e => Res p S (.error e)
      | .ok (a, h, x) => ∃ j fs', x = at_ p j ∧ S.place < j ∧ j ≤ p.length ∧ h ≤ 32 ∧ Lay (S.forms ++ fs') S.forms.length (S.forms ++ fs').length S.groups h a ∧
        ∀ r, Res p (S.adv j h fs' { S.top with pieces := S.top.pieces ++ [(S.forms ++ fs').length - 1] }) r → Res p S r := by
    intro S1 k1 k2 k3 k4 k5 k6 k7 k8 k9
    have q := ih S1 k1 k2 k3 (by rw [k4]; exact hg)
    rw [k4, k5] at q
    cases ea : atomIn f S1.top.bars S.groups (at_ p S1.place) with
    | error e =>
      rw [ea] at q
      exact k9 _ q
    | ok z =>
      obtain ⟨a, h, x⟩ := z
      rw [ea] at q
      obtain ⟨j, fs', rfl, q1, q2, q3, q4, q5⟩ := q
      dsimp only
      have s := endPiece_sim hp (S := S1.adv j h fs' S1.top) (n0 := S.forms.length) (g := S.groups) (a := a) q2 (by show Lay (S1.forms ++ fs') _ (S1.forms ++ fs').length _ h a; rw [k5]; exact q4)
      have s' : match countsIn ((at_ p j).b.length + 1) a (at_ p j) with
        | .error e => endPiece p ((S1.forms ++ fs').length - 1) (S1.adv j h fs' S1.top) = .error e
        | .ok (b, x) => ∃ j' fs'', x = at_ p j' ∧ j ≤ j' ∧ j' ≤ p.length ∧ Lay ((S1.forms ++ fs') ++ fs'') S.forms.length ((S1.forms ++ fs') ++ fs'').length S.groups h (if S1.top.turned = true then .not_ b else b) ∧
          endPiece p ((S1.forms ++ fs').length - 1) (S1.adv j h fs' S1.top) = .ok ((S1.adv j h fs' S1.top).adv j' h fs'' { S1.top with turned := false, pieces := S1.top.pieces ++ [((S1.forms ++ fs') ++ fs'').length - 1] }) := s
      rw [k5] at s'
      cases ec : countsIn ((at_ p j).b.length + 1) a (at_ p j) with
      | error e =>
        rw [ec] at s'
        refine k9 _ (q5 _ ?_)
        rw [s']
        rfl
      | ok z =>
        obtain ⟨b, y⟩ := z
        rw [ec] at s'
        obtain ⟨j', fs'', rfl, w1, w2, w3, w4⟩ := s'
        refine ⟨j', fs' ++ fs'', rfl, by omega, w2, q3, ?_, fun r hr => k9 _ (q5 _ ?_)⟩
        · have e : S.forms ++ (fs' ++ fs'') = S.forms ++ fs' ++ fs'' := by simp
          rw [e]; exact w3
        · rw [w4, Rd.adv_adv]
          have e : S.forms ++ (fs' ++ fs'') = S.forms ++ fs' ++ fs'' := by simp
          show Res p _ r
          have es : S1.adv j' h (fs' ++ fs'') { S1.top with turned := false, pieces := S1.top.pieces ++ [((S.forms ++ fs') ++ fs'').length - 1] } = S.adv j' h (fs' ++ fs'') { S.top with pieces := S.top.pieces ++ [(S.forms ++ (fs' ++ fs'')).length - 1] } := by
            unfold Rd.adv
            rw [k5, k7, e]
            congr 1
            rw [← k8]
          rw [es]
          exact hr
  by_cases c : now p S.place = 126
  · have hc := ht'.mpr c
    rw [hc]
    rw [if_pos rfl, at_next]
    have hb : (S.top.bars || true) = ({ S.top with turned := true } : Lv).bars := by
      unfold Lv.bars; simp
    rw [hb]
    have hstep : step p S = .ok { S with place := S.place + 1, top := { S.top with turned := true } } := by
      unfold step
      rw [if_neg (by omega), if_neg (by rw [ht, c]; decide), if_pos c]
    rcases Nat.lt_or_ge (S.place + 1) p.length with q | q
    · have := go { S with place := S.place + 1, top := { S.top with turned := true } } (by show 8 * (p.length - (S.place + 1)) + 1 ≤ f; omega) q (.inl rfl) rfl rfl (by show S.place ≤ S.place + 1; omega) rfl (by show ({ S.top with turned := false } : Lv) = S.top; rw [← ht]) (fun r hr => .go hi hstep hr)
      exact this
    · -- a ~ at the end
      obtain ⟨f', rfl⟩ : ∃ f', f = f' + 1 := ⟨f - 1, by omega⟩
      unfold atomIn
      rw [at_nil q]
      refine .go hi hstep ?_
      exact res_end (S := { S with place := S.place + 1, top := { S.top with turned := true } }) q (.inr rfl)
  · have hc : (at_ p S.place).is '~' = S.top.turned := by
      rw [ht]
      cases e : (at_ p S.place).is '~'
      · rfl
      · exact absurd (ht'.mp e) c
    have hb : (S.top.bars || S.top.turned) = S.top.bars := by rw [ht, Bool.or_false]
    have hx : (if S.top.turned = true then (at_ p S.place).next else at_ p S.place) = at_ p S.place := if_neg (by rw [ht]; exact Bool.noConfusion)
    rw [hc, hx, hb]
    have hna : notAtoms.contains (now p S.place) = false := by
      simp [notAtoms, c, n1, n2, n3]
    have := go S (by omega) hi (.inr hna) rfl rfl (Nat.le_refl _) rfl (by rw [← ht]) (fun r hr => hr)
    exact this
end PF
/-! Part A7: rows of pieces, parts, whole patterns; what the reader comes to. -/
namespace PF
open WrPatt
theorem pPart {p : List Nat} (hp : Ok8 p) {f : Nat} (ih1 : PPiece p f) (ih2 : PPart p f) : PPart p (f + 1) := by
  intro S hf hi ht hg
  unfold partIn
  by_cases c : Stop p S.place
  · rw [if_pos ((stop_iff hp _).mpr c)]
    refine ⟨S.place, [], [], [], rfl, Nat.le_refl _, hi, c, hg, rfl, fun h => absurd c h, by rw [List.append_nil]; exact .nil, fun r hr => ?_⟩
    have e : S.adv S.place S.groups [] { S.top with pieces := S.top.pieces ++ [] } = S := by
      unfold Rd.adv; simp
    rw [e] at hr
    exact hr
  · rw [if_neg (fun z => c ((stop_iff hp _).mp z))]
    have hlt := (not_stop c).1
    have q := ih1 S (by omega) c ht hg
    cases ea : pieceIn f S.top.bars S.groups (at_ p S.place) with
    | error e => rw [ea] at q; exact q
    | ok z =>
      obtain ⟨a, h, x⟩ := z
      rw [ea] at q
      obtain ⟨j, fs', rfl, q1, q2, q3, q4, q5⟩ := q
      dsimp only
      by_cases c2 : Stop p j
      · rw [if_pos ((stop_iff hp _).mpr c2)]
        exact ⟨j, fs', [(S.forms ++ fs').length - 1], [a], rfl, Nat.le_of_lt q1, q2, c2, q3, rfl, fun _ => by simp, .cons q4 .nil, q5⟩
      · rw [if_neg (fun z => c2 ((stop_iff hp _).mp z))]
        have w := ih2 (S.adv j h fs' { S.top with pieces := S.top.pieces ++ [(S.forms ++ fs').length - 1] }) (by show 8 * (p.length - j) + 3 ≤ f; omega) q2 ht q3
        have w' : match partIn f S.top.bars h (at_ p j) with
          | .error e => Res p (S.adv j h fs' { S.top with pieces := S.top.pieces ++ [(S.forms ++ fs').length - 1] }) (.error e)
          | .ok (a, h', x) => _ := w
        cases eb : partIn f S.top.bars h (at_ p j) with
        | error e => rw [eb] at w'; exact q5 _ w'
        | ok z =>
          obtain ⟨b, k, y⟩ := z
          rw [eb] at w'
          obtain ⟨j2, fs2, js, as, rfl, w1, w2, w3, w4, rfl, w6, w7, w8⟩ := w'
          have hne : as ≠ [] := w6 c2
          have e : S.forms ++ (fs' ++ fs2) = S.forms ++ fs' ++ fs2 := by simp
          refine ⟨j2, fs' ++ fs2, ((S.forms ++ fs').length - 1) :: js, a :: as, rfl, ?_, w2, w3, w4, ?_, fun _ => by simp, ?_, fun r hr => q5 r (w8 r ?_)⟩
          · have : j ≤ j2 := w1
            omega
          · cases as with
            | nil => exact absurd rfl hne
            | cons b r => rfl
          · rw [e]
            exact .cons q4.mono w7
          · have es : (S.adv j h fs' { S.top with pieces := S.top.pieces ++ [(S.forms ++ fs').length - 1] }).adv j2 k fs2 { S.top with pieces := (S.top.pieces ++ [(S.forms ++ fs').length - 1]) ++ js } = S.adv j2 k (fs' ++ fs2) { S.top with pieces := S.top.pieces ++ (((S.forms ++ fs').length - 1) :: js) } := by
              rw [Rd.adv_adv]
              simp
            show Res p ((S.adv j h fs' { S.top with pieces := S.top.pieces ++ [(S.forms ++ fs').length - 1] }).adv j2 k fs2 { S.top with pieces := (S.top.pieces ++ [(S.forms ++ fs').length - 1]) ++ js }) r
            rw [es]
            exact hr
/-- a part's end -/
theorem endPart_lay {F : List Fm} {n0 g h gg : Nat} {L : Lv} {as : List Pat} (l : LayL F n0 F.length g h L.pieces as) : ∃ x, (endPartL gg F L).1 = F ++ x ∧ Lay (F ++ x) n0 (F ++ x).length g h (seqOf as) ∧ (endPartL gg F L).2 = { L with parts := L.parts ++ [(F ++ x).length - 1], pieces := [], gbp := gg } := by
  obtain ⟨x1, e1, k1, w1⟩ := keepJoined_lay (kd := .row) (op := seqOf) l (fun _ => rfl) fun x l n e => .row l n e
  refine ⟨x1, e1, k1, ?_⟩
  show ({ L with parts := L.parts ++ [(keepJoined .row F L.pieces).2], pieces := [], gbp := gg } : Lv) = _
  rw [w1]
theorem endRow_lay {F : List Fm} {n0 g h gg : Nat} {L : Lv} {a : Pat} (l : LayR F n0 g h L.parts L.pieces a) : ∃ x, (endRowL gg F L).1 = F ++ x ∧ Lay (F ++ x) n0 (F ++ x).length g h a ∧ (endRowL gg F L).2 = { L with rows := L.rows ++ [(F ++ x).length - 1], parts := [], pieces := [], gbp := gg } := by
  obtain ⟨m, k, pas, as, l1, l2, rfl⟩ := l
  obtain ⟨x1, e1, k1, w1⟩ := endPart_lay (gg := gg) l2
  have p2 : LayL (F ++ x1) n0 (F ++ x1).length g h (L.parts ++ [(F ++ x1).length - 1]) (pas ++ [seqOf as]) := l1.mono.snoc k1
  obtain ⟨x2, e2, k2, w2⟩ := keepJoined_lay (kd := .both) (op := bothOf) p2 (fun _ => rfl) fun x l n e => .both l (Nat.lt_of_le_of_ne (by rw [List.length_append]; exact Nat.le_add_left _ _) (Ne.symm n)) e
  have e : F ++ (x1 ++ x2) = F ++ x1 ++ x2 := by simp
  refine ⟨x1 ++ x2, ?_, ?_, ?_⟩
  · show (keepJoined .both (endPartL gg F L).1 (endPartL gg F L).2.parts).1 = _
    rw [e1, w1, e]
    exact e2
  · rw [e]; exact k2
  · show ({ (endPartL gg F L).2 with rows := (endPartL gg F L).2.rows ++ [(keepJoined .both (endPartL gg F L).1 (endPartL gg F L).2.parts).2], parts := [] } : Lv) = _
    rw [e1, w1]
    dsimp only
    rw [w2, e]
theorem pRow {p : List Nat} (hp : Ok8 p) {f : Nat} (ih1 : PPart p f) (ih2 : PRow p f) : PRow p (f + 1) := by
  intro S hf hi ht hpc hgb hg
  unfold rowIn
  have q := ih1 S (by omega) hi ht hg
  cases ea : partIn f S.top.bars S.groups (at_ p S.place) with
  | error e => rw [ea] at q; exact q
  | ok z =>
    obtain ⟨a, h, x⟩ := z
    rw [ea] at q
    obtain ⟨j, fs', js, as, rfl, q1, q2, q3, q4, rfl, _, q7, q8⟩ := q
    dsimp only
    rw [hpc, List.nil_append] at q8
    by_cases c : now p j = 38
    · rw [if_pos ((amp_iff hp j).mpr c)]
      have hj : j < p.length := lt_of_now (by omega)
      have hstep : step p (S.adv j h fs' { S.top with pieces := js }) = passBoth (S.adv j h fs' { S.top with pieces := js }) := by
        unfold step
        show (if now p j = 40 then _ else if S.top.turned = true ∨ notAtoms.contains (now p j) = false then _ else if now p j = 126 then _ else if now p j = 124 then _ else if now p j = 38 then _ else _) = _
        rw [if_neg (by omega), if_neg (by rw [ht, c]; decide), if_neg (by omega), if_neg (by omega), if_pos c]
      by_cases c2 : S.groups < h
      · rw [if_pos c2]
        refine q8 _ (.err hj ?_)
        rw [hstep]
        unfold passBoth
        exact if_pos (show S.top.gbp < h by rw [hgb]; exact c2)
      · rw [if_neg c2]
        obtain ⟨x, e1, k1, w1⟩ := endPart_lay (gg := h) (L := { S.top with pieces := js }) q7
        have hs2 : step p (S.adv j h fs' { S.top with pieces := js }) = .ok (S.adv (j + 1) h (fs' ++ x) { S.top with parts := S.top.parts ++ [(S.forms ++ (fs' ++ x)).length - 1], pieces := [], gbp := h }) := by
          rw [hstep]
          unfold passBoth
          refine (if_neg (show ¬ S.top.gbp < h by rw [hgb]; exact c2)).trans ?_
          show Except.ok (⟨j + 1, h, (endPartL h (S.forms ++ fs') { S.top with pieces := js }).1, (endPartL h (S.forms ++ fs') { S.top with pieces := js }).2, S.below⟩ : Rd) = _
          rw [e1, w1]
          unfold Rd.adv
          simp
        have w := ih2 (S.adv (j + 1) h (fs' ++ x) { S.top with parts := S.top.parts ++ [(S.forms ++ (fs' ++ x)).length - 1], pieces := [], gbp := h }) (by show 8 * (p.length - (j + 1)) + 4 ≤ f; omega) (by show j + 1 ≤ p.length; omega) ht rfl rfl q4
        have hb : (S.adv (j + 1) h (fs' ++ x) { S.top with parts := S.top.parts ++ [(S.forms ++ (fs' ++ x)).length - 1], pieces := [], gbp := h }).top.bars = true := by
          unfold Lv.bars
          show (S.top.shut || (S.top.turned || decide (0 < (S.top.parts ++ [(S.forms ++ (fs' ++ x)).length - 1]).length))) = true
          rw [decide_eq_true (by rw [List.length_append, List.length_singleton]; omega)]
          simp
        rw [hb] at w
        have w' : match rowIn f true h (at_ p (j + 1)) with
          | .error e => Res p (S.adv (j + 1) h (fs' ++ x) { S.top with parts := S.top.parts ++ [(S.forms ++ (fs' ++ x)).length - 1], pieces := [], gbp := h }) (.error e)
          | .ok (a, h', x) => _ := w
        rw [at_next]
        cases eb : rowIn f true h (at_ p (j + 1)) with
        | error e => rw [eb] at w'; exact q8 _ (.go hj hs2 w')
        | ok z =>
          obtain ⟨b, k, y⟩ := z
          rw [eb] at w'
          obtain ⟨j2, fs2, ps, js2, gb, rfl, w1', w2, w3, w4, ⟨m, kk, pas, as2, l1, l2, rfl⟩, w6⟩ := w'
          have e : S.forms ++ (fs' ++ x ++ fs2) = S.forms ++ (fs' ++ x) ++ fs2 := by simp
          have e' : S.forms ++ (fs' ++ x) = S.forms ++ fs' ++ x := by simp
          refine ⟨j2, fs' ++ x ++ fs2, ((S.forms ++ (fs' ++ x)).length - 1) :: ps, js2, gb, rfl, ?_, w2, w3, w4, ⟨m, kk, seqOf as :: pas, as2, ?_, ?_, ?_⟩, fun r hr => q8 r (.go hj hs2 (w6 r ?_))⟩
          · have : j + 1 ≤ j2 := w1'
            omega
          · rw [e]
            refine .cons (Lay.mono ?_) l1
            rw [e']; exact k1
          · rw [e]; exact l2
          · cases pas with
            | nil => rfl
            | cons b r => rfl
          · have es : (S.adv (j + 1) h (fs' ++ x) { S.top with parts := S.top.parts ++ [(S.forms ++ (fs' ++ x)).length - 1], pieces := [], gbp := h }).adv j2 k fs2 { S.top with parts := (S.top.parts ++ [(S.forms ++ (fs' ++ x)).length - 1]) ++ ps, pieces := js2, gbp := gb } = S.adv j2 k (fs' ++ x ++ fs2) { S.top with parts := S.top.parts ++ (((S.forms ++ (fs' ++ x)).length - 1) :: ps), pieces := js2, gbp := gb } := by
              rw [Rd.adv_adv]
              simp
            show Res p ((S.adv (j + 1) h (fs' ++ x) { S.top with parts := S.top.parts ++ [(S.forms ++ (fs' ++ x)).length - 1], pieces := [], gbp := h }).adv j2 k fs2 { S.top with parts := (S.top.parts ++ [(S.forms ++ (fs' ++ x)).length - 1]) ++ ps, pieces := js2, gbp := gb }) r
            rw [es]
            exact hr
    · rw [if_neg (fun z => c ((amp_iff hp j).mp z))]
      refine ⟨j, fs', [], js, S.top.gbp, rfl, q1, q2, ?_, q4, ⟨_, _, [], as, .nil, q7, rfl⟩, fun r hr => q8 r ?_⟩
      · rcases q3 with z | z | z | z
        · exact .inl z
        · exact .inr (.inl z)
        · exact absurd z c
        · exact .inr (.inr z)
      · have e : S.adv j h fs' { S.top with parts := S.top.parts ++ [], pieces := js, gbp := S.top.gbp } = S.adv j h fs' { S.top with pieces := js } := by simp
        rw [e] at hr
        exact hr
theorem pPat {p : List Nat} (hp : Ok8 p) {f : Nat} (ih1 : PRow p f) (ih2 : PPat p f) : PPat p (f + 1) := by
  intro S hf hi ht hpc hpt hgb hg
  unfold patternIn
  have q := ih1 S (by omega) hi ht hpc hgb hg
  rw [bars_open ht hpt] at q
  cases ea : rowIn f S.top.shut S.groups (at_ p S.place) with
  | error e => rw [ea] at q; exact q
  | ok z =>
    obtain ⟨a, h, x⟩ := z
    rw [ea] at q
    obtain ⟨j, fs', ps, js, gb, rfl, q1, q2, q3, q4, q5, q6⟩ := q
    dsimp only
    rw [hpt, List.nil_append] at q6
    by_cases c : now p j = 124
    · rw [if_pos ((bar_iff hp j).mpr c)]
      have hj : j < p.length := lt_of_now (by omega)
      obtain ⟨x, e1, k1, w1⟩ := endRow_lay (gg := h) (L := { S.top with parts := ps, pieces := js, gbp := gb }) q5
      have hs2 : step p (S.adv j h fs' { S.top with parts := ps, pieces := js, gbp := gb }) = .ok (S.adv (j + 1) h (fs' ++ x) { S.top with rows := S.top.rows ++ [(S.forms ++ (fs' ++ x)).length - 1], parts := [], pieces := [], gbp := h }) := by
        unfold step
        show (if now p j = 40 then _ else if S.top.turned = true ∨ notAtoms.contains (now p j) = false then _ else if now p j = 126 then _ else if now p j = 124 then _ else _) = _
        rw [if_neg (by omega), if_neg (by rw [ht, c]; decide), if_neg (by omega), if_pos c]
        show Except.ok (⟨j + 1, h, (endRowL h (S.forms ++ fs') { S.top with parts := ps, pieces := js, gbp := gb }).1, (endRowL h (S.forms ++ fs') { S.top with parts := ps, pieces := js, gbp := gb }).2, S.below⟩ : Rd) = _
        rw [e1, w1]
        unfold Rd.adv
        simp
      have w := ih2 (S.adv (j + 1) h (fs' ++ x) { S.top with rows := S.top.rows ++ [(S.forms ++ (fs' ++ x)).length - 1], parts := [], pieces := [], gbp := h }) (by show 8 * (p.length - (j + 1)) + 5 ≤ f; omega) (by show j + 1 ≤ p.length; omega) ht rfl rfl rfl q4
      have w' : match patternIn f S.top.shut h (at_ p (j + 1)) with
        | .error e => Res p (S.adv (j + 1) h (fs' ++ x) { S.top with rows := S.top.rows ++ [(S.forms ++ (fs' ++ x)).length - 1], parts := [], pieces := [], gbp := h }) (.error e)
        | .ok (a, h', x) => _ := w
      rw [at_next]
      cases eb : patternIn f S.top.shut h (at_ p (j + 1)) with
      | error e => rw [eb] at w'; exact q6 _ (.go hj hs2 w')
      | ok z =>
        obtain ⟨b, k, y⟩ := z
        rw [eb] at w'
        obtain ⟨j2, fs2, rs, ps2, js2, gb2, rfl, w1', w2, w3, w4, ⟨m, kk, ras, b2, l1, ⟨m2, k2, pas, as2, l2, l3, rfl⟩, rfl⟩, w6⟩ := w'
        have e : S.forms ++ (fs' ++ x ++ fs2) = S.forms ++ (fs' ++ x) ++ fs2 := by simp
        have e' : S.forms ++ (fs' ++ x) = S.forms ++ fs' ++ x := by simp
        refine ⟨j2, fs' ++ x ++ fs2, ((S.forms ++ (fs' ++ x)).length - 1) :: rs, ps2, js2, gb2, rfl, ?_, w2, w3, w4, ⟨m, kk, a :: ras, _, ?_, ⟨m2, k2, pas, as2, ?_, ?_, rfl⟩, ?_⟩, fun r hr => q6 r (.go hj hs2 (w6 r ?_))⟩
        · have : j + 1 ≤ j2 := w1'
          omega
        · rw [e]
          refine .cons (Lay.mono ?_) l1
          rw [e']; exact k1
        · rw [e]; exact l2
        · rw [e]; exact l3
        · cases ras with
          | nil => rfl
          | cons b r => rfl
        · have es : (S.adv (j + 1) h (fs' ++ x) { S.top with rows := S.top.rows ++ [(S.forms ++ (fs' ++ x)).length - 1], parts := [], pieces := [], gbp := h }).adv j2 k fs2 { S.top with rows := (S.top.rows ++ [(S.forms ++ (fs' ++ x)).length - 1]) ++ rs, parts := ps2, pieces := js2, gbp := gb2 } = S.adv j2 k (fs' ++ x ++ fs2) { S.top with rows := S.top.rows ++ (((S.forms ++ (fs' ++ x)).length - 1) :: rs), parts := ps2, pieces := js2, gbp := gb2 } := by
            rw [Rd.adv_adv]
            simp
          show Res p ((S.adv (j + 1) h (fs' ++ x) { S.top with rows := S.top.rows ++ [(S.forms ++ (fs' ++ x)).length - 1], parts := [], pieces := [], gbp := h }).adv j2 k fs2 { S.top with rows := (S.top.rows ++ [(S.forms ++ (fs' ++ x)).length - 1]) ++ rs, parts := ps2, pieces := js2, gbp := gb2 }) r
          rw [es]
          exact hr
    · rw [if_neg (fun z => c ((bar_iff hp j).mp z))]
      refine ⟨j, fs', [], ps, js, gb, rfl, q1, q2, ?_, q4, ⟨_, _, [], a, .nil, q5, rfl⟩, fun r hr => q6 r ?_⟩
      · rcases q3 with z | z | z
        · exact .inl z
        · exact absurd z c
        · exact .inr z
      · have e : S.adv j h fs' { S.top with rows := S.top.rows ++ [], parts := ps, pieces := js, gbp := gb } = S.adv j h fs' { S.top with parts := ps, pieces := js, gbp := gb } := by simp
        rw [e] at hr
        exact hr
theorem all_sim {p : List Nat} (hp : Ok8 p) : ∀ f, PAtom p f ∧ PPiece p f ∧ PPart p f ∧ PRow p f ∧ PPat p f
  | 0 => ⟨fun S h => by omega, fun S h => by omega, fun S h => by omega, fun S h => by omega, fun S h => by omega⟩
  | f + 1 => by
    obtain ⟨a, b, c, d, e⟩ := all_sim hp f
    exact ⟨pAtom hp e, pPiece hp a, pPart hp b c, pRow hp c d, pPat hp d e⟩
/-- **what the reader comes to is what the specification reads** -/
theorem read_sim {p : List Nat} (hp : Ok8 p) : ∃ r, Res p Rd.start r ∧ match WrPatt.read (tx p) with
    | .error e => r = .error e
    | .ok (a, g) => ∃ S, r = .ok S ∧ S.groups = g ∧ g ≤ 32 ∧ Lay S.forms 0 S.forms.length 0 g a := by
  have q := (all_sim hp (8 * (tx p).length + 16)).2.2.2.2 Rd.start (by rw [tx_length]; show 8 * (p.length - 0) + 5 ≤ _; omega) (Nat.zero_le _) rfl rfl rfl rfl (Nat.zero_le _)
  have e0 : (⟨0, tx p⟩ : In) = at_ p 0 := by unfold at_; simp
  unfold WrPatt.read
  rw [e0]
  have q' : match patternIn (8 * (tx p).length + 16) false 0 (at_ p 0) with
    | .error e => Res p Rd.start (.error e)
    | .ok (a, h', x) => _ := q
  cases ea : patternIn (8 * (tx p).length + 16) false 0 (at_ p 0) with
  | error e => rw [ea] at q'; exact ⟨_, q', rfl⟩
  | ok z =>
    obtain ⟨a, h, x⟩ := z
    rw [ea] at q'
    obtain ⟨j, fs', rs, ps, js, gb, rfl, q1, q2, q3, q4, q5, q6⟩ := q'
    dsimp only
    by_cases c : now p j = 41
    · have hj : j < p.length := lt_of_now (by omega)
      rw [if_neg (fun z => absurd (at_b_nil.mp z) (by omega))]
      refine ⟨.error (1, j), q6 _ (.err hj ?_), rfl⟩
      rw [step_close (S := Rd.start.adv j h fs' { Rd.start.top with rows := Rd.start.top.rows ++ rs, parts := ps, pieces := js, gbp := gb }) c rfl]
      rfl
    · have hj : p.length ≤ j := by
        rcases q3 with z | z
        · exact z
        · exact absurd z c
      rw [if_pos (at_b_nil.mpr hj)]
      refine ⟨_, q6 _ (.fin hj), ?_⟩
      obtain ⟨x, e1, l1, w1⟩ := endV_lay (gg := h) (F := fs') (n0 := 0) (g := 0) (L := { Rd.start.top with rows := rs, parts := ps, pieces := js, gbp := gb }) q5
      have ef : finish (Rd.start.adv j h fs' { Rd.start.top with rows := Rd.start.top.rows ++ rs, parts := ps, pieces := js, gbp := gb }) = .ok ⟨j, h, (endLevelL h fs' { Rd.start.top with rows := rs, parts := ps, pieces := js, gbp := gb }).1, (endLevelL h fs' { Rd.start.top with rows := rs, parts := ps, pieces := js, gbp := gb }).2.1, []⟩ := by
        unfold finish
        rw [if_neg (by intro z; rcases z with z | z; exact z rfl; exact Bool.noConfusion z)]
        rfl
      refine ⟨_, ef, rfl, q4, ?_⟩
      show Lay (endLevelL h fs' { Rd.start.top with rows := rs, parts := ps, pieces := js, gbp := gb }).1 0 (endLevelL h fs' { Rd.start.top with rows := rs, parts := ps, pieces := js, gbp := gb }).1.length 0 h a
      rw [e1]
      exact l1
end PF
/-! Part C0: how a reader lies in the heap: what is owned (and may change), what stands still. -/
namespace RM
open PySem PySem.Spec PyProof.Rows L2 PF
abbrev Mem := List (Addr × HO)
/-- G: what stands still; M: what is owned, each address once, none of it in G -/
structure Own (G H : Hp) (M : Mem) : Prop where
  le : Same G H
  nd : (M.map (·.1)).Nodup
  holds : ∀ q ∈ M, H q.1 = some q.2
  fresh : ∀ q ∈ M, G q.1 = none
theorem Own.get {G H : Hp} {M : Mem} (o : Own G H M) (i : Nat) {a : Addr} {x : HO} (e : M[i]? = some (a, x)) : H a = some x := o.holds (a, x) (List.mem_of_getElem? e)
theorem nodup_ix {α : Type} {l : List α} (h : l.Nodup) {i j : Nat} {a : α} (hi : l[i]? = some a) (hj : l[j]? = some a) : i = j := nd_ix h hi hj
theorem set_fst {M : Mem} {i : Nat} {a : Addr} {x y : HO} (e : M[i]? = some (a, x)) : (M.set i (a, y)).map (·.1) = M.map (·.1) := by
  rw [List.map_set]
  have h : (M.map (·.1))[i]? = some a := by rw [List.getElem?_map, e]; rfl
  obtain ⟨hi, he⟩ := List.getElem?_eq_some_iff.mp h
  conv => rhs; rw [← List.set_getElem_self hi]
  rw [he]
theorem Own.put {G H : Hp} {M : Mem} (o : Own G H M) (i : Nat) {a : Addr} {x : HO} (y : HO) (e : M[i]? = some (a, x)) : Own G (upd H a y) (M.set i (a, y)) := by
  have ga : G a = none := o.fresh (a, x) (List.mem_of_getElem? e)
  have fst := set_fst (y := y) e
  refine ⟨fun b z h => ?_, by rw [fst]; exact o.nd, fun q hq => ?_, fun q hq => ?_⟩
  · have : b ≠ a := fun w => by rw [w, ga] at h; cases h
    rw [upd_ne this]; exact o.le b z h
  · obtain ⟨j, hj⟩ := List.getElem?_of_mem hq
    rw [List.getElem?_set] at hj
    by_cases c : i = j
    · rw [if_pos c] at hj
      split at hj
      · cases hj; exact upd_same
      · cases hj
    · rw [if_neg c] at hj
      have : q.1 ≠ a := fun w => c (nodup_ix (a := a) o.nd (by rw [List.getElem?_map, e]; rfl) (by rw [List.getElem?_map, hj, ← w]; rfl))
      rw [upd_ne this]; exact o.holds q (List.mem_of_getElem? hj)
  · have hm : q.1 ∈ (M.set i (a, y)).map (·.1) := List.mem_map_of_mem hq
    rw [fst] at hm
    obtain ⟨q', hq', e'⟩ := List.mem_map.mp hm
    rw [← e']; exact o.fresh q' hq'
theorem Own.free {G H : Hp} {M : Mem} (o : Own G H M) {p : Addr} (hp : H p = none) : p ∉ M.map (·.1) := fun h => by
  obtain ⟨q, hq, e⟩ := List.mem_map.mp h
  have := o.holds q hq
  rw [e, hp] at this; cases this
theorem Own.add {G H : Hp} {M : Mem} (o : Own G H M) {p : Addr} (hp : H p = none) (x : HO) : Own G (upd H p x) ((p, x) :: M) := by
  have gp : G p = none := o.le.free hp
  refine ⟨fun b z h => ?_, List.nodup_cons.mpr ⟨o.free hp, o.nd⟩, fun q hq => ?_, fun q hq => ?_⟩
  · have : b ≠ p := fun w => by rw [w, gp] at h; cases h
    rw [upd_ne this]; exact o.le b z h
  · rcases List.mem_cons.mp hq with h | h
    · rw [h]; exact upd_same
    · have : q.1 ≠ p := fun w => by have z := o.holds q h; rw [w, hp] at z; cases z
      rw [upd_ne this]; exact o.holds q h
  · rcases List.mem_cons.mp hq with h | h
    · rw [h]; exact gp
    · exact o.fresh q h
theorem Own.perm {G H : Hp} {M M' : Mem} (o : Own G H M) (h : M.Perm M') : Own G H M' :=
  ⟨o.le, ((h.map (·.1)).nodup_iff).mp o.nd, fun q hq => o.holds q (h.mem_iff.mpr hq), fun q hq => o.fresh q (h.mem_iff.mpr hq)⟩
theorem Own.drop {G H : Hp} {M : Mem} {q : Addr × HO} (o : Own G H (q :: M)) : Own G H M :=
  ⟨o.le, (List.nodup_cons.mp o.nd).2, fun z hz => o.holds z (List.mem_cons_of_mem _ hz), fun z hz => o.fresh z (List.mem_cons_of_mem _ hz)⟩
theorem Own.sub {G H : Hp} {M M' : Mem} (o : Own G H M) (h : M'.Sublist M) : Own G H M' :=
  ⟨o.le, (h.map (·.1)).nodup o.nd, fun z hz => o.holds z (h.subset hz), fun z hz => o.fresh z (h.subset hz)⟩
/-- what's owned comes to stand still -/
theorem Own.freeze {G H : Hp} {M : Mem} {a : Addr} {x : HO} (o : Own G H ((a, x) :: M)) : Own (upd G a x) H M ∧ Same G (upd G a x) ∧ upd G a x a = some x := by
  have ga : G a = none := o.fresh _ List.mem_cons_self
  have na := (List.nodup_cons.mp o.nd).1
  refine ⟨⟨fun b z h => ?_, (List.nodup_cons.mp o.nd).2, fun z hz => o.holds z (List.mem_cons_of_mem _ hz), fun z hz => ?_⟩, fun b z h => ?_, upd_same⟩
  · by_cases c : b = a
    · rw [c, upd_same] at h; cases h
      rw [c]; exact o.holds (a, x) List.mem_cons_self
    · rw [upd_ne c] at h; exact o.le b z h
  · have : z.1 ≠ a := fun w => na (by rw [← w]; exact List.mem_map_of_mem (f := (·.1)) hz)
    rw [upd_ne this]; exact o.fresh z (List.mem_cons_of_mem _ hz)
  · have : b ≠ a := fun w => by rw [w, ga] at h; cases h
    rw [upd_ne this]; exact h
theorem Own.same {G H H' : Hp} {M : Mem} (o : Own G H M) (s : Same H H') : Own G H' M :=
  ⟨o.le.trans s, o.nd, fun q hq => s _ _ (o.holds q hq), o.fresh⟩
theorem same_upd {H : Hp} {p : Addr} {x : HO} (hp : H p = none) : Same H (upd H p x) := fun b z h => by
  have : b ≠ p := fun w => by rw [w, hp] at h; cases h
  rw [upd_ne this]; exact h
theorem Own.wk {F G H : Hp} {M : Mem} (o : Own G H M) (s : Same F G) : Own F H M :=
  ⟨s.trans o.le, o.nd, o.holds, fun q hq => s.free (o.fresh q hq)⟩

/-! ### values -/
def nls (l : List Nat) : List V := l.map fun (n : Nat) => V.int (n : Int)
def bls (l : List Bool) : List V := l.map V.bl
def optI (m : Option Nat) : V := match m with
  | none => .non
  | some k => .int k
def kdS : Kd → Str
  | .byte => "byte"
  | .begin_ => "begin"
  | .end_ => "end"
  | .edge => "edge"
  | .noEdge => "no edge"
  | .row => "row"
  | .either => "either"
  | .both => "both"
  | .turned => "turned"
  | .counted => "counted"
  | .group => "group"
/-- what is told besides of a form -/
def ToldAt (G : Hp) (v : V) : Tl → Prop
  | .non => v = .non
  | .num k => v = .int k
  | .mem m => ∃ a, v = .ref a ∧ G a = some (.lst (bls m))
  | .cnt n m => ∃ a, v = .ref a ∧ G a = some (.tup [.int n, optI m])
/-- the same where it is still owned: its own memory -/
def ToldM (v : V) : Tl → Mem → Prop
  | .non, l => v = .non ∧ l = []
  | .num k, l => v = .int k ∧ l = []
  | .mem m, l => ∃ a, v = .ref a ∧ l = [(a, .lst (bls m))]
  | .cnt n m, l => ∃ a, v = .ref a ∧ l = [(a, .tup [.int n, optI m])]
def FormAt (CF : Addr) (G : Hp) (a : Addr) (fm : Fm) : Prop := ∃ dx pa tv, G a = some (.ins CF dx [("kind", .str (kdS fm.kd)), ("parts", .ref pa), ("told", tv)]) ∧ G pa = some (.lst (nls fm.parts)) ∧ ToldAt G tv fm.tl
def FormsAt (CF : Addr) (G : Hp) (l : List Addr) (fs : List Fm) : Prop := l.length = fs.length ∧ ∀ (i : Nat) (a : Addr) (fm : Fm), l[i]? = some a → fs[i]? = some fm → FormAt CF G a fm
theorem ToldAt.mono {G G' : Hp} (s : Same G G') {v : V} : ∀ {t : Tl}, ToldAt G v t → ToldAt G' v t
  | .non, h => h
  | .num _, h => h
  | .mem _, ⟨a, e, h⟩ => ⟨a, e, s _ _ h⟩
  | .cnt _ _, ⟨a, e, h⟩ => ⟨a, e, s _ _ h⟩
theorem FormAt.mono {CF : Addr} {G G' : Hp} (s : Same G G') {a : Addr} {fm : Fm} (h : FormAt CF G a fm) : FormAt CF G' a fm := by
  obtain ⟨dx, pa, tv, h1, h2, h3⟩ := h
  exact ⟨dx, pa, tv, s _ _ h1, s _ _ h2, h3.mono s⟩
theorem FormsAt.mono {CF : Addr} {G G' : Hp} (s : Same G G') {l : List Addr} {fs : List Fm} (h : FormsAt CF G l fs) : FormsAt CF G' l fs := ⟨h.1, fun i a fm e1 e2 => (h.2 i a fm e1 e2).mono s⟩
theorem FormsAt.snoc {CF : Addr} {G : Hp} {l : List Addr} {fs : List Fm} {a : Addr} {fm : Fm} (h : FormsAt CF G l fs) (x : FormAt CF G a fm) : FormsAt CF G (l ++ [a]) (fs ++ [fm]) := by
  refine ⟨by rw [List.length_append, List.length_append, h.1]; rfl, fun i b gm e1 e2 => ?_⟩
  by_cases c : i < l.length
  · rw [List.getElem?_append_left c] at e1
    rw [List.getElem?_append_left (by rw [← h.1]; exact c)] at e2
    exact h.2 i b gm e1 e2
  · have c' : l.length ≤ i := Nat.le_of_not_lt c
    rw [List.getElem?_append_right c'] at e1
    rw [List.getElem?_append_right (by rw [← h.1]; exact c'), ← h.1] at e2
    obtain ⟨k, hk⟩ : ∃ k, i - l.length = k := ⟨_, rfl⟩
    rw [hk] at e1 e2
    cases k with
    | zero => cases e1; cases e2; exact x
    | succ k => simp at e1
/-- the reader's own objects: itself, the list of its forms, the list of its levels -/
def rdO (CR dx pl fl ll : Addr) (place groups : Nat) : HO := .ins CR dx [("pattern", .ref pl), ("place", .int place), ("forms", .ref fl), ("groups", .int groups), ("levels", .ref ll)]
/-- the classes -/
structure Cs where
  rd : Addr
  lv : Addr
  fm : Addr
  fl : Addr
/-- a reader at r: F stands still, M is what else is owned -/
def RS (K : PySem.W.Frag) (c : Cs) (F H : Hp) (r : Addr) (p : List Nat) (place groups : Nat) (fs : List Fm) (lv : List Addr) (M : Mem) : Prop :=
  ∃ G dx pl fl ll fas, Same F G ∧ FormsAt c.fm G fas fs ∧ SqL K G pl (nls p) ∧ Own G H ((r, rdO c.rd dx pl fl ll place groups) :: (fl, .lst (fas.map V.ref)) :: (ll, .lst (lv.map V.ref)) :: M)
structure LvA where
  a : Addr
  dx : Addr
  r : Addr
  q : Addr
  c : Addr
def lvO (C : Addr) (x : LvA) (L : Lv) : HO := .ins C x.dx [("rows", .ref x.r), ("parts", .ref x.q), ("pieces", .ref x.c), ("turned", .bl L.turned), ("shut", .bl L.shut), ("groups_before_part", .int L.gbp), ("group", optI L.group)]
def lvM (C : Addr) (x : LvA) (L : Lv) : Mem := [(x.a, lvO C x L), (x.r, .lst (nls L.rows)), (x.q, .lst (nls L.parts)), (x.c, .lst (nls L.pieces))]
def stM (C : Addr) : List (LvA × Lv) → Mem
  | [] => []
  | q :: l => lvM C q.1 q.2 ++ stM C l
/-- a reader in a state: st its levels, the innermost first -/
def RdAt (K : PySem.W.Frag) (c : Cs) (F H : Hp) (r : Addr) (p : List Nat) (S : Rd) : Prop :=
  ∃ x st, st.map (·.2) = S.below ∧ RS K c F H r p S.place S.groups S.forms ((x :: st.map (·.1)).map (·.a)).reverse (lvM c.lv x S.top ++ stM c.lv st)
end RM
/-! Part C1: the program's text by places; what the top has written; the small defs. -/
namespace RM
open PySem PySem.Spec PyProof.Rows L2 PF
def topS (i : Nat) : Stmt := PySem.Challenge.pw_patternmeans_s01_judge.main.body.getD i (.Pass ⟨0, 0, 0, 0⟩)
abbrev s_Form_init : Stmt := inClass (topS 12) 0
theorem sc_Form_init : FnScope ["self", "kind", "parts", "told"] ["self", "kind", "parts", "told"] (defScope s_Form_init) := ⟨rfl, rfl, rfl, by decide +kernel, rfl, by decide +kernel, by decide +kernel⟩
abbrev s_among : Stmt := topS 26
theorem sc_among : FnScope ["byte", "signs", "sign"] ["byte", "signs"] (defScope s_among) := ⟨rfl, rfl, rfl, by decide +kernel, rfl, by decide +kernel, by decide +kernel⟩
abbrev s_is_printed : Stmt := topS 27
theorem sc_is_printed : FnScope ["byte"] ["byte"] (defScope s_is_printed) := ⟨rfl, rfl, rfl, by decide +kernel, rfl, by decide +kernel, by decide +kernel⟩
abbrev s_is_digit : Stmt := topS 28
theorem sc_is_digit : FnScope ["byte"] ["byte"] (defScope s_is_digit) := ⟨rfl, rfl, rfl, by decide +kernel, rfl, by decide +kernel, by decide +kernel⟩
abbrev s_Level_init : Stmt := inClass (topS 29) 0
theorem sc_Level_init : FnScope ["self", "shut", "groups", "group"] ["self", "shut", "groups", "group"] (defScope s_Level_init) := ⟨rfl, rfl, rfl, by decide +kernel, rfl, by decide +kernel, by decide +kernel⟩
abbrev s_Level_bars_groups : Stmt := inClass (topS 29) 1
theorem sc_Level_bars_groups : FnScope ["self"] ["self"] (defScope s_Level_bars_groups) := ⟨rfl, rfl, rfl, by decide +kernel, rfl, by decide +kernel, by decide +kernel⟩
abbrev s_Reader_init : Stmt := inClass (topS 30) 0
theorem sc_Reader_init : FnScope ["self", "pattern"] ["self", "pattern"] (defScope s_Reader_init) := ⟨rfl, rfl, rfl, by decide +kernel, rfl, by decide +kernel, by decide +kernel⟩
abbrev s_Reader_now : Stmt := inClass (topS 30) 1
theorem sc_Reader_now : FnScope ["self"] ["self"] (defScope s_Reader_now) := ⟨rfl, rfl, rfl, by decide +kernel, rfl, by decide +kernel, by decide +kernel⟩
abbrev s_Reader_passes : Stmt := inClass (topS 30) 2
theorem sc_Reader_passes : FnScope ["self", "sign"] ["self", "sign"] (defScope s_Reader_passes) := ⟨rfl, rfl, rfl, by decide +kernel, rfl, by decide +kernel, by decide +kernel⟩
abbrev s_Reader_need : Stmt := inClass (topS 30) 3
theorem sc_Reader_need : FnScope ["self", "sign"] ["self", "sign"] (defScope s_Reader_need) := ⟨rfl, rfl, rfl, by decide +kernel, rfl, by decide +kernel, by decide +kernel⟩
abbrev s_Reader_keep : Stmt := inClass (topS 30) 4
theorem sc_Reader_keep : FnScope ["self", "kind", "parts", "told"] ["self", "kind", "parts", "told"] (defScope s_Reader_keep) := ⟨rfl, rfl, rfl, by decide +kernel, rfl, by decide +kernel, by decide +kernel⟩
abbrev s_Reader_keep_joined : Stmt := inClass (topS 30) 5
theorem sc_Reader_keep_joined : FnScope ["self", "kind", "parts"] ["self", "kind", "parts"] (defScope s_Reader_keep_joined) := ⟨rfl, rfl, rfl, by decide +kernel, rfl, by decide +kernel, by decide +kernel⟩
abbrev s_Reader_read_whole : Stmt := inClass (topS 30) 6
theorem sc_Reader_read_whole : FnScope ["self"] ["self"] (defScope s_Reader_read_whole) := ⟨rfl, rfl, rfl, by decide +kernel, rfl, by decide +kernel, by decide +kernel⟩
abbrev s_Reader_read_step : Stmt := inClass (topS 30) 7
theorem sc_Reader_read_step : FnScope ["self", "level"] ["self"] (defScope s_Reader_read_step) := ⟨rfl, rfl, rfl, by decide +kernel, rfl, by decide +kernel, by decide +kernel⟩
abbrev s_Reader_open_bracket : Stmt := inClass (topS 30) 8
theorem sc_Reader_open_bracket : FnScope ["self", "bracket", "barred", "group"] ["self"] (defScope s_Reader_open_bracket) := ⟨rfl, rfl, rfl, by decide +kernel, rfl, by decide +kernel, by decide +kernel⟩
abbrev s_Reader_close_bracket : Stmt := inClass (topS 30) 9
theorem sc_Reader_close_bracket : FnScope ["self", "level", "within"] ["self"] (defScope s_Reader_close_bracket) := ⟨rfl, rfl, rfl, by decide +kernel, rfl, by decide +kernel, by decide +kernel⟩
abbrev s_Reader_pass_both : Stmt := inClass (topS 30) 10
theorem sc_Reader_pass_both : FnScope ["self", "level"] ["self", "level"] (defScope s_Reader_pass_both) := ⟨rfl, rfl, rfl, by decide +kernel, rfl, by decide +kernel, by decide +kernel⟩
abbrev s_Reader_end_part : Stmt := inClass (topS 30) 11
theorem sc_Reader_end_part : FnScope ["self", "level"] ["self", "level"] (defScope s_Reader_end_part) := ⟨rfl, rfl, rfl, by decide +kernel, rfl, by decide +kernel, by decide +kernel⟩
abbrev s_Reader_end_row : Stmt := inClass (topS 30) 12
theorem sc_Reader_end_row : FnScope ["self", "level"] ["self", "level"] (defScope s_Reader_end_row) := ⟨rfl, rfl, rfl, by decide +kernel, rfl, by decide +kernel, by decide +kernel⟩
abbrev s_Reader_end_level : Stmt := inClass (topS 30) 13
theorem sc_Reader_end_level : FnScope ["self", "level"] ["self", "level"] (defScope s_Reader_end_level) := ⟨rfl, rfl, rfl, by decide +kernel, rfl, by decide +kernel, by decide +kernel⟩
abbrev s_Reader_end_piece : Stmt := inClass (topS 30) 14
theorem sc_Reader_end_piece : FnScope ["self", "atom", "level", "piece", "told"] ["self", "atom"] (defScope s_Reader_end_piece) := ⟨rfl, rfl, rfl, by decide +kernel, rfl, by decide +kernel, by decide +kernel⟩
abbrev s_Reader_read_count : Stmt := inClass (topS 30) 15
theorem sc_Reader_read_count : FnScope ["self"] ["self"] (defScope s_Reader_read_count) := ⟨rfl, rfl, rfl, by decide +kernel, rfl, by decide +kernel, by decide +kernel⟩
abbrev s_Reader_read_numbers : Stmt := inClass (topS 30) 16
theorem sc_Reader_read_numbers : FnScope ["self", "least", "most"] ["self"] (defScope s_Reader_read_numbers) := ⟨rfl, rfl, rfl, by decide +kernel, rfl, by decide +kernel, by decide +kernel⟩
abbrev s_Reader_read_number : Stmt := inClass (topS 30) 17
theorem sc_Reader_read_number : FnScope ["self", "least", "first", "number"] ["self", "least"] (defScope s_Reader_read_number) := ⟨rfl, rfl, rfl, by decide +kernel, rfl, by decide +kernel, by decide +kernel⟩
abbrev s_Reader_read_atom : Stmt := inClass (topS 30) 18
theorem sc_Reader_read_atom : FnScope ["self", "byte"] ["self"] (defScope s_Reader_read_atom) := ⟨rfl, rfl, rfl, by decide +kernel, rfl, by decide +kernel, by decide +kernel⟩
abbrev s_Reader_read_plain : Stmt := inClass (topS 30) 19
theorem sc_Reader_read_plain : FnScope ["self", "barred", "byte"] ["self", "barred"] (defScope s_Reader_read_plain) := ⟨rfl, rfl, rfl, by decide +kernel, rfl, by decide +kernel, by decide +kernel⟩
abbrev s_Reader_keep_byte : Stmt := inClass (topS 30) 20
theorem sc_Reader_keep_byte : FnScope ["self", "only", "byte"] ["self", "only"] (defScope s_Reader_keep_byte) := ⟨rfl, rfl, rfl, by decide +kernel, rfl, by decide +kernel, by decide +kernel⟩
abbrev s_Reader_read_escaped_atom : Stmt := inClass (topS 30) 21
theorem sc_Reader_read_escaped_atom : FnScope ["self"] ["self"] (defScope s_Reader_read_escaped_atom) := ⟨rfl, rfl, rfl, by decide +kernel, rfl, by decide +kernel, by decide +kernel⟩
abbrev s_Reader_read_escaped : Stmt := inClass (topS 30) 22
theorem sc_Reader_read_escaped : FnScope ["self", "upper", "byte"] ["self"] (defScope s_Reader_read_escaped) := ⟨rfl, rfl, rfl, by decide +kernel, rfl, by decide +kernel, by decide +kernel⟩
abbrev s_Reader_read_hex : Stmt := inClass (topS 30) 23
theorem sc_Reader_read_hex : FnScope ["self", "byte", "first", "last", "value"] ["self"] (defScope s_Reader_read_hex) := ⟨rfl, rfl, rfl, by decide +kernel, rfl, by decide +kernel, by decide +kernel⟩
abbrev s_Reader_read_set : Stmt := inClass (topS 30) 24
theorem sc_Reader_read_set : FnScope ["self", "turned", "members", "member"] ["self"] (defScope s_Reader_read_set) := ⟨rfl, rfl, rfl, by decide +kernel, rfl, by decide +kernel, by decide +kernel⟩
abbrev s_Reader_read_item : Stmt := inClass (topS 30) 25
theorem sc_Reader_read_item : FnScope ["self", "members", "first", "last", "place", "byte"] ["self", "members"] (defScope s_Reader_read_item) := ⟨rfl, rfl, rfl, by decide +kernel, rfl, by decide +kernel, by decide +kernel⟩
abbrev s_Reader_read_set_byte : Stmt := inClass (topS 30) 26
theorem sc_Reader_read_set_byte : FnScope ["self"] ["self"] (defScope s_Reader_read_set_byte) := ⟨rfl, rfl, rfl, by decide +kernel, rfl, by decide +kernel, by decide +kernel⟩
abbrev s_read_pattern : Stmt := topS 31
theorem sc_read_pattern : FnScope ["pattern", "reader"] ["pattern"] (defScope s_read_pattern) := ⟨rfl, rfl, rfl, by decide +kernel, rfl, by decide +kernel, by decide +kernel⟩
abbrev s_judge : Stmt := topS 39
theorem sc_judge : FnScope ["pattern", "reader", "fault"] ["pattern"] (defScope s_judge) := ⟨rfl, rfl, rfl, by decide +kernel, rfl, by decide +kernel, by decide +kernel⟩
abbrev s_told_fault : Stmt := topS 40
theorem sc_told_fault : FnScope ["which", "fault"] ["which", "fault"] (defScope s_told_fault) := ⟨rfl, rfl, rfl, by decide +kernel, rfl, by decide +kernel, by decide +kernel⟩
/-- a constant of the module: an int, a text -/
def GI (mg : Str → Option Value) (x : Str) (i : Int) : Prop := ∃ t, mg x = some (.int i t)
def GS (mg : Str → Option Value) (x : Str) (z : Str) : Prop := ∃ t, mg x = some (.str z t)
/-- a method, a def, an __init__ of the text -/
def MT (K : PySem.W.Frag) (C : Addr) (m qual : Str) (st : Stmt) (ps : List Str) : Prop := ∃ f fd, Meth K C m f ∧ Fun K m qual st f fd ∧ Binds K fd ps []
def DT (K : PySem.W.Frag) (mg : Str → Option Value) (x : Str) (st : Stmt) (ps : List Str) : Prop := ∃ f fd, mg x = some (.ref f) ∧ PySem.W.keepIn K (.ref f) = true ∧ Fun K x x st f fd ∧ Binds K fd ps []
def IT (K : PySem.W.Frag) (C : Addr) (qual : Str) (st : Stmt) (ps : List Str) : Prop := ∃ f fd, Mk K C f ∧ Fun K "__init__" qual st f fd ∧ Binds K fd ps []
structure Txt (K : PySem.W.Frag) (mg : Str → Option Value) (c : Cs) (fI : Addr) : Prop where
  b_ord : mg "ord" = none
  b_len : mg "len" = none
  b_range : mg "range" = none
  g_BYTE : GS mg "BYTE" "byte"
  g_BEGIN : GS mg "BEGIN" "begin"
  g_END : GS mg "END" "end"
  g_EDGE : GS mg "EDGE" "edge"
  g_NO_EDGE : GS mg "NO_EDGE" "no edge"
  g_ROW : GS mg "ROW" "row"
  g_EITHER : GS mg "EITHER" "either"
  g_BOTH : GS mg "BOTH" "both"
  g_TURNED : GS mg "TURNED" "turned"
  g_COUNTED : GS mg "COUNTED" "counted"
  g_GROUP : GS mg "GROUP" "group"
  g_SPECIALS : GS mg "SPECIALS" "\\|&~*+?{}.^$()[]-:"
  g_NOT_PLAIN : GS mg "NOT_PLAIN" "\\|&~*+?{}.^$()[]"
  g_NOT_PLAIN_IN_SET : GS mg "NOT_PLAIN_IN_SET" "]-^"
  g_NOT_ATOMS : GS mg "NOT_ATOMS" "~|&)"
  g_CANNOT_STAND : GI mg "CANNOT_STAND" 1
  g_WRONG_NUMBER : GI mg "WRONG_NUMBER" 2
  g_WRONG_ITEM : GI mg "WRONG_ITEM" 3
  g_WRONG_GROUP : GI mg "WRONG_GROUP" 4
  g_MOST_GROUPS : GI mg "MOST_GROUPS" 32
  g_MOST_TIMES : GI mg "MOST_TIMES" 100
  g_PATTERN_ENDED : GI mg "PATTERN_ENDED" 256
  g_LONGEST : GI mg "LONGEST" 200
  g_ANSWERED : GI mg "ANSWERED" 0
  g_REFUSED : GI mg "REFUSED" 9
  g_BEYOND_BOUNDS : GI mg "BEYOND_BOUNDS" 1
  g_FAULTY : GI mg "FAULTY" 2
  g_FIRST : GI mg "FIRST" 0
  c_Reader : Cls K c.rd
  g_Reader : mg "Reader" = some (.ref c.rd)
  n_Reader_pattern : NoAttr K c.rd "pattern"
  n_Reader_place : NoAttr K c.rd "place"
  n_Reader_forms : NoAttr K c.rd "forms"
  n_Reader_groups : NoAttr K c.rd "groups"
  n_Reader_levels : NoAttr K c.rd "levels"
  c_Level : Cls K c.lv
  g_Level : mg "Level" = some (.ref c.lv)
  n_Level_rows : NoAttr K c.lv "rows"
  n_Level_parts : NoAttr K c.lv "parts"
  n_Level_pieces : NoAttr K c.lv "pieces"
  n_Level_turned : NoAttr K c.lv "turned"
  n_Level_shut : NoAttr K c.lv "shut"
  n_Level_groups_before_part : NoAttr K c.lv "groups_before_part"
  n_Level_group : NoAttr K c.lv "group"
  c_Form : Cls K c.fm
  g_Form : mg "Form" = some (.ref c.fm)
  n_Form_kind : NoAttr K c.fm "kind"
  n_Form_parts : NoAttr K c.fm "parts"
  n_Form_told : NoAttr K c.fm "told"
  flt : FX.FaultTxt K mg c.fl fI
  t_Form_init : IT K c.fm "Form.__init__" s_Form_init ["self", "kind", "parts", "told"]
  t_among : DT K mg "among" s_among ["byte", "signs"]
  t_is_printed : DT K mg "is_printed" s_is_printed ["byte"]
  t_is_digit : DT K mg "is_digit" s_is_digit ["byte"]
  t_Level_init : IT K c.lv "Level.__init__" s_Level_init ["self", "shut", "groups", "group"]
  t_Level_bars_groups : MT K c.lv "bars_groups" "Level.bars_groups" s_Level_bars_groups ["self"]
  t_Reader_init : IT K c.rd "Reader.__init__" s_Reader_init ["self", "pattern"]
  t_Reader_now : MT K c.rd "now" "Reader.now" s_Reader_now ["self"]
  t_Reader_passes : MT K c.rd "passes" "Reader.passes" s_Reader_passes ["self", "sign"]
  t_Reader_need : MT K c.rd "need" "Reader.need" s_Reader_need ["self", "sign"]
  t_Reader_keep : MT K c.rd "keep" "Reader.keep" s_Reader_keep ["self", "kind", "parts", "told"]
  t_Reader_keep_joined : MT K c.rd "keep_joined" "Reader.keep_joined" s_Reader_keep_joined ["self", "kind", "parts"]
  t_Reader_read_whole : MT K c.rd "read_whole" "Reader.read_whole" s_Reader_read_whole ["self"]
  t_Reader_read_step : MT K c.rd "read_step" "Reader.read_step" s_Reader_read_step ["self"]
  t_Reader_open_bracket : MT K c.rd "open_bracket" "Reader.open_bracket" s_Reader_open_bracket ["self"]
  t_Reader_close_bracket : MT K c.rd "close_bracket" "Reader.close_bracket" s_Reader_close_bracket ["self"]
  t_Reader_pass_both : MT K c.rd "pass_both" "Reader.pass_both" s_Reader_pass_both ["self", "level"]
  t_Reader_end_part : MT K c.rd "end_part" "Reader.end_part" s_Reader_end_part ["self", "level"]
  t_Reader_end_row : MT K c.rd "end_row" "Reader.end_row" s_Reader_end_row ["self", "level"]
  t_Reader_end_level : MT K c.rd "end_level" "Reader.end_level" s_Reader_end_level ["self", "level"]
  t_Reader_end_piece : MT K c.rd "end_piece" "Reader.end_piece" s_Reader_end_piece ["self", "atom"]
  t_Reader_read_count : MT K c.rd "read_count" "Reader.read_count" s_Reader_read_count ["self"]
  t_Reader_read_numbers : MT K c.rd "read_numbers" "Reader.read_numbers" s_Reader_read_numbers ["self"]
  t_Reader_read_number : MT K c.rd "read_number" "Reader.read_number" s_Reader_read_number ["self", "least"]
  t_Reader_read_atom : MT K c.rd "read_atom" "Reader.read_atom" s_Reader_read_atom ["self"]
  t_Reader_read_plain : MT K c.rd "read_plain" "Reader.read_plain" s_Reader_read_plain ["self", "barred"]
  t_Reader_keep_byte : MT K c.rd "keep_byte" "Reader.keep_byte" s_Reader_keep_byte ["self", "only"]
  t_Reader_read_escaped_atom : MT K c.rd "read_escaped_atom" "Reader.read_escaped_atom" s_Reader_read_escaped_atom ["self"]
  t_Reader_read_escaped : MT K c.rd "read_escaped" "Reader.read_escaped" s_Reader_read_escaped ["self"]
  t_Reader_read_hex : MT K c.rd "read_hex" "Reader.read_hex" s_Reader_read_hex ["self"]
  t_Reader_read_set : MT K c.rd "read_set" "Reader.read_set" s_Reader_read_set ["self"]
  t_Reader_read_item : MT K c.rd "read_item" "Reader.read_item" s_Reader_read_item ["self", "members"]
  t_Reader_read_set_byte : MT K c.rd "read_set_byte" "Reader.read_set_byte" s_Reader_read_set_byte ["self"]
  t_read_pattern : DT K mg "read_pattern" s_read_pattern ["pattern"]
  t_judge : DT K mg "judge" s_judge ["pattern"]
  t_told_fault : DT K mg "told_fault" s_told_fault ["which", "fault"]
/-- the same with their promises -/
def MOk (P : Program) (w : World) (K : PySem.W.Frag) (mg : Str → Option Value) (base : Heap) (CX : CXT) (k : Nat) (C : Addr) (m : Str) (ps : List Str) (sp : Sp) : Prop := ∃ f fd, Meth K C m f ∧ FnOk P w K mg base CX k f fd ps sp ∧ Binds K fd ps []
def DOk (P : Program) (w : World) (K : PySem.W.Frag) (mg : Str → Option Value) (base : Heap) (CX : CXT) (k : Nat) (x : Str) (ps : List Str) (sp : Sp) : Prop := ∃ f fd, mg x = some (.ref f) ∧ PySem.W.keepIn K (.ref f) = true ∧ FnOk P w K mg base CX k f fd ps sp ∧ Binds K fd ps []
def IOk (P : Program) (w : World) (K : PySem.W.Frag) (mg : Str → Option Value) (base : Heap) (CX : CXT) (k : Nat) (C : Addr) (ps : List Str) (sp : Sp) : Prop := ∃ f fd, Mk K C f ∧ FnOk P w K mg base CX k f fd ps sp ∧ Binds K fd ps []
/-- an if whose test is known -/
theorem if_true_of {c : Bool} {A B : Prop} (hc : c = true) (h : A) : if c = true then A else B := by
  rw [if_pos hc]
  exact h
theorem if_false_of {c : Bool} {A B : Prop} (hc : c = false) (h : B) : if c = true then A else B := by
  rw [hc, if_neg Bool.false_ne_true]
  exact h
section
variable {X : Cx} {x : Str} {pos : Pos}
theorem pe_globI {i : Int} (hg : Gl X x) (h : GI X.mg x i) (hd : (x == ("__debug__" : Str)) = false := by decide) : PE X (.Name x pos) (tC (.int i)) := by
  obtain ⟨t, h⟩ := h
  exact pe_glob hg h ⟨_, rfl⟩ hd
theorem pe_globS {z : Str} (hg : Gl X x) (h : GS X.mg x z) (hd : (x == ("__debug__" : Str)) = false := by decide) : PE X (.Name x pos) (tC (.str z)) := by
  obtain ⟨t, h⟩ := h
  exact pe_glob hg h ⟨_, rfl⟩ hd
end
/-! ### small defs -/
def codes (z : Str) : List Nat := z.cps.toList
def spAmong : Sp := fun vs H Q _ => ∃ (b : Nat) (z : Str), vs = [.int b, .str z] ∧ z.cps.size ≤ 100 ∧ ∀ H', Same H H' → Q (.bl ((codes z).contains b)) H'
def spPrinted : Sp := fun vs H Q _ => ∃ b : Nat, vs = [.int b] ∧ Q (.bl (printed b)) H
def spDigit : Sp := fun vs H Q _ => ∃ b : Nat, vs = [.int b] ∧ Q (.bl (digit b)) H
theorem in_codes (l : List Nat) (b : Nat) : inV (.int b) (nls l) = l.contains b := by
  unfold inV nls
  induction l with
  | nil => rfl
  | cons a l ih =>
    rw [List.map_cons, List.any_cons, ih, List.contains_cons]
    congr 1
    show ((a : Int) == (b : Int)) = (b == a)
    by_cases h : a = b
    · subst h
      rw [beq_self_eq_true, beq_self_eq_true]
    · have h1 : ¬ (a : Int) = (b : Int) := by omega
      have h2 : ¬ b = a := fun z => h z.symm
      rw [beq_eq_false_iff_ne.mpr h1, beq_eq_false_iff_ne.mpr h2]
theorem nls_flat (l : List Nat) : (nls l).all flatV = true := by
  unfold nls
  rw [List.all_map]
  exact List.all_eq_true.mpr fun _ _ => rfl
section
variable {P : Program} {w : World} {K : PySem.W.Frag} {mg : Str → Option Value} {base : Heap} {c : Cs} {fI : Addr}
theorem ok_printed (T : Txt K mg c fI) : DOk P w K mg base CX0 1 "is_printed" ["byte"] spPrinted := by
  obtain ⟨f, fd, mf, kf, F, b⟩ := T.t_is_printed
  refine ⟨f, fd, mf, kf, F.ok sc_is_printed (fun vs H Q E h => ?_) (fun cdv A outer s H vs Q E hr h => ⟨_, pss_one (ps_ret (pe_chain op_le op_le pe_int (pv 0) pe_int)), ?_⟩), b⟩
  · obtain ⟨b, rfl, _⟩ := h; rfl
  · obtain ⟨b, rfl, q⟩ := h
    refine ⟨_, rfl, _, _, rfl, rfl, _, rfl, ?_⟩
    by_cases c1 : (32 : Int) ≤ b
    · refine if_true_of (decide_eq_true c1) ⟨_, _, rfl, rfl, ?_⟩
      have e : decide ((b : Int) ≤ 126) = printed b := by
        unfold printed
        rw [decide_eq_true (by omega : 32 ≤ b), Bool.true_and]
        by_cases h : b ≤ 126
        · rw [decide_eq_true h, decide_eq_true (by omega)]
        · rw [decide_eq_false h, decide_eq_false (by omega)]
      show Q (.bl (decide ((b : Int) ≤ 126))) H
      rw [e]; exact q
    · refine if_false_of (decide_eq_false c1) ?_
      have e : printed b = false := by
        unfold printed
        rw [decide_eq_false (by omega : ¬ 32 ≤ b)]; rfl
      rw [e] at q; exact q
theorem ok_among (T : Txt K mg c fI) : DOk P w K mg base CX0 1 "among" ["byte", "signs"] spAmong := by
  obtain ⟨f, fd, mf, kf, F, b⟩ := T.t_among
  refine ⟨f, fd, mf, kf, F.ok sc_among (fun vs H Q E h => ?_) (fun cdv A outer s H vs Q E hr h => ⟨_, pss_one (ps_ret (pe_cmpR op_in_seq (pv 0) (pe_lc (own := [("sign", 2)]) (g := gName 2) (tt := tYes) rfl sc_among.nd (pi_str (pv 1)) (blkOk_by (N := ["byte", "signs", "sign"]) (sc := defScope s_among) (by decide +kernel)) (fun _ _ _ _ _ => (pg_name (i := 2) sc_among.nd rfl (Or.inl rfl))) (fun _ _ _ _ _ => pts_nil) (fun _ _ _ _ _ => (pe_callB call_ord (by rfl) T.b_ord (by decide +kernel) (pa_cons (pv 2) pa_nil)))) (by rfl))), ?_⟩), b⟩
  · obtain ⟨b, z, rfl, _⟩ := h; rfl
  · obtain ⟨b, z, rfl, hz, q⟩ := h
    refine ⟨_, rfl, _, rfl, z, rfl, fun D hD => lc_it walk_str (fun i H1 => Same H H1 ∧ H1 D = some (.lst (nls ((codes z).take i)))) ⟨same_upd hD, upd_same⟩ (fun _ _ _ _ => trivial) ?_ ?_⟩
    · rintro i x H1 H2 hi ⟨s1, s2⟩ ⟨rfl, k, hk, rfl⟩
      refine ⟨rfl, _, rfl, _, rfl, rfl, _, s2, ?_, ?_, ?_⟩
      · unfold nls; rw [List.length_map, List.length_take]
        exact Nat.lt_of_le_of_lt (Nat.min_le_right _ _) (Nat.lt_of_le_of_lt (by unfold codes; rw [Array.length_toList]; exact hz) (by decide))
      · intro a o e
        have : a ≠ D := fun y => by rw [y, hD] at e; cases e
        rw [upd_ne this]; exact s1 a o e
      · rw [upd_same]
        have hk' : (codes z)[i]? = some k := by unfold codes; rw [Array.getElem?_toList]; exact hk
        have e : (codes z).take (i + 1) = (codes z).take i ++ [k] := by
          rw [List.take_add_one, hk']; rfl
        rw [e]
        unfold nls
        rw [List.map_append]
        rfl
    · rintro H1 ⟨s1, s2⟩
      refine ⟨D, _, rfl, .inl (SqL.of s2), rfl, nls_flat _, ?_⟩
      have e : (codes z).take z.cps.size = codes z := by
        rw [← Array.length_toList]; exact List.take_length
      rw [e]
      show Q (.bl (inV (.int b) (nls (codes z)))) H1
      rw [in_codes]
      exact q H1 s1
end
end RM
/-! Part C2: the objects' fields; reading and storing them in a reader's memory. -/
namespace RM
open PySem PySem.Spec PyProof.Rows L2 PF
theorem lk_here {k : Str} {v : V} {r : List (Str × V)} : List.lookup k ((k, v) :: r) = some v := by
  have e : (k == k) = true := beq_self_eq_true k
  simp only [List.lookup, e]
theorem lk_past {k g : Str} {v : V} {r : List (Str × V)} (h : (k == g) = false) : List.lookup k ((g, v) :: r) = List.lookup k r := by
  simp only [List.lookup, h]
theorem put_here {f : Str} {v x : V} {r : List (Str × V)} : putF f v ((f, x) :: r) = (f, v) :: r := if_pos rfl
theorem put_past {f g : Str} {v x : V} {r : List (Str × V)} (h : ¬ g = f) : putF f v ((g, x) :: r) = (g, x) :: putF f v r := if_neg h
theorem lookup_none_of : ∀ {fs : List (Str × V)} {m : Str}, (fs.map (·.1)).contains m = false → fs.lookup m = none
  | [], _, _ => rfl
  | (g, v) :: fs, m, h => by
    rw [List.map_cons, List.contains_cons, Bool.or_eq_false_iff] at h
    rw [lk_past h.1]
    exact lookup_none_of h.2
abbrev rdFs (pl fl ll : Addr) (place groups : Nat) : List (Str × V) := [("pattern", .ref pl), ("place", .int place), ("forms", .ref fl), ("groups", .int groups), ("levels", .ref ll)]
abbrev lvFs (x : LvA) (L : Lv) : List (Str × V) := [("rows", .ref x.r), ("parts", .ref x.q), ("pieces", .ref x.c), ("turned", .bl L.turned), ("shut", .bl L.shut), ("groups_before_part", .int L.gbp), ("group", optI L.group)]
theorem rd_pattern {pl fl ll : Addr} {place groups : Nat} : (rdFs pl fl ll place groups).lookup ("pattern" : Str) = some (.ref pl) := lk_here
theorem rd_place {pl fl ll : Addr} {place groups : Nat} : (rdFs pl fl ll place groups).lookup ("place" : Str) = some (.int place) := (lk_past (by decide +kernel)).trans (lk_here)
theorem rd_forms {pl fl ll : Addr} {place groups : Nat} : (rdFs pl fl ll place groups).lookup ("forms" : Str) = some (.ref fl) := (lk_past (by decide +kernel)).trans ((lk_past (by decide +kernel)).trans (lk_here))
theorem rd_groups {pl fl ll : Addr} {place groups : Nat} : (rdFs pl fl ll place groups).lookup ("groups" : Str) = some (.int groups) := (lk_past (by decide +kernel)).trans ((lk_past (by decide +kernel)).trans ((lk_past (by decide +kernel)).trans (lk_here)))
theorem rd_levels {pl fl ll : Addr} {place groups : Nat} : (rdFs pl fl ll place groups).lookup ("levels" : Str) = some (.ref ll) := (lk_past (by decide +kernel)).trans ((lk_past (by decide +kernel)).trans ((lk_past (by decide +kernel)).trans ((lk_past (by decide +kernel)).trans (lk_here))))
theorem rd_none {pl fl ll : Addr} {place groups : Nat} {m : Str} (h : (["pattern", "place", "forms", "groups", "levels"] : List Str).contains m = false) : (rdFs pl fl ll place groups).lookup m = none := by
  exact lookup_none_of h
theorem lv_rows {x : LvA} {L : Lv} : (lvFs x L).lookup ("rows" : Str) = some (.ref x.r) := lk_here
theorem lv_parts {x : LvA} {L : Lv} : (lvFs x L).lookup ("parts" : Str) = some (.ref x.q) := (lk_past (by decide +kernel)).trans (lk_here)
theorem lv_pieces {x : LvA} {L : Lv} : (lvFs x L).lookup ("pieces" : Str) = some (.ref x.c) := (lk_past (by decide +kernel)).trans ((lk_past (by decide +kernel)).trans (lk_here))
theorem lv_turned {x : LvA} {L : Lv} : (lvFs x L).lookup ("turned" : Str) = some (.bl L.turned) := (lk_past (by decide +kernel)).trans ((lk_past (by decide +kernel)).trans ((lk_past (by decide +kernel)).trans (lk_here)))
theorem lv_shut {x : LvA} {L : Lv} : (lvFs x L).lookup ("shut" : Str) = some (.bl L.shut) := (lk_past (by decide +kernel)).trans ((lk_past (by decide +kernel)).trans ((lk_past (by decide +kernel)).trans ((lk_past (by decide +kernel)).trans (lk_here))))
theorem lv_groups_before_part {x : LvA} {L : Lv} : (lvFs x L).lookup ("groups_before_part" : Str) = some (.int L.gbp) := (lk_past (by decide +kernel)).trans ((lk_past (by decide +kernel)).trans ((lk_past (by decide +kernel)).trans ((lk_past (by decide +kernel)).trans ((lk_past (by decide +kernel)).trans (lk_here)))))
theorem lv_group {x : LvA} {L : Lv} : (lvFs x L).lookup ("group" : Str) = some (optI L.group) := (lk_past (by decide +kernel)).trans ((lk_past (by decide +kernel)).trans ((lk_past (by decide +kernel)).trans ((lk_past (by decide +kernel)).trans ((lk_past (by decide +kernel)).trans ((lk_past (by decide +kernel)).trans (lk_here))))))
theorem lv_none {x : LvA} {L : Lv} {m : Str} (h : (["rows", "parts", "pieces", "turned", "shut", "groups_before_part", "group"] : List Str).contains m = false) : (lvFs x L).lookup m = none := by
  exact lookup_none_of h
theorem rd_put_place {pl fl ll : Addr} {place groups : Nat} (n : Nat) : putF ("place" : Str) (.int n) (rdFs pl fl ll place groups) = rdFs pl fl ll n groups := (put_past (by decide +kernel)).trans (congrArg _ (put_here))
theorem rd_put_groups {pl fl ll : Addr} {place groups : Nat} (n : Nat) : putF ("groups" : Str) (.int n) (rdFs pl fl ll place groups) = rdFs pl fl ll place n := (put_past (by decide +kernel)).trans (congrArg _ ((put_past (by decide +kernel)).trans (congrArg _ ((put_past (by decide +kernel)).trans (congrArg _ (put_here))))))
theorem lv_put_turned {x : LvA} {L : Lv} (b : Bool) : putF ("turned" : Str) (.bl b) (lvFs x L) = lvFs x { L with turned := b } := (put_past (by decide +kernel)).trans (congrArg _ ((put_past (by decide +kernel)).trans (congrArg _ ((put_past (by decide +kernel)).trans (congrArg _ (put_here))))))
theorem lv_put_groups_before_part {x : LvA} {L : Lv} (n : Nat) : putF ("groups_before_part" : Str) (.int n) (lvFs x L) = lvFs x { L with gbp := n } := (put_past (by decide +kernel)).trans (congrArg _ ((put_past (by decide +kernel)).trans (congrArg _ ((put_past (by decide +kernel)).trans (congrArg _ ((put_past (by decide +kernel)).trans (congrArg _ ((put_past (by decide +kernel)).trans (congrArg _ (put_here))))))))))
theorem lv_put_parts {x : LvA} {L : Lv} (a : Addr) : putF ("parts" : Str) (.ref a) (lvFs x L) = lvFs { x with q := a } L := (put_past (by decide +kernel)).trans (congrArg _ (put_here))
theorem lv_put_pieces {x : LvA} {L : Lv} (a : Addr) : putF ("pieces" : Str) (.ref a) (lvFs x L) = lvFs { x with c := a } L := (put_past (by decide +kernel)).trans (congrArg _ ((put_past (by decide +kernel)).trans (congrArg _ (put_here))))

/-- an attribute of what stands in a slot -/
theorem fld_at {K : PySem.W.Frag} {σ : L2.St} {H : Hp} {Q : VK} {i : Nat} {a C dx : Addr} {fs : List (Str × V)} {f : Str} {v : V} (e : σ[i]? = some (some (.ref a))) (h : H a = some (.ins C dx fs)) (cl : Cls K C) (n : NoAttr K C f) (l : fs.lookup f = some v) (q : Q v H) : tFld K (tVar i) f σ H Q :=
  ⟨_, e, _, _, _, _, _, rfl, h, cl, n, l, q⟩
section
variable {K : PySem.W.Frag} {mg : Str → Option Value} {c : Cs} {fI : Addr} {F H : Hp} {r : Addr} {p : List Nat} {place groups : Nat} {fs : List Fm} {lv : List Addr} {M : Mem} {σ : L2.St} {Q : VK} {i : Nat}
/-- a method of the reader -/
theorem rd_meth {m : Str} {X : Prop} (R : RS K c F H r p place groups fs lv M) (hm : (["pattern", "place", "forms", "groups", "levels"] : List Str).contains m = false) (h : X) : ∃ a dx fs, V.ref r = .ref a ∧ H a = some (.ins c.rd dx fs) ∧ fs.lookup m = none ∧ X := by
  obtain ⟨G, dx, pl, fl, ll, fas, _, _, _, o⟩ := R
  exact ⟨r, dx, _, rfl, o.get 0 rfl, rd_none hm, h⟩
theorem rd_f_place {Q : V → Prop} (T : Txt K mg c fI) (R : RS K c F H r p place groups fs lv M) (q : Q (.int place)) : ∃ a C dx fs v, V.ref r = .ref a ∧ H a = some (.ins C dx fs) ∧ Cls K C ∧ NoAttr K C "place" ∧ fs.lookup ("place" : Str) = some v ∧ Q v := by
  obtain ⟨G, dx, pl, fl, ll, fas, _, _, _, o⟩ := R
  exact ⟨_, _, _, _, _, rfl, o.get 0 rfl, T.c_Reader, T.n_Reader_place, rd_place, q⟩
theorem rd_f_groups {Q : V → Prop} (T : Txt K mg c fI) (R : RS K c F H r p place groups fs lv M) (q : Q (.int groups)) : ∃ a C dx fs v, V.ref r = .ref a ∧ H a = some (.ins C dx fs) ∧ Cls K C ∧ NoAttr K C "groups" ∧ fs.lookup ("groups" : Str) = some v ∧ Q v := by
  obtain ⟨G, dx, pl, fl, ll, fas, _, _, _, o⟩ := R
  exact ⟨_, _, _, _, _, rfl, o.get 0 rfl, T.c_Reader, T.n_Reader_groups, rd_groups, q⟩
theorem rd_f_pattern {Q : V → Prop} (T : Txt K mg c fI) (R : RS K c F H r p place groups fs lv M) (q : ∀ pl, SqL K H pl (nls p) → Q (.ref pl)) : ∃ a C dx fs v, V.ref r = .ref a ∧ H a = some (.ins C dx fs) ∧ Cls K C ∧ NoAttr K C "pattern" ∧ fs.lookup ("pattern" : Str) = some v ∧ Q v := by
  obtain ⟨G, dx, pl, fl, ll, fas, _, _, hp, o⟩ := R
  exact ⟨_, _, _, _, _, rfl, o.get 0 rfl, T.c_Reader, T.n_Reader_pattern, rd_pattern, q pl (o.le.seq hp)⟩
/-- the list of levels: read -/
theorem rd_f_levels {Q : V → Prop} (T : Txt K mg c fI) (R : RS K c F H r p place groups fs lv M) (q : ∀ ll, H ll = some (.lst (lv.map V.ref)) → Q (.ref ll)) : ∃ a C dx fs v, V.ref r = .ref a ∧ H a = some (.ins C dx fs) ∧ Cls K C ∧ NoAttr K C "levels" ∧ fs.lookup ("levels" : Str) = some v ∧ Q v := by
  obtain ⟨G, dx, pl, fl, ll, fas, _, _, hp, o⟩ := R
  exact ⟨_, _, _, _, _, rfl, o.get 0 rfl, T.c_Reader, T.n_Reader_levels, rd_levels, q ll (o.get 2 rfl)⟩
/-- self.place += n -/
theorem rd_inc (T : Txt K mg c fI) {D : Ends} (R : RS K c F H r p place groups fs lv M) (e : σ[i]? = some (some (.ref r))) (q : ∀ H', RS K c F H' r p (place + 1) groups fs lv M → D.nx σ H') : sFldAug K (tVar i) (tC (.int 1)) rAdd "place" D σ H := by
  obtain ⟨G, dx, pl, fl, ll, fas, s, f, hp, o⟩ := R
  refine ⟨_, e, r, _, dx, _, _, rfl, o.get 0 rfl, T.c_Reader, T.n_Reader_place, rd_place, _, _, rfl, rfl, dx, _, o.get 0 rfl, (by show 5 < 1000; decide), q _ ⟨G, dx, pl, fl, ll, fas, s, f, hp, ?_⟩⟩
  have z := o.put 0 (rdO c.rd dx pl fl ll (place + 1) groups) rfl
  have ee : HO.ins c.rd dx (putF ("place" : Str) (.int ((place : Int) + 1)) (rdFs pl fl ll place groups)) = rdO c.rd dx pl fl ll (place + 1) groups := by
    show _ = HO.ins c.rd dx (rdFs pl fl ll (place + 1) groups)
    rw [← rd_put_place (place + 1)]
    rfl
  rw [ee]
  exact z
theorem rd_inc_groups (T : Txt K mg c fI) {D : Ends} (R : RS K c F H r p place groups fs lv M) (e : σ[i]? = some (some (.ref r))) (q : ∀ H', RS K c F H' r p place (groups + 1) fs lv M → D.nx σ H') : sFldAug K (tVar i) (tC (.int 1)) rAdd "groups" D σ H := by
  obtain ⟨G, dx, pl, fl, ll, fas, s, f, hp, o⟩ := R
  refine ⟨_, e, r, _, dx, _, _, rfl, o.get 0 rfl, T.c_Reader, T.n_Reader_groups, rd_groups, _, _, rfl, rfl, dx, _, o.get 0 rfl, (by show 5 < 1000; decide), q _ ⟨G, dx, pl, fl, ll, fas, s, f, hp, ?_⟩⟩
  have z := o.put 0 (rdO c.rd dx pl fl ll place (groups + 1)) rfl
  have ee : HO.ins c.rd dx (putF ("groups" : Str) (.int ((groups : Int) + 1)) (rdFs pl fl ll place groups)) = rdO c.rd dx pl fl ll place (groups + 1) := by
    show _ = HO.ins c.rd dx (rdFs pl fl ll place (groups + 1))
    rw [← rd_put_groups (groups + 1)]
    rfl
  rw [ee]
  exact z
theorem RS.wk {F' : Hp} (R : RS K c F H r p place groups fs lv M) (s : Same F' F) : RS K c F' H r p place groups fs lv M := by
  obtain ⟨G, dx, pl, fl, ll, fas, s1, f, hp, o⟩ := R
  exact ⟨G, dx, pl, fl, ll, fas, s.trans s1, f, hp, o⟩
theorem RS.same {H' : Hp} (R : RS K c F H r p place groups fs lv M) (s : Same H H') : RS K c F H' r p place groups fs lv M := by
  obtain ⟨G, dx, pl, fl, ll, fas, s1, f, hp, o⟩ := R
  exact ⟨G, dx, pl, fl, ll, fas, s1, f, hp, o.same s⟩
/-- F stands -/
theorem RS.stands (R : RS K c F H r p place groups fs lv M) : Same F H := by
  obtain ⟨G, dx, pl, fl, ll, fas, s1, f, hp, o⟩ := R
  exact s1.trans o.le
theorem perm3 {a b d : Addr × HO} {M M' : Mem} (h : M.Perm M') : (a :: b :: d :: M).Perm (a :: b :: d :: M') := ((h.cons d).cons b).cons a
theorem RS.perm {M' : Mem} (R : RS K c F H r p place groups fs lv M) (h : M.Perm M') : RS K c F H r p place groups fs lv M' := by
  obtain ⟨G, dx, pl, fl, ll, fas, s1, f, hp, o⟩ := R
  exact ⟨G, dx, pl, fl, ll, fas, s1, f, hp, o.perm (perm3 h)⟩
/-- what's owned besides, at its place -/
theorem RS.get (R : RS K c F H r p place groups fs lv M) (j : Nat) {a : Addr} {x : HO} (e : M[j]? = some (a, x)) : H a = some x := by
  obtain ⟨G, dx, pl, fl, ll, fas, s1, f, hp, o⟩ := R
  exact o.get (j + 3) e
theorem RS.put (R : RS K c F H r p place groups fs lv M) (j : Nat) {a : Addr} {x : HO} (y : HO) (e : M[j]? = some (a, x)) : RS K c F (upd H a y) r p place groups fs lv (M.set j (a, y)) := by
  obtain ⟨G, dx, pl, fl, ll, fas, s1, f, hp, o⟩ := R
  exact ⟨G, dx, pl, fl, ll, fas, s1, f, hp, o.put (j + 3) y e⟩
/-- a new object -/
theorem RS.add (R : RS K c F H r p place groups fs lv M) {q : Addr} (hq : H q = none) (x : HO) : RS K c F (upd H q x) r p place groups fs lv ((q, x) :: M) := by
  obtain ⟨G, dx, pl, fl, ll, fas, s1, f, hp, o⟩ := R
  refine ⟨G, dx, pl, fl, ll, fas, s1, f, hp, (o.add hq x).perm ?_⟩
  exact (List.Perm.swap _ _ _).trans (((List.Perm.swap _ _ _).trans ((List.Perm.swap _ _ _).cons _)).cons _)
theorem RS.drop {q : Addr × HO} (R : RS K c F H r p place groups fs lv (q :: M)) : RS K c F H r p place groups fs lv M := by
  obtain ⟨G, dx, pl, fl, ll, fas, s1, f, hp, o⟩ := R
  exact ⟨G, dx, pl, fl, ll, fas, s1, f, hp, o.sub (.cons₂ _ (.cons₂ _ (.cons₂ _ (.cons _ (List.Sublist.refl _)))))⟩
/-- an owned thing comes to stand -/
theorem RS.freeze {a : Addr} {x : HO} (R : RS K c F H r p place groups fs lv ((a, x) :: M)) : RS K c (upd F a x) H r p place groups fs lv M ∧ Same F (upd F a x) := by
  obtain ⟨G, dx, pl, fl, ll, fas, s1, f, hp, o⟩ := R
  have o2 := o.perm (M' := (a, x) :: (r, rdO c.rd dx pl fl ll place groups) :: (fl, .lst (fas.map V.ref)) :: (ll, .lst (lv.map V.ref)) :: M) ((((List.Perm.swap _ _ _).cons _).cons _).trans (((List.Perm.swap _ _ _).cons _).trans (List.Perm.swap _ _ _)))
  obtain ⟨o3, s3, e3⟩ := o2.freeze
  have fa : F a = none := s1.free (o2.fresh _ List.mem_cons_self)
  refine ⟨⟨upd G a x, dx, pl, fl, ll, fas, fun b z h => ?_, f.mono s3, s3.seq hp, o3⟩, same_upd fa⟩
  by_cases q : b = a
  · rw [q, upd_same] at h ⊢; exact h
  · rw [upd_ne q] at h ⊢; exact s1 b z h
end
end RM
/-! Part C3: reading a sign, keeping a form. -/
namespace RM
open PySem PySem.Spec PyProof.Rows L2 PF
/-- a Fault leaves: what stood in F stands -/
def FltE (c : Cs) (F : Hp) (E : XK) (e : Flt) : Prop := ∀ d H', Same F H' → H' d = some (.xd (flt (.int e.1) (.int e.2))) → E (.ref c.fl) (some d) H'
theorem FltE.at_ {c : Cs} {F H : Hp} {E : XK} {e : Flt} (h : FltE c F E e) (s : Same F H) {d : Addr} (n : H d = none) : E (.ref c.fl) (some d) (upd H d (.xd (flt (.int e.1) (.int e.2)))) := h d _ (s.trans (same_upd n)) upd_same
def one (z : Str) (k : Nat) : Prop := z.length = 1 ∧ z.cps.getD 0 0 = k
def spNow (K : PySem.W.Frag) (c : Cs) : Sp := fun vs H Q _ => ∃ F r p pl g fs lv M, vs = [.ref r] ∧ RS K c F H r p pl g fs lv M ∧ Q (.int (now p pl)) H
def spPasses (K : PySem.W.Frag) (c : Cs) : Sp := fun vs H Q _ => ∃ F r p pl g fs lv M z k, vs = [.ref r, .str z] ∧ one z k ∧ RS K c F H r p pl g fs lv M ∧
  (now p pl = k → ∀ H', RS K c F H' r p (pl + 1) g fs lv M → Q (.bl true) H') ∧ (now p pl ≠ k → Q (.bl false) H)
def spNeed (K : PySem.W.Frag) (c : Cs) : Sp := fun vs H Q E => ∃ F r p pl g fs lv M z k, vs = [.ref r, .str z] ∧ one z k ∧ RS K c F H r p pl g fs lv M ∧
  (∀ e, need p k pl = .error e → FltE c F E e) ∧ (∀ j, need p k pl = .ok j → ∀ H', RS K c F H' r p j g fs lv M → Q .non H')
/-- Form(kind, parts, told) -/
def spFormInit (c : Cs) : Sp := fun vs H Q _ => ∃ (x dx : Addr) (k : Str) (pa tv : V), vs = [.ref x, .str k, pa, tv] ∧ H x = some (.ins c.fm dx []) ∧
  ∀ H', H' x = some (.ins c.fm dx [("kind", .str k), ("parts", pa), ("told", tv)]) → (∀ b o, H b = some o → b ≠ x → H' b = some o) → Q .non H'
def spKeep (K : PySem.W.Frag) (c : Cs) : Sp := fun vs H Q _ => ∃ F r p pl g fs lv M kd pa js tv tl TM, vs = [.ref r, .str (kdS kd), .ref pa, tv] ∧ ToldM tv tl TM ∧ fs.length < 100000 ∧ RS K c F H r p pl g fs lv ((pa, .lst (nls js)) :: (TM ++ M)) ∧
  ∀ H', RS K c F H' r p pl g (fs ++ [⟨kd, js, tl⟩]) lv M → Q (.int fs.length) H'
section
variable {P : Program} {w : World} {K : PySem.W.Frag} {mg : Str → Option Value} {base : Heap} {c : Cs} {fI : Addr}
theorem ok_digit (T : Txt K mg c fI) : DOk P w K mg base CX0 1 "is_digit" ["byte"] spDigit := by
  obtain ⟨f, fd, mf, kf, F, b⟩ := T.t_is_digit
  refine ⟨f, fd, mf, kf, F.ok sc_is_digit (fun vs H Q E h => ?_) (fun cdv A outer s H vs Q E hr h => ⟨_, pss_one (ps_ret (pe_chain op_le op_le (pe_callB call_ord (by rfl) T.b_ord (by decide +kernel) (pa_cons pe_str pa_nil)) (pv 0) (pe_callB call_ord (by rfl) T.b_ord (by decide +kernel) (pa_cons pe_str pa_nil)))), ?_⟩), b⟩
  · obtain ⟨b, rfl, _⟩ := h; rfl
  · obtain ⟨b, rfl, q⟩ := h
    refine ⟨_, rfl, rfl, _, rfl, _, _, rfl, rfl, _, rfl, ?_⟩
    by_cases c1 : (48 : Int) ≤ b
    · refine if_true_of (decide_eq_true c1) ⟨_, rfl, rfl, _, _, rfl, rfl, ?_⟩
      have e : decide ((b : Int) ≤ 57) = digit b := by
        unfold digit
        rw [decide_eq_true (by omega : 48 ≤ b), Bool.true_and]
        by_cases h : b ≤ 57
        · rw [decide_eq_true h, decide_eq_true (by omega)]
        · rw [decide_eq_false h, decide_eq_false (by omega)]
      show Q (.bl (decide ((b : Int) ≤ 57))) H
      rw [e]; exact q
    · refine if_false_of (decide_eq_false c1) ?_
      have e : digit b = false := by
        unfold digit
        rw [decide_eq_false (by omega : ¬ 48 ≤ b)]; rfl
      rw [e] at q; exact q
theorem ok_now (T : Txt K mg c fI) : MOk P w K mg base CX0 1 c.rd "now" ["self"] (spNow K c) := by
  obtain ⟨f, fd, m, F, b⟩ := T.t_Reader_now
  refine ⟨f, fd, m, F.ok sc_Reader_now (fun vs H Q E h => ?_) (fun cdv A outer s H vs Q E hr h => ⟨_, pss_cons (ps_if (pt_cmpR op_lt (pe_fld (pv 0) rfl) (pe_callB call_len_seq (by rfl) T.b_len PySem.boot_len (pa_cons (pe_fld (pv 0) rfl) pa_nil)) (nomark _)) (pss_one (ps_ret (pe_ix ix_list (pe_fld (pv 0) rfl) (pe_fld (pv 0) rfl) (fun _ _ => rfl)))) pss_nil) (pss_one (ps_ret (pe_globI rfl T.g_PATTERN_ENDED))), ?_⟩), b⟩
  · obtain ⟨_, r, _, _, _, _, _, _, rfl, _⟩ := h; rfl
  · obtain ⟨F0, r, p, pl, g, fs, lv, M, rfl, R, q⟩ := h
    refine ⟨_, rfl, rd_f_place T R ⟨_, rfl, rd_f_pattern T R fun l hl => ⟨_, _, rfl, .inl hl, _, _, rfl, rfl, _, rfl, ?_⟩⟩⟩
    have el : (nls p).length = p.length := by unfold nls; rw [List.length_map]
    by_cases c1 : pl < p.length
    · refine if_true_of (decide_eq_true (by rw [el]; omega)) ?_
      refine ⟨_, rfl, rd_f_pattern T R fun l hl => ⟨_, rfl, rd_f_place T R ⟨_, _, _, _, rfl, rfl, hl, atI_nat (v := .int (now p pl)) ?_, q⟩⟩⟩
      unfold nls
      rw [List.getElem?_map, List.getElem?_eq_getElem c1, now_lt c1]
      rfl
    · refine if_false_of (decide_eq_false (by rw [el]; omega)) ?_
      rw [now_ge (Nat.le_of_not_lt c1)] at q
      exact q
theorem ok_passes (T : Txt K mg c fI) : MOk P w K mg base CX0 2 c.rd "passes" ["self", "sign"] (spPasses K c) := by
  obtain ⟨f, fd, m, F, b⟩ := T.t_Reader_passes
  obtain ⟨_, _, M_Reader_now, G_Reader_now, B_Reader_now⟩ := ok_now (P := P) (w := w) (base := base) T
  refine ⟨f, fd, m, F.ok sc_Reader_passes (fun vs H Q E h => ?_) (fun cdv A outer s H vs Q E hr h => ⟨_, pss_cons (ps_if (pt_cmpR op_eq (pe_meth0 (pv 0) T.c_Reader M_Reader_now G_Reader_now (hr.mono (by decide)) B_Reader_now .nil pass0) (pe_callB call_ord (by rfl) T.b_ord (by decide +kernel) (pa_cons (pv 1) pa_nil)) (nomark _)) (pss_cons (ps_fldaug (pv 0) pe_int in_add) (pss_one (ps_ret pe_bl))) pss_nil) (pss_one (ps_ret pe_bl)), ?_⟩), b⟩
  · obtain ⟨_, r, _, _, _, _, _, _, _, _, rfl, _⟩ := h; rfl
  · obtain ⟨F0, r, p, pl, g, fs, lv, M, z, k, rfl, ⟨z1, z2⟩, R, q1, q2⟩ := h
    refine ⟨_, rfl, rd_meth R (by decide +kernel) ⟨F0, r, p, pl, g, fs, lv, M, rfl, R, _, rfl, _, rfl, z1, rfl, _, rfl, ?_⟩⟩
    rw [z2]
    by_cases c1 : now p pl = k
    · refine if_true_of (decide_eq_true (by rw [c1])) ?_
      exact rd_inc T R (by rfl) fun H' R' => q1 c1 H' R'
    · refine if_false_of (decide_eq_false fun e => c1 ?_) (q2 c1)
      have := V.int.inj e
      omega
end
end RM
/-! Part C4: forms kept. -/
namespace RM
open PySem PySem.Spec PyProof.Rows L2 PF
theorem big_small {n : Nat} (h : n < 100000) : n < sizeLine := Nat.lt_trans h (by decide)
theorem Own.new {G H H1 : Hp} {M : Mem} {x : Addr} {o : HO} (w : Own G H M) (s : Same H H1) (nx : H x = none) (hx : H1 x = some o) : Own G H1 ((x, o) :: M) := by
  have gp : G x = none := w.le.free nx
  refine ⟨w.le.trans s, List.nodup_cons.mpr ⟨w.free nx, w.nd⟩, fun q hq => ?_, fun q hq => ?_⟩
  · rcases List.mem_cons.mp hq with h | h
    · rw [h]; exact hx
    · exact s _ _ (w.holds q h)
  · rcases List.mem_cons.mp hq with h | h
    · rw [h]; exact gp
    · exact w.fresh q h
/-- what's told, come to stand -/
theorem Own.told {G H : Hp} {M TM : Mem} {tv : V} {tl : Tl} (tm : ToldM tv tl TM) (o : Own G H (TM ++ M)) : ∃ G', Same G G' ∧ ToldAt G' tv tl ∧ Own G' H M := by
  cases tl with
  | non => obtain ⟨h, rfl⟩ := tm; exact ⟨G, Same.refl _, h, o⟩
  | num k => obtain ⟨h, rfl⟩ := tm; exact ⟨G, Same.refl _, h, o⟩
  | mem m =>
    obtain ⟨a, h, rfl⟩ := tm
    obtain ⟨o2, s2, e2⟩ := Own.freeze (M := M) o
    exact ⟨_, s2, ⟨a, h, e2⟩, o2⟩
  | cnt n m =>
    obtain ⟨a, h, rfl⟩ := tm
    obtain ⟨o2, s2, e2⟩ := Own.freeze (M := M) o
    exact ⟨_, s2, ⟨a, h, e2⟩, o2⟩
theorem same_made {H H1 : Hp} {x dx C : Addr} (nx : H x = none) (nd : H dx = none) (k : ∀ b o, (upd (upd H dx (.own x)) x (.ins C dx [])) b = some o → b ≠ x → H1 b = some o) : Same H H1 := Same.made nx nd k
section
variable {K : PySem.W.Frag} {mg : Str → Option Value} {c : Cs} {fI : Addr} {F H : Hp} {r : Addr} {p : List Nat} {place groups : Nat} {fs : List Fm} {lv : List Addr} {M : Mem}
theorem rd_f_forms {Q : V → Prop} (T : Txt K mg c fI) (R : RS K c F H r p place groups fs lv M) (q : ∀ (fl : Addr) (fas : List Addr), H fl = some (.lst (fas.map V.ref)) → fas.length = fs.length → Q (.ref fl)) : ∃ a C dx fs v, V.ref r = .ref a ∧ H a = some (.ins C dx fs) ∧ Cls K C ∧ NoAttr K C "forms" ∧ fs.lookup ("forms" : Str) = some v ∧ Q v := by
  obtain ⟨G, dx, pl, fl, ll, fas, _, f, _, o⟩ := R
  exact ⟨_, _, _, _, _, rfl, o.get 0 rfl, T.c_Reader, T.n_Reader_forms, rd_forms, q fl fas (o.get 1 rfl) f.1⟩
/-- the list of forms, and what a form more makes of the memory -/
theorem RS.keeping {pa : Addr} {js : List Nat} {TM : Mem} {kd : Kd} {tv : V} {tl : Tl} {Q : V → Prop} (T : Txt K mg c fI) (tm : ToldM tv tl TM) (R : RS K c F H r p place groups fs lv ((pa, .lst (nls js)) :: (TM ++ M)))
    (q : ∀ fl xs, H fl = some (.lst xs) → xs.length = fs.length → (∀ H1 x dx, Same H H1 → H x = none → H1 x = some (.ins c.fm dx [("kind", .str (kdS kd)), ("parts", .ref pa), ("told", tv)]) → H1 fl = some (.lst xs) ∧ RS K c F (upd H1 fl (.lst (xs ++ [.ref x]))) r p place groups (fs ++ [⟨kd, js, tl⟩]) lv M) → Q (.ref fl)) :
    ∃ a C dx fs v, V.ref r = .ref a ∧ H a = some (.ins C dx fs) ∧ Cls K C ∧ NoAttr K C "forms" ∧ fs.lookup ("forms" : Str) = some v ∧ Q v := by
  obtain ⟨G, dx, pl, fl, ll, fas, s0, f, hp, o⟩ := R
  refine ⟨_, _, _, _, _, rfl, o.get 0 rfl, T.c_Reader, T.n_Reader_forms, rd_forms, q fl _ (o.get 1 rfl) (by rw [List.length_map]; exact f.1) fun H1 x dx1 s nx hx => ?_⟩
  have o1 := o.new s nx hx
  refine ⟨o1.get 2 rfl, ?_⟩
  have o2 := o1.put 2 (.lst (fas.map V.ref ++ [.ref x])) rfl
  -- the new form, its parts, what's told, ahead
  have pm : ((x, HO.ins c.fm dx1 [("kind", .str (kdS kd)), ("parts", .ref pa), ("told", tv)]) :: (r, rdO c.rd dx pl fl ll place groups) :: (fl, HO.lst (fas.map V.ref ++ [.ref x])) :: (ll, .lst (lv.map V.ref)) :: (pa, .lst (nls js)) :: (TM ++ M)).Perm
      ((x, HO.ins c.fm dx1 [("kind", .str (kdS kd)), ("parts", .ref pa), ("told", tv)]) :: (pa, .lst (nls js)) :: (TM ++ ((r, rdO c.rd dx pl fl ll place groups) :: (fl, HO.lst (fas.map V.ref ++ [.ref x])) :: (ll, .lst (lv.map V.ref)) :: M))) := by
    refine List.Perm.cons _ ?_
    refine (((List.Perm.swap _ _ _).cons _).cons _).trans (((List.Perm.swap _ _ _).cons _).trans ((List.Perm.swap _ _ _).trans (List.Perm.cons _ ?_)))
    refine List.Perm.symm ?_
    exact List.perm_middle.trans ((List.perm_middle.trans (List.perm_middle.cons _)).cons _)
  obtain ⟨o3, s3, e3⟩ := (o2.perm pm).freeze
  obtain ⟨o4, s4, e4⟩ := o3.freeze
  obtain ⟨G5, s5, t5, o5⟩ := o4.told tm
  refine ⟨G5, dx, pl, fl, ll, fas ++ [x], s0.trans (s3.trans (s4.trans s5)), ?_, (s3.trans (s4.trans s5)).seq hp, by rw [List.map_append]; exact o5⟩
  exact (f.mono (s3.trans (s4.trans s5))).snoc ⟨dx1, pa, tv, s5 _ _ (s4 _ _ e3), s5 _ _ e4, t5⟩
end
section
variable {P : Program} {w : World} {K : PySem.W.Frag} {mg : Str → Option Value} {base : Heap} {c : Cs} {fI : Addr}
theorem ok_need (T : Txt K mg c fI) : MOk P w K mg base (L2.CX P w) 3 c.rd "need" ["self", "sign"] (spNeed K c) := by
  obtain ⟨f, fd, m, F, b⟩ := T.t_Reader_need
  obtain ⟨_, _, M_Reader_passes, G_Reader_passes, B_Reader_passes⟩ := ok_passes (P := P) (w := w) (base := base) T
  refine ⟨f, fd, m, F.okX sc_Reader_need (fun vs H Q E h => ?_) (fun cdv A outer s H vs Q E hr h => ⟨_, pss_one (ps_if (pt_not (pt_val (pe_meth (pv 0) T.c_Reader M_Reader_passes G_Reader_passes (hr.mono (by decide)) B_Reader_passes .nil pass0 (pa_cons (pv 1) pa_nil)))) (pss_one (ps_raiseFlt rfl T.flt hr (takes_of rfl rfl rfl rfl) (pa_cons (pe_globI rfl T.g_CANNOT_STAND) (pa_cons (pe_fld (pv 0) rfl) pa_nil)))) pss_nil), ?_⟩), b⟩
  · obtain ⟨_, r, _, _, _, _, _, _, _, _, rfl, _⟩ := h; rfl
  · obtain ⟨F0, r, p, pl, g, fs, lv, M, z, k, rfl, hz, R, q1, q2⟩ := h
    refine ⟨_, rfl, rd_meth R (by decide +kernel) ⟨_, rfl, F0, r, p, pl, g, fs, lv, M, z, k, rfl, hz, R, fun e H' R' => ⟨_, rfl, ?_⟩, fun e => ⟨_, rfl, ?_⟩⟩⟩
    · exact if_false_of rfl (q2 (pl + 1) (if_pos e) H' R')
    · refine if_true_of rfl ?_
      exact ⟨_, rfl, rd_f_place T R ⟨_, _, rfl, fun d nd => (q1 (1, pl) (if_neg e)).at_ R.stands nd⟩⟩
theorem fm_put1 {k : Str} {pa : V} : putF ("parts" : Str) pa (putF ("kind" : Str) (.str k) []) = [(("kind" : Str), V.str k), (("parts" : Str), pa)] := put_past (by decide +kernel)
theorem fm_put2 {k : Str} {pa tv : V} : putF ("told" : Str) tv [(("kind" : Str), V.str k), (("parts" : Str), pa)] = [(("kind" : Str), V.str k), (("parts" : Str), pa), (("told" : Str), tv)] := (put_past (by decide +kernel)).trans (congrArg _ (put_past (by decide +kernel)))
theorem ok_form (T : Txt K mg c fI) : IOk P w K mg base CX0 1 c.fm ["self", "kind", "parts", "told"] (spFormInit c) := by
  obtain ⟨f, fd, m, F, b⟩ := T.t_Form_init
  refine ⟨f, fd, m, F.ok sc_Form_init (fun vs H Q E h => ?_) (fun cdv A outer s H vs Q E hr h => ⟨_, pss_cons (ps_fld (pv 0) (pv 1) rfl) (pss_cons (ps_fld (pv 0) (pv 2) rfl) (pss_one (ps_fld (pv 0) (pv 3) rfl))), ?_⟩), b⟩
  · obtain ⟨x, dx, k, pa, tv, rfl, _⟩ := h; rfl
  · obtain ⟨x, dx, k, pa, tv, rfl, hx, q⟩ := h
    refine ⟨_, rfl, _, rfl, x, _, dx, _, rfl, hx, T.c_Form, T.n_Form_kind, (by decide), ?_⟩
    refine ⟨_, rfl, _, rfl, x, _, dx, _, rfl, upd_same, T.c_Form, T.n_Form_parts, (by show 1 < 1000; decide), ?_⟩
    refine ⟨_, rfl, _, rfl, x, _, dx, _, rfl, upd_same, T.c_Form, T.n_Form_told, (by rw [fm_put1]; show 2 < 1000; decide), ?_⟩
    refine q _ ?_ fun b o e ne => ?_
    · rw [fm_put1, fm_put2]
      exact upd_same
    · rw [upd_ne ne, upd_ne ne, upd_ne ne]; exact e
theorem ok_keep (T : Txt K mg c fI) : MOk P w K mg base CX0 3 c.rd "keep" ["self", "kind", "parts", "told"] (spKeep K c) := by
  obtain ⟨f, fd, m, F, b⟩ := T.t_Reader_keep
  obtain ⟨_, _, M_Form, G_Form, B_Form⟩ := ok_form (P := P) (w := w) (base := base) T
  refine ⟨f, fd, m, F.ok sc_Reader_keep (fun vs H Q E h => ?_) (fun cdv A outer s H vs Q E hr h => ⟨_, pss_cons (ps_expr (pe_bm PySem.F.plainAttrs_list PySem.F.slot_list_append PySem.F.type_list_append mt_append (pe_fld (pv 0) rfl) (pa_cons (pe_make M_Form G_Form (hr.mono (by decide)) rfl T.g_Form B_Form .nil pass0 (pa_cons (pv 1) (pa_cons (pv 2) (pa_cons (pv 3) pa_nil)))) pa_nil))) (pss_one (ps_ret (pe_op op_sub (pe_callB call_len_seq (by rfl) T.b_len PySem.boot_len (pa_cons (pe_fld (pv 0) rfl) pa_nil)) pe_int))), ?_⟩), b⟩
  · obtain ⟨_, r, _, _, _, _, _, _, _, _, _, _, _, _, rfl, _⟩ := h; rfl
  · obtain ⟨F0, r, p, pl, g, fs, lv, M, kd, pa, js, tv, tl, TM, rfl, tm, hb, R, q⟩ := h
    refine ⟨_, rfl, R.keeping (kd := kd) T tm fun fl xs hl hn k => ⟨.inl ⟨rfl, _, SqL.of hl⟩, _, rfl, _, rfl, _, rfl, fun x dx nx nd ne => ?_⟩⟩
    refine ⟨x, dx, kdS kd, .ref pa, tv, rfl, upd_same, fun H1 h1 keep => ⟨rfl, ?_⟩⟩
    have s1 : Same H H1 := same_made nx nd keep
    obtain ⟨k1, k2⟩ := k H1 x dx s1 nx h1
    refine ⟨fl, xs, .ref x, rfl, rfl, k1, by rw [hn]; exact big_small hb, ?_⟩
    refine ⟨_, rfl, rd_f_forms T k2 fun fl2 fas h2 n2 => ⟨fl2, _, rfl, .inl (SqL.of h2), _, _, rfl, rfl, ?_⟩⟩
    have e : (((fas.map V.ref).length : Nat) : Int) - 1 = (fs.length : Nat) := by
      rw [List.length_map, n2, List.length_append]
      show ((fs.length + 1 : Nat) : Int) - 1 = _
      omega
    show Q (.int (((fas.map V.ref).length : Int) - 1)) _
    rw [e]
    exact q _ k2
end
end RM
/-! Part C5: forms joined; levels made, their parts, rows, themselves ended. -/
namespace RM
open PySem PySem.Spec PyProof.Rows L2 PF
def Sz (n : Nat) : Prop := n < 100000
theorem Sz.lt {n : Nat} (h : Sz n) : n < sizeLine := big_small h
def spJoined (K : PySem.W.Frag) (c : Cs) : Sp := fun vs H Q _ => ∃ F r p pl g fs lv M kd pa js, vs = [.ref r, .str (kdS kd), .ref pa] ∧ Sz fs.length ∧ RS K c F H r p pl g fs lv ((pa, .lst (nls js)) :: M) ∧
  ∀ H', RS K c F H' r p pl g (keepJoined kd fs js).1 lv M → Q (.int (keepJoined kd fs js).2) H'
def spEndPart (K : PySem.W.Frag) (c : Cs) : Sp := fun vs H Q _ => ∃ F r p pl g fs lv M x L, vs = [.ref r, .ref x.a] ∧ Sz fs.length ∧ Sz L.parts.length ∧ RS K c F H r p pl g fs lv (lvM c.lv x L ++ M) ∧
  ∀ H' x', x'.a = x.a → RS K c F H' r p pl g (endPartL g fs L).1 lv (lvM c.lv x' (endPartL g fs L).2 ++ M) → Q .non H'
def spEndRow (K : PySem.W.Frag) (c : Cs) : Sp := fun vs H Q _ => ∃ F r p pl g fs lv M x L, vs = [.ref r, .ref x.a] ∧ Sz (fs.length + 1) ∧ Sz L.parts.length ∧ Sz L.rows.length ∧ RS K c F H r p pl g fs lv (lvM c.lv x L ++ M) ∧
  ∀ H' x', x'.a = x.a → RS K c F H' r p pl g (endRowL g fs L).1 lv (lvM c.lv x' (endRowL g fs L).2 ++ M) → Q .non H'
/-- the level's own lists are given up, but the level itself may be read on -/
def spEndLevel (K : PySem.W.Frag) (c : Cs) : Sp := fun vs H Q _ => ∃ F r p pl g fs lv M x L, vs = [.ref r, .ref x.a] ∧ Sz (fs.length + 2) ∧ Sz L.parts.length ∧ Sz L.rows.length ∧ RS K c F H r p pl g fs lv (lvM c.lv x L ++ M) ∧
  ∀ H' x' L', x'.a = x.a → L'.group = L.group → RS K c F H' r p pl g (endLevelL g fs L).1 lv ((x.a, lvO c.lv x' L') :: M) → Q (.int (endLevelL g fs L).2.2) H'
def spLevelInit (c : Cs) : Sp := fun vs H Q _ => ∃ (G : Hp) (M : Mem) (x dx : Addr) (sh : Bool) (g : Nat) (k : Option Nat), vs = [.ref x, .bl sh, .int g, optI k] ∧ Own G H ((x, .ins c.lv dx []) :: M) ∧
  ∀ H' (y : LvA), y.a = x → Own G H' (lvM c.lv y (Lv.new sh g k) ++ M) → Q .non H'
def spBars (c : Cs) : Sp := fun vs H Q _ => ∃ (x : LvA) (L : Lv), vs = [.ref x.a] ∧ H x.a = some (lvO c.lv x L) ∧ H x.q = some (.lst (nls L.parts)) ∧ Q (.bl L.bars) H
/-- an attribute of an object that stands in the heap -/
theorem obj_f {K : PySem.W.Frag} {H : Hp} {a C dx : Addr} {fs : List (Str × V)} {f : Str} {v : V} {Q : V → Prop} (h : H a = some (.ins C dx fs)) (cl : Cls K C) (n : NoAttr K C f) (l : fs.lookup f = some v) (q : Q v) :
    ∃ a' C dx fs v, V.ref a = .ref a' ∧ H a' = some (.ins C dx fs) ∧ Cls K C ∧ NoAttr K C f ∧ fs.lookup f = some v ∧ Q v := ⟨_, _, _, _, _, rfl, h, cl, n, l, q⟩
theorem obj_m {H : Hp} {a C dx : Addr} {fs : List (Str × V)} {m : Str} {X : Prop} (h : H a = some (.ins C dx fs)) (l : fs.lookup m = none) (q : X) : ∃ a' dx fs, V.ref a = .ref a' ∧ H a' = some (.ins C dx fs) ∧ fs.lookup m = none ∧ X := ⟨_, _, _, rfl, h, l, q⟩
section
variable {P : Program} {w : World} {K : PySem.W.Frag} {mg : Str → Option Value} {base : Heap} {c : Cs} {fI : Addr}
theorem ok_joined (T : Txt K mg c fI) : MOk P w K mg base CX0 4 c.rd "keep_joined" ["self", "kind", "parts"] (spJoined K c) := by
  obtain ⟨f, fd, m, F, b⟩ := T.t_Reader_keep_joined
  obtain ⟨_, _, M_Reader_keep, G_Reader_keep, B_Reader_keep⟩ := ok_keep (P := P) (w := w) (base := base) T
  refine ⟨f, fd, m, F.ok sc_Reader_keep_joined (fun vs H Q E h => ?_) (fun cdv A outer s H vs Q E hr h => ⟨_, pss_cons (ps_if (pt_cmpR op_eq (pe_callB call_len_seq (by rfl) T.b_len PySem.boot_len (pa_cons (pv 2) pa_nil)) pe_int (nomark _)) (pss_one (ps_ret (pe_ix ix_list (pv 2) pe_int (fun _ _ => rfl)))) pss_nil) (pss_one (ps_ret (pe_meth (pv 0) T.c_Reader M_Reader_keep G_Reader_keep (hr.mono (by decide)) B_Reader_keep .nil pass0 (pa_cons (pv 1) (pa_cons (pv 2) (pa_cons pe_non pa_nil)))))), ?_⟩), b⟩
  · obtain ⟨_, r, _, _, _, _, _, _, _, _, _, rfl, _⟩ := h; rfl
  · obtain ⟨F0, r, p, pl, g, fs, lv, M, kd, pa, js, rfl, hb, R, q⟩ := h
    have hpa := R.get 0 rfl
    have el : (nls js).length = js.length := by unfold nls; rw [List.length_map]
    refine ⟨_, rfl, _, _, rfl, .inl (SqL.of hpa), rfl, _, rfl, ?_⟩
    by_cases c1 : js.length = 1
    · refine if_true_of (decide_eq_true (by rw [el, c1]; rfl)) ?_
      match js, c1 with
      | [j], _ => exact ⟨_, rfl, _, _, _, _, rfl, rfl, SqL.of hpa, atI_nat (j := 0) rfl, q H R.drop⟩
    · refine if_false_of (decide_eq_false fun e => c1 ?_) ?_
      · have := V.int.inj e
        rw [el] at this; omega
      · have ek : keepJoined kd fs js = (fs ++ [⟨kd, js, .non⟩], fs.length) := by
          match js, c1 with
          | [], _ => rfl
          | [j], h => exact absurd rfl h
          | j :: j2 :: l, _ => rfl
        rw [ek] at q
        exact ⟨_, rfl, rd_meth R (by decide +kernel) ⟨_, rfl, _, rfl, F0, r, p, pl, g, fs, lv, M, kd, pa, js, .non, .non, [], rfl, ⟨rfl, rfl⟩, hb, R, q⟩⟩
theorem nls_app (l : List Nat) (n : Nat) : nls l ++ [V.int n] = nls (l ++ [n]) := by
  unfold nls; rw [List.map_append]; rfl
theorem nls_len (l : List Nat) : (nls l).length = l.length := by unfold nls; rw [List.length_map]
theorem ok_endPart (T : Txt K mg c fI) : MOk P w K mg base CX0 5 c.rd "end_part" ["self", "level"] (spEndPart K c) := by
  obtain ⟨f, fd, m, F, b⟩ := T.t_Reader_end_part
  obtain ⟨_, _, M_Reader_keep_joined, G_Reader_keep_joined, B_Reader_keep_joined⟩ := ok_joined (P := P) (w := w) (base := base) T
  refine ⟨f, fd, m, F.ok sc_Reader_end_part (fun vs H Q E h => ?_) (fun cdv A outer s H vs Q E hr h => ⟨_, pss_cons (ps_expr (pe_bm PySem.F.plainAttrs_list PySem.F.slot_list_append PySem.F.type_list_append mt_append (pe_fld (pv 1) rfl) (pa_cons (pe_meth (pv 0) T.c_Reader M_Reader_keep_joined G_Reader_keep_joined (hr.mono (by decide)) B_Reader_keep_joined .nil pass0 (pa_cons (pe_globS rfl T.g_ROW) (pa_cons (pe_fld (pv 1) rfl) pa_nil))) pa_nil))) (pss_cons (ps_fld (pv 1) (pe_lst pa_nil) rfl) (pss_one (ps_fld (pv 1) (pe_fld (pv 0) rfl) rfl))), ?_⟩), b⟩
  · obtain ⟨_, r, _, _, _, _, _, _, _, _, rfl, _⟩ := h; rfl
  · obtain ⟨F0, r, p, pl, g, fs, lv, M, x, L, rfl, hb, hb2, R, q⟩ := h
    -- level.parts.append(self.keep_joined(ROW, level.pieces))
    refine ⟨_, rfl, obj_f (R.get 0 rfl) T.c_Level T.n_Level_parts lv_parts ⟨.inl ⟨rfl, _, SqL.of (R.get 2 rfl)⟩, _, rfl, rd_meth R (by decide +kernel) ⟨_, rfl, obj_f (R.get 0 rfl) T.c_Level T.n_Level_pieces lv_pieces ?_⟩⟩⟩
    have R1 : RS K c F0 H r p pl g fs lv ((x.c, .lst (nls L.pieces)) :: ([(x.a, lvO c.lv x L), (x.r, .lst (nls L.rows)), (x.q, .lst (nls L.parts))] ++ M)) := R.perm (List.perm_middle (l₁ := [(x.a, lvO c.lv x L), (x.r, .lst (nls L.rows)), (x.q, .lst (nls L.parts))]))
    refine ⟨F0, r, p, pl, g, fs, lv, _, .row, x.c, L.pieces, rfl, hb, R1, fun H1 R2 => ?_⟩
    refine ⟨x.q, _, _, rfl, rfl, R2.get 2 rfl, by rw [nls_len]; exact hb2.lt, ?_⟩
    have R3 := R2.put 2 (.lst (nls (L.parts ++ [(keepJoined .row fs L.pieces).2]))) rfl
    rw [← nls_app] at R3
    -- level.pieces = []
    refine ⟨Nat.zero_le _, fun t nt => ?_⟩
    have R4 := R3.add nt (.lst [])
    refine ⟨_, rfl, x.a, _, x.dx, _, rfl, R4.get 1 rfl, T.c_Level, T.n_Level_pieces, (by show 7 < 1000; decide), ?_⟩
    rw [lv_put_pieces t]
    have R5 := R4.put 1 (lvO c.lv { x with c := t } L) rfl
    -- level.groups_before_part = self.groups
    refine ⟨_, rfl, rd_f_groups T R5 ⟨_, rfl, x.a, _, x.dx, _, rfl, R5.get 1 rfl, T.c_Level, T.n_Level_groups_before_part, (by show 7 < 1000; decide), ?_⟩⟩
    have e : putF ("groups_before_part" : Str) (.int g) (lvFs { x with c := t } L) = lvFs { x with c := t } { L with gbp := g } := lv_put_groups_before_part g
    have R6 := R5.put 1 (lvO c.lv { x with c := t } { L with gbp := g }) rfl
    refine q _ { x with c := t } rfl ?_
    have R7 := R6.perm (M' := lvM c.lv { x with c := t } (endPartL g fs L).2 ++ M) ?_
    · have ee : HO.ins c.lv x.dx (putF ("groups_before_part" : Str) (.int g) (lvFs { x with c := t } L)) = lvO c.lv { x with c := t } { L with gbp := g } := by rw [e]; rfl
      show RS K c F0 (upd _ x.a (HO.ins c.lv x.dx (putF ("groups_before_part" : Str) (.int g) (lvFs { x with c := t } L)))) r p pl g _ lv _
      rw [ee]
      exact R7
    · show List.Perm ((t, HO.lst []) :: (x.a, lvO c.lv { x with c := t } { L with gbp := g }) :: (x.r, .lst (nls L.rows)) :: (x.q, .lst (nls L.parts ++ [V.int (keepJoined .row fs L.pieces).2])) :: M) _
      rw [nls_app]
      exact (List.perm_middle (l₁ := [(x.a, lvO c.lv { x with c := t } { L with gbp := g }), (x.r, HO.lst (nls L.rows)), (x.q, .lst (nls (L.parts ++ [(keepJoined .row fs L.pieces).2])))]) (l₂ := M) (a := (t, HO.lst []))).symm
end
end RM
/-! Part C6: rows and levels ended, levels made. -/
namespace RM
open PySem PySem.Spec PyProof.Rows L2 PF
theorem endPartL_parts {g : Nat} {fs : List Fm} {L : Lv} : (endPartL g fs L).2.parts.length = L.parts.length + 1 := by
  show (L.parts ++ _).length = _
  rw [List.length_append]; rfl
theorem keepJoined_len {kd : Kd} {fs : List Fm} : ∀ {js : List Nat}, (keepJoined kd fs js).1.length ≤ fs.length + 1
  | [] => by show (fs ++ _).length ≤ _; rw [List.length_append]; exact Nat.le_refl _
  | [_] => Nat.le_succ _
  | _ :: _ :: _ => by show (fs ++ _).length ≤ _; rw [List.length_append]; exact Nat.le_refl _
theorem putF_new {f : Str} {v : V} : ∀ {fs : List (Str × V)}, (fs.map (·.1)).contains f = false → putF f v fs = fs ++ [(f, v)]
  | [], _ => rfl
  | (g, x) :: fs, h => by
    rw [List.map_cons, List.contains_cons, Bool.or_eq_false_iff] at h
    have ne : ¬ g = f := fun z => by
      have := h.1
      rw [z, beq_self_eq_true] at this
      cases this
    rw [put_past ne, putF_new h.2]
    rfl
section
variable {P : Program} {w : World} {K : PySem.W.Frag} {mg : Str → Option Value} {base : Heap} {c : Cs} {fI : Addr}
theorem ok_endRow (T : Txt K mg c fI) : MOk P w K mg base CX0 6 c.rd "end_row" ["self", "level"] (spEndRow K c) := by
  obtain ⟨f, fd, m, F, b⟩ := T.t_Reader_end_row
  obtain ⟨_, _, M_Reader_keep_joined, G_Reader_keep_joined, B_Reader_keep_joined⟩ := ok_joined (P := P) (w := w) (base := base) T
  obtain ⟨_, _, M_Reader_end_part, G_Reader_end_part, B_Reader_end_part⟩ := ok_endPart (P := P) (w := w) (base := base) T
  refine ⟨f, fd, m, F.ok sc_Reader_end_row (fun vs H Q E h => ?_) (fun cdv A outer s H vs Q E hr h => ⟨_, pss_cons (ps_expr (pe_meth (pv 0) T.c_Reader M_Reader_end_part G_Reader_end_part (hr.mono (by decide)) B_Reader_end_part .nil pass0 (pa_cons (pv 1) pa_nil))) (pss_cons (ps_expr (pe_bm PySem.F.plainAttrs_list PySem.F.slot_list_append PySem.F.type_list_append mt_append (pe_fld (pv 1) rfl) (pa_cons (pe_meth (pv 0) T.c_Reader M_Reader_keep_joined G_Reader_keep_joined (hr.mono (by decide)) B_Reader_keep_joined .nil pass0 (pa_cons (pe_globS rfl T.g_BOTH) (pa_cons (pe_fld (pv 1) rfl) pa_nil))) pa_nil))) (pss_one (ps_fld (pv 1) (pe_lst pa_nil) rfl))), ?_⟩), b⟩
  · obtain ⟨_, r, _, _, _, _, _, _, _, _, rfl, _⟩ := h; rfl
  · obtain ⟨F0, r, p, pl, g, fs, lv, M, x, L, rfl, hb, hb2, hb3, R, q⟩ := h
    have hfs : Sz fs.length := Nat.lt_of_le_of_lt (Nat.le_succ _) hb
    refine ⟨_, rfl, rd_meth R (by decide +kernel) ⟨_, rfl, F0, r, p, pl, g, fs, lv, M, x, L, rfl, hfs, hb2, R, fun H1 y hy R1 => ?_⟩⟩
    rw [← hy]
    have hlen : (endPartL g fs L).1.length ≤ fs.length + 1 := keepJoined_len
    -- level.rows.append(self.keep_joined(BOTH, level.parts))
    refine ⟨_, rfl, obj_f (R1.get 0 rfl) T.c_Level T.n_Level_rows lv_rows ⟨.inl ⟨rfl, _, SqL.of (R1.get 1 rfl)⟩, _, rfl, rd_meth R1 (by decide +kernel) ⟨_, rfl, obj_f (R1.get 0 rfl) T.c_Level T.n_Level_parts lv_parts ?_⟩⟩⟩
    have R2 : RS K c F0 H1 r p pl g (endPartL g fs L).1 lv ((y.q, .lst (nls (endPartL g fs L).2.parts)) :: ([(y.a, lvO c.lv y (endPartL g fs L).2), (y.r, .lst (nls L.rows)), (y.c, .lst (nls []))] ++ M)) :=
      R1.perm (List.perm_middle (l₁ := [(y.a, lvO c.lv y (endPartL g fs L).2), (y.r, .lst (nls L.rows))]))
    refine ⟨F0, r, p, pl, g, _, lv, _, .both, y.q, _, rfl, Nat.lt_of_le_of_lt hlen hb, R2, fun H2 R3 => ?_⟩
    refine ⟨y.r, _, _, rfl, rfl, R3.get 1 rfl, by rw [nls_len]; exact hb3.lt, ?_⟩
    have R4 := R3.put 1 (.lst (nls (L.rows ++ [(keepJoined .both (endPartL g fs L).1 (endPartL g fs L).2.parts).2]))) rfl
    rw [← nls_app] at R4
    -- level.parts = []
    refine ⟨Nat.zero_le _, fun t nt => ?_⟩
    have R5 := R4.add nt (.lst [])
    refine ⟨_, rfl, y.a, _, y.dx, _, rfl, R5.get 1 rfl, T.c_Level, T.n_Level_parts, (by show 7 < 1000; decide), ?_⟩
    rw [lv_put_parts t]
    have R6 := R5.put 1 (lvO c.lv { y with q := t } (endPartL g fs L).2) rfl
    refine q _ { y with q := t } hy (R6.perm ?_)
    show List.Perm ((t, HO.lst []) :: (y.a, lvO c.lv { y with q := t } (endRowL g fs L).2) :: (y.r, .lst (nls L.rows ++ [V.int (keepJoined .both (endPartL g fs L).1 (endPartL g fs L).2.parts).2])) :: (y.c, .lst (nls [])) :: M) _
    rw [nls_app]
    exact (List.perm_middle (l₁ := [(y.a, lvO c.lv { y with q := t } (endRowL g fs L).2), (y.r, HO.lst (nls (L.rows ++ [(keepJoined .both (endPartL g fs L).1 (endPartL g fs L).2.parts).2])))]) (l₂ := (y.c, HO.lst (nls [])) :: M) (a := (t, HO.lst []))).symm
theorem endRowL_len {g : Nat} {fs : List Fm} {L : Lv} : (endRowL g fs L).1.length ≤ fs.length + 2 := by
  have h1 : (endPartL g fs L).1.length ≤ fs.length + 1 := keepJoined_len
  have h2 : (endRowL g fs L).1.length ≤ (endPartL g fs L).1.length + 1 := keepJoined_len
  omega
theorem ok_endLevel (T : Txt K mg c fI) : MOk P w K mg base CX0 7 c.rd "end_level" ["self", "level"] (spEndLevel K c) := by
  obtain ⟨f, fd, m, F, b⟩ := T.t_Reader_end_level
  obtain ⟨_, _, M_Reader_keep_joined, G_Reader_keep_joined, B_Reader_keep_joined⟩ := ok_joined (P := P) (w := w) (base := base) T
  obtain ⟨_, _, M_Reader_end_row, G_Reader_end_row, B_Reader_end_row⟩ := ok_endRow (P := P) (w := w) (base := base) T
  refine ⟨f, fd, m, F.ok sc_Reader_end_level (fun vs H Q E h => ?_) (fun cdv A outer s H vs Q E hr h => ⟨_, pss_cons (ps_expr (pe_meth (pv 0) T.c_Reader M_Reader_end_row G_Reader_end_row (hr.mono (by decide)) B_Reader_end_row .nil pass0 (pa_cons (pv 1) pa_nil))) (pss_one (ps_ret (pe_meth (pv 0) T.c_Reader M_Reader_keep_joined G_Reader_keep_joined (hr.mono (by decide)) B_Reader_keep_joined .nil pass0 (pa_cons (pe_globS rfl T.g_EITHER) (pa_cons (pe_fld (pv 1) rfl) pa_nil))))), ?_⟩), b⟩
  · obtain ⟨_, r, _, _, _, _, _, _, _, _, rfl, _⟩ := h; rfl
  · obtain ⟨F0, r, p, pl, g, fs, lv, M, x, L, rfl, hb, hb2, hb3, R, q⟩ := h
    have hfs : Sz (fs.length + 1) := Nat.lt_of_le_of_lt (Nat.le_succ _) hb
    refine ⟨_, rfl, rd_meth R (by decide +kernel) ⟨_, rfl, F0, r, p, pl, g, fs, lv, M, x, L, rfl, hfs, hb2, hb3, R, fun H1 y hy R1 => ?_⟩⟩
    rw [← hy]
    refine ⟨_, rfl, rd_meth R1 (by decide +kernel) ⟨_, rfl, obj_f (R1.get 0 rfl) T.c_Level T.n_Level_rows lv_rows ?_⟩⟩
    have R2 : RS K c F0 H1 r p pl g (endRowL g fs L).1 lv ((y.r, .lst (nls (endRowL g fs L).2.rows)) :: ([(y.a, lvO c.lv y (endRowL g fs L).2), (y.q, .lst (nls (endRowL g fs L).2.parts)), (y.c, .lst (nls (endRowL g fs L).2.pieces))] ++ M)) :=
      R1.perm (List.perm_middle (l₁ := [(y.a, lvO c.lv y (endRowL g fs L).2)]))
    refine ⟨F0, r, p, pl, g, _, lv, _, .either, y.r, _, rfl, Nat.lt_of_le_of_lt endRowL_len hb, R2, fun H2 R3 => ?_⟩
    have R4 : RS K c F0 H2 r p pl g (endLevelL g fs L).1 lv ((y.a, lvO c.lv y (endRowL g fs L).2) :: M) := by
      have z := R3.perm (M' := (y.q, .lst (nls (endRowL g fs L).2.parts)) :: (y.c, .lst (nls (endRowL g fs L).2.pieces)) :: (y.a, lvO c.lv y (endRowL g fs L).2) :: M) ((List.Perm.swap _ _ _).trans ((List.Perm.swap _ _ _).cons _))
      exact z.drop.drop
    exact q H2 y (endRowL g fs L).2 hy rfl (by rw [hy] at R4; exact R4)
theorem ok_bars (T : Txt K mg c fI) : MOk P w K mg base CX0 1 c.lv "bars_groups" ["self"] (spBars c) := by
  obtain ⟨f, fd, m, F, b⟩ := T.t_Level_bars_groups
  refine ⟨f, fd, m, F.ok sc_Level_bars_groups (fun vs H Q E h => ?_) (fun cdv A outer s H vs Q E hr h => ⟨_, pss_one (ps_ret (pe_or (pe_fld (pv 0) rfl) (pe_or (pe_fld (pv 0) rfl) (pe_one (pe_cmpR op_gt (pe_callB call_len_seq (by rfl) T.b_len PySem.boot_len (pa_cons (pe_fld (pv 0) rfl) pa_nil)) pe_int (nomark _)))))), ?_⟩), b⟩
  · obtain ⟨x, L, rfl, _⟩ := h; rfl
  · obtain ⟨x, L, rfl, h1, h2, q⟩ := h
    unfold Lv.bars at q
    refine ⟨_, rfl, obj_f h1 T.c_Level T.n_Level_shut lv_shut ⟨_, rfl, ?_⟩⟩
    cases e1 : L.shut with
    | true => rw [e1] at q; exact if_true_of rfl q
    | false =>
      rw [e1] at q
      refine if_false_of rfl ⟨_, rfl, obj_f h1 T.c_Level T.n_Level_turned lv_turned ⟨_, rfl, ?_⟩⟩
      cases e2 : L.turned with
      | true => rw [e2] at q; exact if_true_of rfl q
      | false =>
        rw [e2] at q
        refine if_false_of rfl ⟨_, rfl, obj_f h1 T.c_Level T.n_Level_parts lv_parts ⟨_, _, rfl, .inl (SqL.of h2), _, _, rfl, rfl, ?_⟩⟩
        have e : decide ((0 : Int) < ((nls L.parts).length : Nat)) = (false || (false || decide (0 < L.parts.length))) := by
          rw [nls_len, Bool.false_or, Bool.false_or]
          by_cases h : 0 < L.parts.length
          · rw [decide_eq_true h, decide_eq_true (by omega)]
          · rw [decide_eq_false h, decide_eq_false (by omega)]
        show Q (.bl (decide ((0 : Int) < ((nls L.parts).length : Nat)))) H
        rw [e]
        exact q
theorem ok_level (T : Txt K mg c fI) : IOk P w K mg base CX0 1 c.lv ["self", "shut", "groups", "group"] (spLevelInit c) := by
  obtain ⟨f, fd, m, F, b⟩ := T.t_Level_init
  refine ⟨f, fd, m, F.ok sc_Level_init (fun vs H Q E h => ?_) (fun cdv A outer s H vs Q E hr h => ⟨_, pss_cons (ps_fld (pv 0) (pe_lst pa_nil) rfl) (pss_cons (ps_fld (pv 0) (pe_lst pa_nil) rfl) (pss_cons (ps_fld (pv 0) (pe_lst pa_nil) rfl) (pss_cons (ps_fld (pv 0) pe_bl rfl) (pss_cons (ps_fld (pv 0) (pv 1) rfl) (pss_cons (ps_fld (pv 0) (pv 2) rfl) (pss_one (ps_fld (pv 0) (pv 3) rfl))))))), ?_⟩), b⟩
  · obtain ⟨_, _, x, dx, sh, g, k, rfl, _⟩ := h; rfl
  · obtain ⟨G, M, x, dx, sh, g, k, rfl, o, q⟩ := h
    -- self.rows = []
    refine ⟨Nat.zero_le _, fun t1 n1 => ?_⟩
    have o1 := o.add n1 (.lst [])
    refine ⟨_, rfl, x, _, dx, _, rfl, o1.get 1 rfl, T.c_Level, T.n_Level_rows, (by decide), ?_⟩
    rw [putF_new (by decide +kernel)]
    have o2 := o1.put 1 (.ins c.lv dx [("rows", .ref t1)]) rfl
    -- self.parts = []
    refine ⟨Nat.zero_le _, fun t2 n2 => ?_⟩
    have o3 := o2.add n2 (.lst [])
    refine ⟨_, rfl, x, _, dx, _, rfl, o3.get 2 rfl, T.c_Level, T.n_Level_parts, (by show 1 < 1000; decide), ?_⟩
    rw [putF_new (by show (["rows"] : List Str).contains "parts" = false; decide +kernel)]
    have o4 := o3.put 2 (.ins c.lv dx [("rows", .ref t1), ("parts", .ref t2)]) rfl
    -- self.pieces = []
    refine ⟨Nat.zero_le _, fun t3 n3 => ?_⟩
    have o5 := o4.add n3 (.lst [])
    refine ⟨_, rfl, x, _, dx, _, rfl, o5.get 3 rfl, T.c_Level, T.n_Level_pieces, (by show 2 < 1000; decide), ?_⟩
    rw [putF_new (by show (["rows", "parts"] : List Str).contains "pieces" = false; decide +kernel)]
    have o6 := o5.put 3 (.ins c.lv dx [("rows", .ref t1), ("parts", .ref t2), ("pieces", .ref t3)]) rfl
    -- self.turned = False
    refine ⟨_, rfl, x, _, dx, _, rfl, o6.get 3 rfl, T.c_Level, T.n_Level_turned, (by show 3 < 1000; decide), ?_⟩
    rw [putF_new (by show (["rows", "parts", "pieces"] : List Str).contains "turned" = false; decide +kernel)]
    have o7 := o6.put 3 (.ins c.lv dx [("rows", .ref t1), ("parts", .ref t2), ("pieces", .ref t3), ("turned", .bl false)]) rfl
    -- self.shut = shut
    refine ⟨_, rfl, _, rfl, x, _, dx, _, rfl, o7.get 3 rfl, T.c_Level, T.n_Level_shut, (by show 4 < 1000; decide), ?_⟩
    rw [putF_new (by show (["rows", "parts", "pieces", "turned"] : List Str).contains "shut" = false; decide +kernel)]
    have o8 := o7.put 3 (.ins c.lv dx [("rows", .ref t1), ("parts", .ref t2), ("pieces", .ref t3), ("turned", .bl false), ("shut", .bl sh)]) rfl
    -- self.groups_before_part = groups
    refine ⟨_, rfl, _, rfl, x, _, dx, _, rfl, o8.get 3 rfl, T.c_Level, T.n_Level_groups_before_part, (by show 5 < 1000; decide), ?_⟩
    rw [putF_new (by show (["rows", "parts", "pieces", "turned", "shut"] : List Str).contains "groups_before_part" = false; decide +kernel)]
    have o9 := o8.put 3 (.ins c.lv dx [("rows", .ref t1), ("parts", .ref t2), ("pieces", .ref t3), ("turned", .bl false), ("shut", .bl sh), ("groups_before_part", .int g)]) rfl
    -- self.group = group
    refine ⟨_, rfl, _, rfl, x, _, dx, _, rfl, o9.get 3 rfl, T.c_Level, T.n_Level_group, (by show 6 < 1000; decide), ?_⟩
    rw [putF_new (by show (["rows", "parts", "pieces", "turned", "shut", "groups_before_part"] : List Str).contains "group" = false; decide +kernel)]
    have oa := o9.put 3 (lvO c.lv ⟨x, dx, t1, t2, t3⟩ (Lv.new sh g k)) rfl
    refine q _ ⟨x, dx, t1, t2, t3⟩ rfl (oa.perm ?_)
    refine ((List.reverse_perm [(x, lvO c.lv ⟨x, dx, t1, t2, t3⟩ (Lv.new sh g k)), (t1, HO.lst []), (t2, .lst []), (t3, .lst [])]).append_right M)
end
end RM
/-! Part C7: bytes read: plain ones, those behind a backslash, those of sets. -/
namespace RM
open PySem PySem.Spec PyProof.Rows L2 PF
/-- a reader that gives a number -/
def spVal (K : PySem.W.Frag) (c : Cs) (mir : List Nat → Nat → Except Flt (Nat × Nat)) : Sp := fun vs H Q E => ∃ F r p pl g fs lv M, vs = [.ref r] ∧ RS K c F H r p pl g fs lv M ∧
  (∀ e, mir p pl = .error e → FltE c F E e) ∧ (∀ v j, mir p pl = .ok (v, j) → ∀ H', RS K c F H' r p j g fs lv M → Q (.int v) H')
def spPlain (K : PySem.W.Frag) (c : Cs) : Sp := fun vs H Q E => ∃ F r p pl g fs lv M z, vs = [.ref r, .str z] ∧ z.cps.size ≤ 100 ∧ RS K c F H r p pl g fs lv M ∧
  (∀ e, readPlain (codes z) p pl = .error e → FltE c F E e) ∧ (∀ v j, readPlain (codes z) p pl = .ok (v, j) → ∀ H', RS K c F H' r p j g fs lv M → Q (.int v) H')
section
variable {P : Program} {w : World} {K : PySem.W.Frag} {mg : Str → Option Value} {base : Heap} {c : Cs} {fI : Addr}
theorem ok_plain (T : Txt K mg c fI) : MOk P w K mg base (L2.CX P w) 3 c.rd "read_plain" ["self", "barred"] (spPlain K c) := by
  obtain ⟨f, fd, m, F, b⟩ := T.t_Reader_read_plain
  obtain ⟨_, _, M_Reader_now, G_Reader_now, B_Reader_now⟩ := ok_now (P := P) (w := w) (base := base) T
  obtain ⟨_, _, g_is_printed, k_is_printed, G_is_printed, B_is_printed⟩ := ok_printed (P := P) (w := w) (base := base) T
  obtain ⟨_, _, g_among, k_among, G_among, B_among⟩ := ok_among (P := P) (w := w) (base := base) T
  refine ⟨f, fd, m, F.okX sc_Reader_read_plain (fun vs H Q E h => ?_) (fun cdv A outer s H vs Q E hr h => ⟨_, pss_cons (ps_set (i := 2) sc_Reader_read_plain.nd rfl (Or.inl rfl) (pe_meth0 (pv 0) T.c_Reader M_Reader_now G_Reader_now (hr.mono (by decide)) B_Reader_now .nil pass0)) (pss_cons (ps_if (PW.pt (pw_or (pt_not (pt_val (pe_call G_is_printed (hr.mono (by decide)) rfl g_is_printed k_is_printed B_is_printed .nil pass0 (pa_cons (pv 2) pa_nil)))) (pw_or1 (pt_val (pe_call G_among (hr.mono (by decide)) rfl g_among k_among B_among .nil pass0 (pa_cons (pv 2) (pa_cons (pv 1) pa_nil))))))) (pss_one (ps_raiseFlt rfl T.flt hr (takes_of rfl rfl rfl rfl) (pa_cons (pe_globI rfl T.g_CANNOT_STAND) (pa_cons (pe_fld (pv 0) rfl) pa_nil)))) pss_nil) (pss_cons (ps_fldaug (pv 0) pe_int in_add) (pss_one (ps_ret (pv 2))))), ?_⟩), b⟩
  · obtain ⟨_, r, _, _, _, _, _, _, _, rfl, _⟩ := h; rfl
  · obtain ⟨F0, r, p, pl, g, fs, lv, M, z, rfl, hz, R, q1, q2⟩ := h
    refine ⟨_, rfl, rd_meth R (by decide +kernel) ⟨F0, r, p, pl, g, fs, lv, M, rfl, R, ?_⟩⟩
    refine ⟨_, rfl, _, rfl, _, rfl, ?_⟩
    have bad : ¬ (printed (now p pl) = true ∧ (codes z).contains (now p pl) = false) → ∀ H1, RS K c F0 H1 r p pl g fs lv M → ∀ d, H1 d = none → E (.ref c.fl) (some d) (upd H1 d (.xd (flt (.int (1 : Nat)) (.int pl)))) := fun h H1 R1 d nd =>
      (q1 (1, pl) (if_neg h)).at_ R1.stands nd
    cases e1 : printed (now p pl) with
    | false =>
      refine if_true_of rfl (if_true_of rfl ?_)
      exact ⟨_, rfl, rd_f_place T R ⟨_, _, rfl, fun d nd => bad (fun z => by rw [e1] at z; cases z.1) H R d nd⟩⟩
    | true =>
      refine if_false_of rfl ⟨_, rfl, _, rfl, _, z, rfl, hz, fun H1 s1 => ⟨_, rfl, ?_⟩⟩
      have R1 := R.same s1
      cases e2 : (codes z).contains (now p pl) with
      | true =>
        refine if_true_of rfl ?_
        exact ⟨_, rfl, rd_f_place T R1 ⟨_, _, rfl, fun d nd => bad (fun z => by rw [e2] at z; cases z.2) H1 R1 d nd⟩⟩
      | false =>
        refine if_false_of rfl ?_
        refine rd_inc T R1 (by rfl) fun H2 R2 => ?_
        exact ⟨_, rfl, q2 _ _ (if_pos ⟨e1, e2⟩) H2 R2⟩
theorem hex_test {z : Str} {k : Nat} (h : one z k) : z.length = 1 ∧ (z.cps.getD 0 0) = k := h
theorem ok_hex (T : Txt K mg c fI) : MOk P w K mg base (L2.CX P w) 3 c.rd "read_hex" ["self"] (spVal K c readHex) := by
  obtain ⟨f, fd, m, F, b⟩ := T.t_Reader_read_hex
  obtain ⟨_, _, M_Reader_now, G_Reader_now, B_Reader_now⟩ := ok_now (P := P) (w := w) (base := base) T
  refine ⟨f, fd, m, F.okX sc_Reader_read_hex (fun vs H Q E h => ?_) (fun cdv A outer s H vs Q E hr h => ⟨_, pss_cons (ps_set (i := 1) sc_Reader_read_hex.nd rfl (Or.inl rfl) (pe_meth0 (pv 0) T.c_Reader M_Reader_now G_Reader_now (hr.mono (by decide)) B_Reader_now .nil pass0)) (pss_cons (ps_for (passes_of rfl) rfl (pi_tup (pe_tup (pa_cons (pe_tup (pa_cons pe_str (pa_cons pe_str (pa_cons pe_int pa_nil)))) (pa_cons (pe_tup (pa_cons pe_str (pa_cons pe_str (pa_cons pe_int pa_nil)))) (pa_cons (pe_tup (pa_cons pe_str (pa_cons pe_str (pa_cons pe_int pa_nil)))) pa_nil))))) (pg_tup (by rfl) (pgs_cons (pg_name (i := 2) sc_Reader_read_hex.nd rfl (Or.inl rfl)) (pgs_cons (pg_name (i := 3) sc_Reader_read_hex.nd rfl (Or.inl rfl)) (pgs_cons (pg_name (i := 4) sc_Reader_read_hex.nd rfl (Or.inl rfl)) pgs_nil)))) (pss_one (ps_if (pt_chain op_le op_le (pe_callB call_ord (by rfl) T.b_ord (by decide +kernel) (pa_cons (pv 2) pa_nil)) (pv 1) (pe_callB call_ord (by rfl) T.b_ord (by decide +kernel) (pa_cons (pv 3) pa_nil))) (pss_cons (ps_fldaug (pv 0) pe_int in_add) (pss_one (ps_ret (pe_op op_sub (pe_op op_add (pv 4) (pv 1)) (pe_callB call_ord (by rfl) T.b_ord (by decide +kernel) (pa_cons (pv 2) pa_nil)))))) pss_nil))) (pss_one (ps_raiseFlt rfl T.flt hr (takes_of rfl rfl rfl rfl) (pa_cons (pe_globI rfl T.g_CANNOT_STAND) (pa_cons (pe_fld (pv 0) rfl) pa_nil))))), ?_⟩), b⟩
  · obtain ⟨_, r, _, _, _, _, _, _, rfl, _⟩ := h; rfl
  · obtain ⟨F0, r, p, pl, g, fs, lv, M, rfl, R, q1, q2⟩ := h
    refine ⟨_, rfl, rd_meth R (by decide +kernel) ⟨F0, r, p, pl, g, fs, lv, M, rfl, R, ?_⟩⟩
    have three : (3 : Nat) ≤ sizeLine := by decide
    refine ⟨three, fun t1 n1 => ⟨three, fun t2 n2 => ⟨three, fun t3 n3 => ⟨three, fun t4 n4 => ?_⟩⟩⟩⟩
    -- the heap of the loop
    generalize hH1 : upd H t1 (.tup [.str "0", .str "9", .int 0]) = H1 at n2 n3 n4 ⊢
    generalize hH2 : upd H1 t2 (.tup [.str "A", .str "F", .int 10]) = H2 at n3 n4 ⊢
    generalize hH3 : upd H2 t3 (.tup [.str "a", .str "f", .int 10]) = H3 at n4 ⊢
    generalize hH4 : upd H3 t4 (.tup [.ref t1, .ref t2, .ref t3]) = H4
    have s1 : Same H H1 := by rw [← hH1]; exact same_upd n1
    have s2 : Same H1 H2 := by rw [← hH2]; exact same_upd n2
    have s3 : Same H2 H3 := by rw [← hH3]; exact same_upd n3
    have s4 : Same H3 H4 := by rw [← hH4]; exact same_upd n4
    have R4 : RS K c F0 H4 r p pl g fs lv M := R.same (s1.trans (s2.trans (s3.trans s4)))
    have e1 : H4 t1 = some (.tup [.str "0", .str "9", .int 0]) := s4 _ _ (s3 _ _ (s2 _ _ (by rw [← hH1]; exact upd_same)))
    have e2 : H4 t2 = some (.tup [.str "A", .str "F", .int 10]) := s4 _ _ (s3 _ _ (by rw [← hH2]; exact upd_same))
    have e3 : H4 t3 = some (.tup [.str "a", .str "f", .int 10]) := s4 _ _ (by rw [← hH3]; exact upd_same)
    have e4 : H4 t4 = some (.tup [.ref t1, .ref t2, .ref t3]) := by rw [← hH4]; exact upd_same
    refine ⟨t4, rfl, ⟨_, SqT.of e4⟩, for_tup (K := K) (a := t4) (xs := [.ref t1, .ref t2, .ref t3])
      (fun i σ H' => H' = H4 ∧ (∃ x y z, σ = [some (.ref r), some (.int (now p pl)), x, y, z]) ∧ (0 < i → ¬ (48 ≤ now p pl ∧ now p pl ≤ 57)) ∧ (1 < i → ¬ (65 ≤ now p pl ∧ now p pl ≤ 70)) ∧ (2 < i → ¬ (97 ≤ now p pl ∧ now p pl ≤ 102)))
      ⟨rfl, ⟨none, none, none, rfl⟩, fun h => absurd h (Nat.lt_irrefl _), fun h => absurd h (by decide), fun h => absurd h (by decide)⟩ (fun i σ H' _ h => by rw [h.1]; exact SqT.of e4) ?_ ?_⟩
    · -- a turn
      have turn : ∀ (t : Addr) (z1 z2 : Str) (v lo hi : Nat) (σ : L2.St) (Pn : L2.St → Hp → Prop) (D : Ends), D.rt = Q → H4 t = some (.tup [.str z1, .str z2, .int v]) → one z1 lo → one z2 hi → (∃ x y z, σ = [some (.ref r), some (.int (now p pl)), x, y, z]) →
          (lo ≤ now p pl ∧ now p pl ≤ hi → hexv (now p pl) = some (v + now p pl - lo)) → (∀ σ', (∃ x y z, σ' = [some (.ref r), some (.int (now p pl)), x, y, z]) → ¬ (lo ≤ now p pl ∧ now p pl ≤ hi) → Pn σ' H4) → D.nx = Pn →
          gTup K 3 (gCons (gName 2) (gCons (gName 3) (gCons (gName 4) gNil))) (.ref t) σ H4 fun σ2 H2 =>
            tIfS (tTest (tChain (rI0 fun i j => .bl (decide (i ≤ j))) (rI0 fun i j => .bl (decide (i ≤ j))) (tCB (fun xs H Q => ∃ x, xs = [V.str x] ∧ x.length = 1 ∧ Q (V.int (x.cps.getD 0 0 : Nat)) H) (tCons (tVar 2) tNil)) (tVar 1) (tCB (fun xs H Q => ∃ x, xs = [V.str x] ∧ x.length = 1 ∧ Q (V.int (x.cps.getD 0 0 : Nat)) H) (tCons (tVar 3) tNil))))
              (tSeq (sFldAug K (tVar 0) (tC (.int 1)) rAdd "place") (tRet (tOp (rI0 fun i j => .int (i - j)) (tOp (rI0 fun i j => .int (i + j)) (tVar 4) (tVar 1)) (tCB (fun xs H Q => ∃ x, xs = [V.str x] ∧ x.length = 1 ∧ Q (V.int (x.cps.getD 0 0 : Nat)) H) (tCons (tVar 2) tNil)))))
              tNext D σ2 H2 := by
        intro t z1 z2 v lo hi σ Pn D hD ht o1 o2 hσ hv hP hn
        obtain ⟨x, y, z, rfl⟩ := hσ
        refine ⟨t, _, rfl, SqT.of ht, rfl, _, _, rfl, _, _, rfl, _, _, rfl, rfl, ?_⟩
        refine ⟨_, rfl, _, rfl, o1.1, _, rfl, _, _, rfl, rfl, _, rfl, ?_⟩
        rw [o1.2]
        by_cases c1 : lo ≤ now p pl
        · refine if_true_of (decide_eq_true (by omega)) ⟨_, rfl, _, rfl, o2.1, _, _, rfl, rfl, _, rfl, ?_⟩
          rw [o2.2]
          by_cases c2 : now p pl ≤ hi
          · refine if_true_of (decide_eq_true (by omega)) ?_
            refine rd_inc T R4 (by rfl) fun H5 R5 => ?_
            refine ⟨_, rfl, _, rfl, _, _, rfl, rfl, _, rfl, _, rfl, o1.1, _, _, rfl, rfl, ?_⟩
            rw [hD, o1.2]
            have hh := hv ⟨c1, c2⟩
            have hm : readHex p pl = .ok (v + now p pl - lo, pl + 1) := by unfold readHex; rw [hh]
            have q := q2 _ _ hm H5 R5
            have e : ((v + now p pl - lo : Nat) : Int) = (v : Int) + (now p pl : Int) - (lo : Int) := by omega
            rw [e] at q
            exact q
          · refine if_false_of (decide_eq_false (by omega)) ?_
            show D.nx _ _
            rw [hn]
            exact hP _ ⟨_, _, _, rfl⟩ (fun h => c2 h.2)
        · refine if_false_of (decide_eq_false (by omega)) ⟨_, rfl, ?_⟩
          refine if_false_of rfl ?_
          show D.nx _ _
          rw [hn]
          exact hP _ ⟨_, _, _, rfl⟩ (fun h => c1 h.1)
      rintro i x σ H' hx ⟨rfl, hσ, h1, h2, h3⟩
      match i, hx with
      | 0, hx =>
        cases hx
        exact turn t1 "0" "9" 0 48 57 σ _ _ rfl e1 ⟨by decide +kernel, by decide +kernel⟩ ⟨by decide +kernel, by decide +kernel⟩ hσ (fun h => by unfold hexv; rw [if_pos h, Nat.zero_add])
          (fun σ' h4 h5 => ⟨rfl, h4, fun _ => h5, fun h => absurd h (by decide), fun h => absurd h (by decide)⟩) rfl
      | 1, hx =>
        cases hx
        exact turn t2 "A" "F" 10 65 70 σ _ _ rfl e2 ⟨by decide +kernel, by decide +kernel⟩ ⟨by decide +kernel, by decide +kernel⟩ hσ (fun h => by unfold hexv; rw [if_neg (h1 (by decide)), if_pos h])
          (fun σ' h4 h5 => ⟨rfl, h4, fun _ => h1 (by decide), fun _ => h5, fun h => absurd h (by decide)⟩) rfl
      | 2, hx =>
        cases hx
        exact turn t3 "a" "f" 10 97 102 σ _ _ rfl e3 ⟨by decide +kernel, by decide +kernel⟩ ⟨by decide +kernel, by decide +kernel⟩ hσ (fun h => by unfold hexv; rw [if_neg (h1 (by decide)), if_neg (h2 (by decide)), if_pos h])
          (fun σ' h4 h5 => ⟨rfl, h4, fun _ => h1 (by decide), fun _ => h2 (by decide), fun _ => h5⟩) rfl
      | _ + 3, hx => cases hx
    · rintro σ H' ⟨rfl, ⟨x, y, z, rfl⟩, h1, h2, h3⟩
      refine ⟨_, rfl, rd_f_place T R4 ⟨_, _, rfl, fun d nd => (q1 (1, pl) ?_).at_ R4.stands nd⟩⟩
      unfold readHex hexv
      rw [if_neg (h1 (by show 0 < 3; decide)), if_neg (h2 (by show 1 < 3; decide)), if_neg (h3 (by show 2 < 3; decide))]
end
end RM
/-! Part C8: bytes behind a backslash, of sets; items, sets. -/
namespace RM
open PySem PySem.Spec PyProof.Rows L2 PF
/-- self.passes(sign), both ways -/
theorem rd_passes {K : PySem.W.Frag} {c : Cs} {F H : Hp} {r : Addr} {p : List Nat} {pl g : Nat} {fs : List Fm} {lv : List Addr} {M : Mem} {z : Str} {k : Nat} {Q : VK} {E : XK} {σ : L2.St} (R : RS K c F H r p pl g fs lv M) (hz : one z k)
    (h1 : now p pl = k → ∀ H', RS K c F H' r p (pl + 1) g fs lv M → Q (.bl true) H') (h2 : now p pl ≠ k → Q (.bl false) H) :
    ∃ a dx fs, V.ref r = .ref a ∧ H a = some (.ins c.rd dx fs) ∧ fs.lookup ("passes" : Str) = none ∧ tCons (tC (.str z)) tNil σ H fun vs H2 => spPasses K c (.ref r :: (vs ++ [])) H2 Q E :=
  rd_meth R (by decide +kernel) ⟨F, r, p, pl, g, fs, lv, M, z, k, rfl, hz, R, h1, h2⟩
section
variable {P : Program} {w : World} {K : PySem.W.Frag} {mg : Str → Option Value} {base : Heap} {c : Cs} {fI : Addr}
theorem codes_specials : codes "\\|&~*+?{}.^$()[]-:" = specials := by decide +kernel
theorem codes_notPlain : codes "\\|&~*+?{}.^$()[]" = notPlain := by decide +kernel
theorem codes_notPlainSet : codes "]-^" = notPlainSet := by decide +kernel
theorem codes_notAtoms : codes "~|&)" = notAtoms := by decide +kernel
theorem ok_escaped (T : Txt K mg c fI) : MOk P w K mg base (L2.CX P w) 4 c.rd "read_escaped" ["self"] (spVal K c readEscaped) := by
  obtain ⟨f, fd, m, F, b⟩ := T.t_Reader_read_escaped
  obtain ⟨_, _, M_Reader_now, G_Reader_now, B_Reader_now⟩ := ok_now (P := P) (w := w) (base := base) T
  obtain ⟨_, _, M_Reader_passes, G_Reader_passes, B_Reader_passes⟩ := ok_passes (P := P) (w := w) (base := base) T
  obtain ⟨_, _, M_Reader_read_hex, G_Reader_read_hex, B_Reader_read_hex⟩ := ok_hex (P := P) (w := w) (base := base) T
  obtain ⟨_, _, g_among, k_among, G_among, B_among⟩ := ok_among (P := P) (w := w) (base := base) T
  refine ⟨f, fd, m, F.okX sc_Reader_read_escaped (fun vs H Q E h => ?_) (fun cdv A outer s H vs Q E hr h => ⟨_, pss_cons (ps_if (pt_val (pe_meth (pv 0) T.c_Reader M_Reader_passes G_Reader_passes (hr.mono (by decide)) B_Reader_passes .nil pass0 (pa_cons pe_str pa_nil))) (pss_one (ps_ret (pe_callB call_ord (by rfl) T.b_ord (by decide +kernel) (pa_cons pe_str pa_nil)))) pss_nil) (pss_cons (ps_if (pt_val (pe_meth (pv 0) T.c_Reader M_Reader_passes G_Reader_passes (hr.mono (by decide)) B_Reader_passes .nil pass0 (pa_cons pe_str pa_nil))) (pss_one (ps_ret (pe_callB call_ord (by rfl) T.b_ord (by decide +kernel) (pa_cons pe_str pa_nil)))) pss_nil) (pss_cons (ps_if (pt_val (pe_meth (pv 0) T.c_Reader M_Reader_passes G_Reader_passes (hr.mono (by decide)) B_Reader_passes .nil pass0 (pa_cons pe_str pa_nil))) (pss_cons (ps_set (i := 1) sc_Reader_read_escaped.nd rfl (Or.inl rfl) (pe_meth0 (pv 0) T.c_Reader M_Reader_read_hex G_Reader_read_hex (hr.mono (by decide)) B_Reader_read_hex .nil (passes_call (takes_of rfl rfl rfl rfl) fun _ _ _ _ z => z))) (pss_one (ps_ret (pe_op op_add (pe_op op_mul pe_int (pv 1)) (pe_meth0 (pv 0) T.c_Reader M_Reader_read_hex G_Reader_read_hex (hr.mono (by decide)) B_Reader_read_hex .nil (passes_call (takes_of rfl rfl rfl rfl) fun _ _ _ _ z => z)))))) pss_nil) (pss_cons (ps_set (i := 2) sc_Reader_read_escaped.nd rfl (Or.inl rfl) (pe_meth0 (pv 0) T.c_Reader M_Reader_now G_Reader_now (hr.mono (by decide)) B_Reader_now .nil pass0)) (pss_cons (ps_if (pt_not (pt_val (pe_call G_among (hr.mono (by decide)) rfl g_among k_among B_among .nil pass0 (pa_cons (pv 2) (pa_cons (pe_globS rfl T.g_SPECIALS) pa_nil))))) (pss_one (ps_raiseFlt rfl T.flt hr (takes_of rfl rfl rfl rfl) (pa_cons (pe_globI rfl T.g_CANNOT_STAND) (pa_cons (pe_fld (pv 0) rfl) pa_nil)))) pss_nil) (pss_cons (ps_fldaug (pv 0) pe_int in_add) (pss_one (ps_ret (pv 2)))))))), ?_⟩), b⟩
  · obtain ⟨_, r, _, _, _, _, _, _, rfl, _⟩ := h; rfl
  · obtain ⟨F0, r, p, pl, g, fs, lv, M, rfl, R, q1, q2⟩ := h
    unfold readEscaped at q1 q2
    -- n
    refine ⟨_, rfl, rd_passes R (k := 110) ⟨by decide +kernel, by decide +kernel⟩ (fun e H' R' => ⟨_, rfl, ?_⟩) fun c1 => ⟨_, rfl, ?_⟩⟩
    · exact if_true_of rfl ⟨_, rfl, by decide +kernel, q2 10 (pl + 1) (if_pos e) H' R'⟩
    rw [if_neg c1] at q1
    have q2 := fun v j h => q2 v j ((if_neg c1).trans h)
    refine if_false_of rfl ?_
    -- t
    refine ⟨_, rfl, rd_passes R (k := 116) ⟨by decide +kernel, by decide +kernel⟩ (fun e H' R' => ⟨_, rfl, ?_⟩) fun c2 => ⟨_, rfl, ?_⟩⟩
    · exact if_true_of rfl ⟨_, rfl, by decide +kernel, q2 9 (pl + 1) (if_pos e) H' R'⟩
    rw [if_neg c2] at q1
    have q2 := fun v j h => q2 v j ((if_neg c2).trans h)
    refine if_false_of rfl ?_
    -- x
    refine ⟨_, rfl, rd_passes R (k := 120) ⟨by decide +kernel, by decide +kernel⟩ (fun e H' R' => ⟨_, rfl, ?_⟩) fun c3 => ⟨_, rfl, ?_⟩⟩
    · refine if_true_of rfl ?_
      rw [if_pos e] at q1
      have q2 := fun v j h => q2 v j ((if_pos e).trans h)
      unfold readHex2 at q1 q2
      refine ⟨_, rfl, rd_meth R' (by decide +kernel) ⟨F0, r, p, pl + 1, g, fs, lv, M, rfl, R', fun e h => q1 e (by rw [h]), fun u j h1 H2 R2 => ?_⟩⟩
      refine ⟨_, rfl, _, _, rfl, rfl, .inl (by decide), _, rfl, rd_meth R2 (by decide +kernel) ⟨F0, r, p, j, g, fs, lv, M, rfl, R2, fun e h => q1 e (by rw [h1]; dsimp only; rw [h]), fun l k h2 H3 R3 => ?_⟩⟩
      refine ⟨_, _, rfl, rfl, ?_⟩
      exact q2 (16 * u + l) k (by rw [h1]; dsimp only; rw [h2]) H3 R3
    rw [if_neg c3] at q1
    have q2 := fun v j h => q2 v j ((if_neg c3).trans h)
    refine if_false_of rfl ?_
    -- a special
    refine ⟨_, rfl, rd_meth R (by decide +kernel) ⟨F0, r, p, pl, g, fs, lv, M, rfl, R, ?_⟩⟩
    refine ⟨_, rfl, _, _, rfl, (by decide +kernel), fun H1 s1 => ⟨_, rfl, ?_⟩⟩
    have R1 := R.same s1
    rw [codes_specials]
    cases e2 : specials.contains (now p pl) with
    | false =>
      refine if_true_of rfl ?_
      refine ⟨_, rfl, rd_f_place T R1 ⟨_, _, rfl, fun d nd => (q1 (1, pl) (if_neg (by rw [e2]; exact Bool.false_ne_true))).at_ R1.stands nd⟩⟩
    | true =>
      refine if_false_of rfl ?_
      refine rd_inc T R1 (by rfl) fun H2 R2 => ?_
      exact ⟨_, rfl, q2 _ _ (if_pos e2) H2 R2⟩
theorem ok_setByte (T : Txt K mg c fI) : MOk P w K mg base (L2.CX P w) 5 c.rd "read_set_byte" ["self"] (spVal K c readSetByte) := by
  obtain ⟨f, fd, m, F, b⟩ := T.t_Reader_read_set_byte
  obtain ⟨_, _, M_Reader_passes, G_Reader_passes, B_Reader_passes⟩ := ok_passes (P := P) (w := w) (base := base) T
  obtain ⟨_, _, M_Reader_read_escaped, G_Reader_read_escaped, B_Reader_read_escaped⟩ := ok_escaped (P := P) (w := w) (base := base) T
  obtain ⟨_, _, M_Reader_read_plain, G_Reader_read_plain, B_Reader_read_plain⟩ := ok_plain (P := P) (w := w) (base := base) T
  refine ⟨f, fd, m, F.okX sc_Reader_read_set_byte (fun vs H Q E h => ?_) (fun cdv A outer s H vs Q E hr h => ⟨_, pss_cons (ps_if (pt_val (pe_meth (pv 0) T.c_Reader M_Reader_passes G_Reader_passes (hr.mono (by decide)) B_Reader_passes .nil pass0 (pa_cons pe_str pa_nil))) (pss_one (ps_ret (pe_meth0 (pv 0) T.c_Reader M_Reader_read_escaped G_Reader_read_escaped (hr.mono (by decide)) B_Reader_read_escaped .nil (passes_call (takes_of rfl rfl rfl rfl) fun _ _ _ _ z => z)))) pss_nil) (pss_one (ps_ret (pe_meth (pv 0) T.c_Reader M_Reader_read_plain G_Reader_read_plain (hr.mono (by decide)) B_Reader_read_plain .nil (passes_call (takes_of rfl rfl rfl rfl) fun _ _ _ _ z => z) (pa_cons (pe_globS rfl T.g_NOT_PLAIN_IN_SET) pa_nil)))), ?_⟩), b⟩
  · obtain ⟨_, r, _, _, _, _, _, _, rfl, _⟩ := h; rfl
  · obtain ⟨F0, r, p, pl, g, fs, lv, M, rfl, R, q1, q2⟩ := h
    unfold readSetByte at q1 q2
    refine ⟨_, rfl, rd_passes R (k := 92) ⟨by decide +kernel, by decide +kernel⟩ (fun e H' R' => ⟨_, rfl, ?_⟩) fun c1 => ⟨_, rfl, ?_⟩⟩
    · refine if_true_of rfl ⟨_, rfl, rd_meth R' (by decide +kernel) ⟨F0, r, p, pl + 1, g, fs, lv, M, rfl, R', fun e' h => q1 e' ((if_pos e).trans h), fun v j h H2 R2 => q2 v j ((if_pos e).trans h) H2 R2⟩⟩
    · refine if_false_of rfl ⟨_, rfl, rd_meth R (by decide +kernel) ⟨F0, r, p, pl, g, fs, lv, M, _, rfl, by decide +kernel, R, fun e' h => q1 e' ((if_neg c1).trans ?_), fun v j h H2 R2 => q2 v j ((if_neg c1).trans ?_) H2 R2⟩⟩
      · rw [codes_notPlainSet] at h; exact h
      · rw [codes_notPlainSet] at h; exact h
end
end RM
/-! Part C9: items and sets. -/
namespace RM
open PySem PySem.Spec PyProof.Rows L2 PF
theorem hexv_lt {n v : Nat} (h : hexv n = some v) : v < 16 := by
  unfold hexv at h
  split at h
  · cases h; omega
  · split at h
    · cases h; omega
    · split at h
      · cases h; omega
      · cases h
theorem readHex_val {p : List Nat} {i v j : Nat} (h : readHex p i = .ok (v, j)) : v < 16 := by
  unfold readHex at h
  cases e : hexv (now p i) with
  | none => rw [e] at h; cases h
  | some u => rw [e] at h; cases h; exact hexv_lt e
theorem specials_lt {n : Nat} (h : specials.contains n = true) : n < 256 := by
  have m : n ∈ specials := List.contains_iff_mem.mp h
  have all : ∀ x ∈ specials, x < 256 := by decide
  exact all n m
theorem readEscaped_val {p : List Nat} {i v j : Nat} (h : readEscaped p i = .ok (v, j)) : v < 256 := by
  unfold readEscaped at h
  split at h
  · cases h; decide
  split at h
  · cases h; decide
  split at h
  · unfold readHex2 at h
    cases e : readHex p (i + 1) with
    | error _ => rw [e] at h; cases h
    | ok x =>
      obtain ⟨u, k⟩ := x
      rw [e] at h
      dsimp only at h
      cases e2 : readHex p k with
      | error _ => rw [e2] at h; cases h
      | ok y =>
        obtain ⟨l, m⟩ := y
        rw [e2] at h
        cases h
        have := readHex_val e
        have := readHex_val e2
        omega
  split at h
  · rename_i hc; cases h; exact specials_lt hc
  · cases h
theorem readPlain_val {b p : List Nat} {i v j : Nat} (h : readPlain b p i = .ok (v, j)) : v < 256 := by
  unfold readPlain at h
  split at h
  · rename_i hc
    cases h
    have := hc.1
    unfold printed at this
    rw [Bool.and_eq_true, decide_eq_true_eq, decide_eq_true_eq] at this
    omega
  · cases h
theorem readSetByte_val {p : List Nat} {i v j : Nat} (h : readSetByte p i = .ok (v, j)) : v < 256 := by
  unfold readSetByte at h
  split at h
  · exact readEscaped_val h
  · exact readPlain_val h
theorem memOf_len {f : Nat → Bool} : (memOf f).length = 256 := by unfold memOf; rw [List.length_map, List.length_range]
theorem memOf_at {f : Nat → Bool} {i : Nat} (h : i < (memOf f).length) : (memOf f)[i] = f i := by
  have e := memOf_get (f := f) (c := i) (by rw [memOf_len] at h; exact h)
  rw [List.getElem?_eq_getElem h] at e
  exact Option.some.inj e
theorem memOf_congr {f g : Nat → Bool} (h : ∀ c, c < 256 → f c = g c) : memOf f = memOf g := by
  unfold memOf
  exact List.map_congr_left fun c hc => h c (List.mem_range.mp hc)
theorem memOf_set {f : Nat → Bool} (j : Nat) : (memOf f).set j true = memOf fun c => f c || decide (c = j) := by
  refine List.ext_getElem (by rw [List.length_set, memOf_len, memOf_len]) fun i h1 h2 => ?_
  rw [List.getElem_set, memOf_at h2]
  by_cases c : j = i
  · rw [if_pos c, decide_eq_true c.symm, Bool.or_true]
  · rw [if_neg c, memOf_at, decide_eq_false (fun z => c z.symm), Bool.or_false]
theorem bls_len (l : List Bool) : (bls l).length = l.length := by unfold bls; rw [List.length_map]
theorem bls_set (l : List Bool) (j : Nat) (b : Bool) : (bls l).set j (.bl b) = bls (l.set j b) := by unfold bls; rw [List.map_set]
def cov (l : List (Nat × Nat)) (c : Nat) : Bool := l.any fun x => decide (x.1 ≤ c) && decide (c ≤ x.2)
def spItem (K : PySem.W.Frag) (c : Cs) : Sp := fun vs H Q E => ∃ F r p pl g fs lv M ma fn, vs = [.ref r, .ref ma] ∧ RS K c F H r p pl g fs lv ((ma, .lst (bls (memOf fn))) :: M) ∧
  (∀ e, readItem p pl = .error e → FltE c F E e) ∧ (∀ x j, readItem p pl = .ok (x, j) → ∀ H', RS K c F H' r p j g fs lv ((ma, .lst (bls (memOf fun b => fn b || (decide (x.1 ≤ b) && decide (b ≤ x.2))))) :: M) → Q .non H')
def spSet (K : PySem.W.Frag) (c : Cs) : Sp := fun vs H Q E => ∃ F r p pl g fs lv M, vs = [.ref r] ∧ RS K c F H r p pl g fs lv M ∧
  (∀ e, readSet p pl = .error e → FltE c F E e) ∧ (∀ x j, readSet p pl = .ok (x, j) → ∀ H' ta, RS K c F H' r p j g fs lv ((ta, .lst (bls (memOf (inSetN x.1 x.2)))) :: M) → Q (.ref ta) H')
section
variable {P : Program} {w : World} {K : PySem.W.Frag} {mg : Str → Option Value} {base : Heap} {c : Cs} {fI : Addr}
theorem ok_item (T : Txt K mg c fI) : MOk P w K mg base (L2.CX P w) 6 c.rd "read_item" ["self", "members"] (spItem K c) := by
  obtain ⟨f, fd, m, F, b⟩ := T.t_Reader_read_item
  obtain ⟨_, _, M_Reader_passes, G_Reader_passes, B_Reader_passes⟩ := ok_passes (P := P) (w := w) (base := base) T
  obtain ⟨_, _, M_Reader_read_set_byte, G_Reader_read_set_byte, B_Reader_read_set_byte⟩ := ok_setByte (P := P) (w := w) (base := base) T
  refine ⟨f, fd, m, F.okX sc_Reader_read_item (fun vs H Q E h => ?_) (fun cdv A outer s H vs Q E hr h => ⟨_, pss_cons (ps_set (i := 2) sc_Reader_read_item.nd rfl (Or.inl rfl) (pe_meth0 (pv 0) T.c_Reader M_Reader_read_set_byte G_Reader_read_set_byte (hr.mono (by decide)) B_Reader_read_set_byte .nil (passes_call (takes_of rfl rfl rfl rfl) fun _ _ _ _ z => z))) (pss_cons (ps_set (i := 3) sc_Reader_read_item.nd rfl (Or.inl rfl) (pv 2)) (pss_cons (ps_if (pt_val (pe_meth (pv 0) T.c_Reader M_Reader_passes G_Reader_passes (hr.mono (by decide)) B_Reader_passes .nil pass0 (pa_cons pe_str pa_nil))) (pss_cons (ps_set (i := 4) sc_Reader_read_item.nd rfl (Or.inl rfl) (pe_fld (pv 0) rfl)) (pss_cons (ps_set (i := 3) sc_Reader_read_item.nd rfl (Or.inl rfl) (pe_meth0 (pv 0) T.c_Reader M_Reader_read_set_byte G_Reader_read_set_byte (hr.mono (by decide)) B_Reader_read_set_byte .nil (passes_call (takes_of rfl rfl rfl rfl) fun _ _ _ _ z => z))) (pss_one (ps_if (pt_cmpR op_lt (pv 3) (pv 2) (nomark _)) (pss_one (ps_raiseFlt rfl T.flt hr (takes_of rfl rfl rfl rfl) (pa_cons (pe_globI rfl T.g_WRONG_ITEM) (pa_cons (pv 4) pa_nil)))) pss_nil)))) pss_nil) (pss_one (ps_for (passes_of rfl) rfl (pi_range2 (by rfl) T.b_range (pa_cons (pv 2) (pa_cons (pe_op op_add (pv 3) pe_int) pa_nil))) (pg_name (i := 5) sc_Reader_read_item.nd rfl (Or.inl rfl)) (pss_one (ps_asg pe_bl (pg_sub (pv 1) (pv 5) set_list))))))), ?_⟩), b⟩
  · obtain ⟨_, r, _, _, _, _, _, _, _, _, rfl, _⟩ := h; rfl
  · obtain ⟨F0, r, p, pl, g, fs, lv, M, ma, fn, rfl, R, q1, q2⟩ := h
    unfold readItem at q1 q2
    refine ⟨_, rfl, rd_meth R (by decide +kernel) ⟨F0, r, p, pl, g, fs, lv, _, rfl, R, fun e h => q1 e (by rw [h]), fun a j ha H1 R1 => ?_⟩⟩
    have a256 := readSetByte_val ha
    rw [ha] at q1
    have q2 := fun x k h => q2 x k (by rw [ha]; exact h)
    dsimp only at q1 q2
    refine ⟨_, rfl, ?_⟩
    -- the loop over the bytes from a to b
    have loop : ∀ (b k : Nat) (pv : Option V) (H2 : Hp), b < 256 → RS K c F0 H2 r p k g fs lv ((ma, .lst (bls (memOf fn))) :: M) → (∀ H', RS K c F0 H' r p k g fs lv ((ma, .lst (bls (memOf fun x => fn x || (decide (a ≤ x) && decide (x ≤ b))))) :: M) → Q .non H') →
        tFor (iRng2 (tCons (tVar 2) (tCons (tOp (rI0 fun i j => .int (i + j)) (tVar 3) (tC (.int 1))) tNil))) (gName 5) (tAsg (tC (.bl true)) (gSub (tVar 1) (tVar 5) rSetL)) ⟨fun _ H' => Q .non H', Q, fun _ _ => False, fun _ _ => False⟩ [some (.ref r), some (.ref ma), some (.int a), some (.int b), pv, none] H2 := by
      intro b k pv H2 hb R2 hq
      refine ⟨_, rfl, _, rfl, _, _, rfl, rfl, a, (b : Int) + 1, rfl, ⟨by omega, by omega, by omega, by omega⟩, ?_⟩
      refine for_range (lo := a) (n := ((b : Int) + 1 - a).toNat) (fun i σ H' => (∃ y, σ = [some (.ref r), some (.ref ma), some (.int a), some (.int b), pv, y]) ∧ RS K c F0 H' r p k g fs lv ((ma, .lst (bls (memOf fun x => fn x || (decide (a ≤ x) && decide (x < a + i))))) :: M))
        ⟨⟨none, rfl⟩, ?_⟩ ?_ ?_
      · have e : memOf (fun x => fn x || (decide (a ≤ x) && decide (x < a + 0))) = memOf fn := memOf_congr fun x _ => by
          have : (decide (a ≤ x) && decide (x < a + 0)) = false := by
            rw [Bool.and_eq_false_iff, decide_eq_false_iff_not, decide_eq_false_iff_not]; omega
          rw [this, Bool.or_false]
        rw [e]; exact R2
      · rintro i σ H' hi ⟨⟨y, rfl⟩, R3⟩
        refine ⟨_, rfl, _, rfl, ma, _, _, a + i, rfl, rfl, R3.get 0 rfl, ?_, ⟨_, rfl⟩, ?_⟩
        · rw [bls_len, memOf_len]
          unfold ixN
          rw [if_pos (by omega), if_pos (by omega)]
          congr 1
        · have R4 := R3.put 0 (.lst (bls (memOf fun x => fn x || (decide (a ≤ x) && decide (x < a + (i + 1)))))) rfl
          have e : (bls (memOf fun x => fn x || (decide (a ≤ x) && decide (x < a + i)))).set (a + i) (.bl true) = bls (memOf fun x => fn x || (decide (a ≤ x) && decide (x < a + (i + 1)))) := by
            rw [bls_set, memOf_set]
            congr 1
            refine memOf_congr fun x _ => ?_
            rw [Bool.or_assoc]
            congr 1
            by_cases h1 : a ≤ x
            · by_cases h2 : x < a + i
              · rw [decide_eq_true h1, decide_eq_true h2, decide_eq_true (by omega : x < a + (i + 1))]; rfl
              · by_cases h3 : x = a + i
                · rw [decide_eq_true h1, decide_eq_false h2, decide_eq_true h3, decide_eq_true (by omega : x < a + (i + 1))]; rfl
                · rw [decide_eq_true h1, decide_eq_false h2, decide_eq_false h3, decide_eq_false (by omega : ¬ x < a + (i + 1))]; rfl
            · rw [decide_eq_false h1, decide_eq_false (by omega : ¬ x = a + i)]; rfl
          rw [e]
          exact R4
      · rintro σ H' ⟨⟨y, rfl⟩, R3⟩
        refine hq H' ?_
        have e : memOf (fun x => fn x || (decide (a ≤ x) && decide (x < a + ((b : Int) + 1 - a).toNat))) = memOf fun x => fn x || (decide (a ≤ x) && decide (x ≤ b)) := memOf_congr fun x _ => by
          congr 1
          by_cases h1 : a ≤ x
          · by_cases h2 : x ≤ b
            · rw [decide_eq_true h2, decide_eq_true (by omega : x < a + ((b : Int) + 1 - a).toNat)]
            · rw [decide_eq_false h2, decide_eq_false (by omega : ¬ x < a + ((b : Int) + 1 - a).toNat)]
          · rw [decide_eq_false h1]; rfl
        rw [← e]
        exact R3
    refine ⟨_, rfl, rd_passes R1 (k := 45) ⟨by decide +kernel, by decide +kernel⟩ (fun c1 H2 R2 => ⟨_, rfl, ?_⟩) fun c1 => ⟨_, rfl, ?_⟩⟩
    · rw [if_pos c1] at q1
      have q2 := fun x k h => q2 x k ((if_pos c1).trans h)
      refine if_true_of rfl ?_
      refine ⟨_, rfl, rd_f_place T R2 ?_⟩
      refine ⟨_, rfl, rd_meth R2 (by decide +kernel) ⟨F0, r, p, j + 1, g, fs, lv, _, rfl, R2, fun e h => q1 e (by rw [h]), fun b k hb H3 R3 => ?_⟩⟩
      have b256 := readSetByte_val hb
      rw [hb] at q1
      have q2 := fun x k' h => q2 x k' (by rw [hb]; exact h)
      dsimp only at q1 q2
      refine ⟨_, rfl, _, rfl, _, _, rfl, rfl, _, rfl, ?_⟩
      by_cases c2 : b < a
      · refine if_true_of (decide_eq_true (by omega)) ?_
        exact ⟨_, rfl, _, _, rfl, fun d nd => (q1 (3, j + 1) (if_pos c2)).at_ R3.stands nd⟩
      · refine if_false_of (decide_eq_false (by omega)) ?_
        exact loop b k _ H3 b256 R3 (q2 (a, b) k (if_neg c2))
    · have q2 := fun x k h => q2 x k ((if_neg c1).trans h)
      refine if_false_of rfl ?_
      exact loop a j none H1 a256 R1 (q2 (a, a) j rfl)
end
end RM
/-! Part CA: sets, atoms. -/
namespace RM
open PySem PySem.Spec PyProof.Rows L2 PF
def spKeepByte (K : PySem.W.Frag) (c : Cs) : Sp := fun vs H Q _ => ∃ F r p pl g fs lv M, ∃ v : Nat, vs = [.ref r, .int v] ∧ Sz fs.length ∧ RS K c F H r p pl g fs lv M ∧
  ∀ H', RS K c F H' r p pl g (fs ++ [byteF fun b => decide (b = v)]) lv M → Q (.int fs.length) H'
def spAtom (K : PySem.W.Frag) (c : Cs) (mir : List Nat → Nat → Except Flt (Fm × Nat)) : Sp := fun vs H Q E => ∃ F r p pl g fs lv M, vs = [.ref r] ∧ Sz fs.length ∧ RS K c F H r p pl g fs lv M ∧
  (∀ e, mir p pl = .error e → FltE c F E e) ∧ (∀ fm j, mir p pl = .ok (fm, j) → ∀ H', RS K c F H' r p j g (fs ++ [fm]) lv M → Q (.int fs.length) H')
theorem take_memOf {f : Nat → Bool} {i : Nat} (h : i < 256) : (memOf f).take (i + 1) = (memOf f).take i ++ [f i] := by
  rw [List.take_add_one, memOf_get h]; rfl
theorem bls_app (l : List Bool) (b : Bool) : bls l ++ [V.bl b] = bls (l ++ [b]) := by unfold bls; rw [List.map_append]; rfl
theorem take_all {f : Nat → Bool} : (memOf f).take 256 = memOf f := List.take_of_length_le (by rw [memOf_len]; exact Nat.le_refl _)
theorem ne_bool (a b : Bool) : (!decide (V.bl a = V.bl b)) = (a != b) := by cases a <;> cases b <;> rfl
theorem rep256 : (List.replicate (256 : Int).toNat [V.bl false]).flatten = bls (memOf fun _ => false) := by decide +kernel
theorem rd_passes2 {K : PySem.W.Frag} {c : Cs} {F H : Hp} {r : Addr} {p : List Nat} {pl g : Nat} {fs : List Fm} {lv : List Addr} {M : Mem} {z : Str} {k : Nat} {Q : VK} {E : XK} {σ : L2.St} (R : RS K c F H r p pl g fs lv M) (hz : one z k)
    (h : ∀ (t : Bool) (i : Nat) H', t = decide (now p pl = k) → i = (if now p pl = k then pl + 1 else pl) → RS K c F H' r p i g fs lv M → Q (.bl t) H') :
    ∃ a dx fs, V.ref r = .ref a ∧ H a = some (.ins c.rd dx fs) ∧ fs.lookup ("passes" : Str) = none ∧ tCons (tC (.str z)) tNil σ H fun vs H2 => spPasses K c (.ref r :: (vs ++ [])) H2 Q E :=
  rd_passes R hz (fun e H' R' => h true (pl + 1) H' (decide_eq_true e).symm (if_pos e).symm R') fun e => h false pl H (decide_eq_false e).symm (if_neg e).symm R
section
variable {P : Program} {w : World} {K : PySem.W.Frag} {mg : Str → Option Value} {base : Heap} {c : Cs} {fI : Addr}
theorem ok_set (T : Txt K mg c fI) : MOk P w K mg base (L2.CX P w) 7 c.rd "read_set" ["self"] (spSet K c) := by
  obtain ⟨f, fd, m, F, b⟩ := T.t_Reader_read_set
  obtain ⟨_, _, M_Reader_passes, G_Reader_passes, B_Reader_passes⟩ := ok_passes (P := P) (w := w) (base := base) T
  obtain ⟨_, _, M_Reader_read_item, G_Reader_read_item, B_Reader_read_item⟩ := ok_item (P := P) (w := w) (base := base) T
  refine ⟨f, fd, m, F.okX sc_Reader_read_set (fun vs H Q E h => ?_) (fun cdv A outer s H vs Q E hr h => ⟨_, pss_cons (ps_set (i := 1) sc_Reader_read_set.nd rfl (Or.inr rfl) (pe_meth (pv 0) T.c_Reader M_Reader_passes G_Reader_passes (hr.mono (by decide)) B_Reader_passes .nil pass0 (pa_cons pe_str pa_nil))) (pss_cons (ps_set (i := 2) sc_Reader_read_set.nd rfl (Or.inl rfl) (pe_op op_rep (pe_lst (pa_cons pe_bl pa_nil)) pe_int)) (pss_cons (ps_expr (pe_meth (pv 0) T.c_Reader M_Reader_read_item G_Reader_read_item (hr.mono (by decide)) B_Reader_read_item .nil (passes_call (takes_of rfl rfl rfl rfl) fun _ _ _ _ z => z) (pa_cons (pv 2) pa_nil))) (pss_cons (ps_while (passes_of rfl) (pt_not (pt_val (pe_meth (pv 0) T.c_Reader M_Reader_passes G_Reader_passes (hr.mono (by decide)) B_Reader_passes .nil pass0 (pa_cons pe_str pa_nil)))) (pss_one (ps_expr (pe_meth (pv 0) T.c_Reader M_Reader_read_item G_Reader_read_item (hr.mono (by decide)) B_Reader_read_item .nil (passes_call (takes_of rfl rfl rfl rfl) fun _ _ _ _ z => z) (pa_cons (pv 2) pa_nil))))) (pss_one (ps_ret (pe_lc (own := [("member", 3)]) (g := gName 3) (tt := tYes) rfl sc_Reader_read_set.nd (pi_list (pv 2)) (blkOk_by (N := ["self", "turned", "members", "member"]) (sc := defScope s_Reader_read_set) (by decide +kernel)) (fun _ _ _ _ _ => (pg_name (i := 3) sc_Reader_read_set.nd rfl (Or.inl rfl))) (fun _ _ _ _ _ => pts_nil) (fun _ _ _ _ _ => (pe_cmpR op_ne (pv 3) (pv 1) (nomark _))))))))), ?_⟩), b⟩
  · obtain ⟨_, r, _, _, _, _, _, _, rfl, _⟩ := h; rfl
  · obtain ⟨F0, r, p, pl, g, fs, lv, M, rfl, R, q1, q2⟩ := h
    unfold readSet at q1 q2
    refine ⟨_, rfl, rd_passes2 R (k := 94) ⟨by decide +kernel, by decide +kernel⟩ fun neg i H1 hneg hi R1 => ?_⟩
    rw [← hi, ← hneg] at q2
    rw [← hi] at q1
    refine ⟨(by decide : 1 ≤ sizeLine), fun t0 n0 => ?_⟩
    have R2 := R1.add n0 (.lst [V.bl false])
    refine ⟨t0, 256, _, rfl, rfl, R2.get 0 rfl, by decide, by decide, by decide, fun ma nma => ?_⟩
    have R3 := R2.add nma (.lst (List.replicate (256 : Int).toNat [V.bl false]).flatten)
    rw [rep256] at R3 ⊢
    have R4 : RS K c F0 _ r p i g fs lv ((ma, .lst (bls (memOf fun _ => false))) :: M) := (R3.perm (List.Perm.swap _ _ _)).drop
    -- the first item
    refine ⟨_, rfl, rd_meth R4 (by decide +kernel) ⟨_, rfl, F0, r, p, i, g, fs, lv, M, ma, _, rfl, R4, fun e h => q1 e (by rw [h]), fun x j hx H2 R5 => ?_⟩⟩
    rw [hx] at q1
    have q2 := fun z k h => q2 z k (by rw [hx]; exact h)
    dsimp only at q1 q2
    have hj := readItem_lt hx
    have R6 : RS K c F0 H2 r p j g fs lv ((ma, .lst (bls (memOf (cov [x])))) :: M) := by
      have e : memOf (fun b => false || (decide (x.1 ≤ b) && decide (b ≤ x.2))) = memOf (cov [x]) := memOf_congr fun b _ => by
        unfold cov
        rw [List.any_cons, List.any_nil, Bool.or_false, Bool.false_or]
      rw [← e]; exact R5
    -- the further ones
    refine ⟨fun f σ H' => ∃ j l, p.length - j < f ∧ σ = [some (.ref r), some (.bl neg), some (.ref ma), none] ∧ RS K c F0 H' r p j g fs lv ((ma, .lst (bls (memOf (cov l)))) :: M) ∧ (∀ e, readItems p f j = .error e → FltE c F0 E e) ∧
      (∀ l2 k, readItems p f j = .ok (l2, k) → ∀ H' ta, RS K c F0 H' r p k g fs lv ((ta, .lst (bls (memOf (inSetN neg (l ++ l2))))) :: M) → Q (.ref ta) H'), ⟨p.length + 1, j, [x], by omega, rfl, R6, fun e h => q1 e (by rw [h]), fun l2 k h H' ta R => q2 (neg, x :: l2) k (by rw [h]) H' ta R⟩, ?_⟩
    rintro f σ H3 ⟨j, l, hf, rfl, R7, w1, w2⟩
    obtain ⟨f', rfl⟩ : ∃ f', f = f' + 1 := ⟨f - 1, by omega⟩
    rw [readItems] at w1
    have w2 := fun l2 k h => w2 l2 k (by rw [readItems]; exact h)
    refine ⟨_, rfl, rd_passes R7 (k := 93) ⟨by decide +kernel, by decide +kernel⟩ (fun c1 H4 R8 => ⟨_, rfl, ?_⟩) fun c1 => ⟨_, rfl, ?_⟩⟩
    · -- the ] : the list of truths
      refine if_false_of rfl ?_
      have w2 := w2 [] (j + 1) (if_pos c1)
      rw [List.append_nil] at w2
      refine ⟨_, rfl, ma, rfl, ⟨_, SqL.of (R8.get 0 rfl)⟩, fun D nD => ?_⟩
      have R9 := R8.add nD (.lst [])
      refine lc_list (K := K) (a := ma) (xs := bls (memOf (cov l))) (fun i H' => RS K c F0 H' r p (j + 1) g fs lv ((D, .lst (bls ((memOf (inSetN neg l)).take i))) :: (ma, .lst (bls (memOf (cov l)))) :: M)) R9 (fun i H' _ R => SqL.of (R.get 1 rfl)) ?_ ?_
      · intro i y H' hy R
        have hi : i < 256 := by
          have := (List.getElem?_eq_some_iff.mp hy).1
          rw [bls_len, memOf_len] at this; exact this
        have ey : y = .bl (cov l i) := by
          unfold bls at hy
          rw [List.getElem?_map, memOf_get hi] at hy
          exact (Option.some.inj hy).symm
        subst ey
        refine ⟨rfl, _, rfl, _, rfl, rfl, _, R.get 0 rfl, ?_, ?_⟩
        · rw [bls_len, List.length_take, memOf_len]
          exact Nat.lt_of_le_of_lt (Nat.min_le_right _ _) (by decide)
        · have R10 := R.put 0 (.lst (bls ((memOf (inSetN neg l)).take (i + 1)))) rfl
          rw [take_memOf hi, ← bls_app] at R10
          have e : (!decide (V.bl (cov l i) = V.bl neg)) = inSetN neg l i := ne_bool _ _
          show RS K c F0 (upd H' D (.lst (bls ((memOf (inSetN neg l)).take i) ++ [V.bl (!decide (V.bl (cov l i) = V.bl neg))]))) r p (j + 1) g fs lv _
          rw [e]
          have z := R10
          rw [take_memOf hi, ← bls_app]
          exact z
      · intro H' R
        rw [bls_len, memOf_len, take_all] at R
        exact w2 H' D ((R.perm (List.Perm.swap _ _ _)).drop)
    · -- an item more
      rw [if_neg c1] at w1
      have w2 := fun l2 k h => w2 l2 k ((if_neg c1).trans h)
      refine if_true_of rfl ?_
      refine ⟨_, fun σ' H' z => ⟨f', Nat.lt_succ_self _, z⟩, ?_⟩
      refine ⟨_, rfl, rd_meth R7 (by decide +kernel) ⟨_, rfl, F0, r, p, j, g, fs, lv, M, ma, _, rfl, R7, fun e h => w1 e (by rw [h]), fun y k hy H4 R8 => ?_⟩⟩
      have hk := readItem_lt hy
      rw [hy] at w1
      have w2 := fun l2 k' h => w2 l2 k' (by rw [hy]; exact h)
      dsimp only at w1 w2
      refine ⟨k, l ++ [y], by omega, rfl, ?_, fun e h => w1 e (by rw [h]), fun l2 k' h H' ta R => w2 (y :: l2) k' (by rw [h]) H' ta ?_⟩
      · have e : memOf (fun b => cov l b || (decide (y.1 ≤ b) && decide (b ≤ y.2))) = memOf (cov (l ++ [y])) := memOf_congr fun b _ => by
          unfold cov
          rw [List.any_append, List.any_cons, List.any_nil, Bool.or_false]
        rw [← e]; exact R8
      · have e : l ++ y :: l2 = l ++ [y] ++ l2 := by rw [List.append_assoc]; rfl
        rw [e]; exact R
end
end RM
/-! Part CB: atoms. -/
namespace RM
open PySem PySem.Spec PyProof.Rows L2 PF
section
variable {P : Program} {w : World} {K : PySem.W.Frag} {mg : Str → Option Value} {base : Heap} {c : Cs} {fI : Addr}
/-- self.keep(BYTE, [], D), the lists owned -/
theorem RS.keepByte {F H : Hp} {r : Addr} {p : List Nat} {pl g : Nat} {fs : List Fm} {lv : List Addr} {M : Mem} {pa D : Addr} {f : Nat → Bool} {Q : VK} (hb : Sz fs.length)
    (R : RS K c F H r p pl g fs lv ((pa, .lst []) :: (D, .lst (bls (memOf f))) :: M)) (q : ∀ H', RS K c F H' r p pl g (fs ++ [byteF f]) lv M → Q (.int fs.length) H') : spKeep K c [.ref r, .str "byte", .ref pa, .ref D] H Q E0 :=
  ⟨F, r, p, pl, g, fs, lv, M, .byte, pa, [], .ref D, .mem (memOf f), [(D, .lst (bls (memOf f)))], rfl, ⟨D, rfl, rfl⟩, hb, R, q⟩
theorem RS.keepNon {F H : Hp} {r : Addr} {p : List Nat} {pl g : Nat} {fs : List Fm} {lv : List Addr} {M : Mem} {pa : Addr} {Q : VK} {kd : Kd} {js : List Nat} (hb : Sz fs.length)
    (R : RS K c F H r p pl g fs lv ((pa, .lst (nls js)) :: M)) (q : ∀ H', RS K c F H' r p pl g (fs ++ [⟨kd, js, .non⟩]) lv M → Q (.int fs.length) H') : spKeep K c [.ref r, .str (kdS kd), .ref pa, .non] H Q E0 :=
  ⟨F, r, p, pl, g, fs, lv, M, kd, pa, js, .non, .non, [], rfl, ⟨rfl, rfl⟩, hb, R, q⟩
theorem sz256 {n : Nat} (f : Nat → Bool) (n : Nat) : (bls ((memOf f).take n)).length < sizeLine := by
  rw [bls_len, List.length_take, memOf_len]
  exact Nat.lt_of_le_of_lt (Nat.min_le_right _ _) (by decide)
theorem eq_int (a b : Nat) : decide (V.int (0 + (a : Nat)) = V.int (b : Nat)) = decide (a = b) := by
  by_cases h : a = b
  · rw [decide_eq_true h, decide_eq_true (by rw [h, Int.zero_add])]
  · rw [decide_eq_false h, decide_eq_false (fun z => h (by have := V.int.inj z; omega))]
theorem ok_keepByte (T : Txt K mg c fI) : MOk P w K mg base CX0 4 c.rd "keep_byte" ["self", "only"] (spKeepByte K c) := by
  obtain ⟨f, fd, m, F, b⟩ := T.t_Reader_keep_byte
  obtain ⟨_, _, M_Reader_keep, G_Reader_keep, B_Reader_keep⟩ := ok_keep (P := P) (w := w) (base := base) T
  refine ⟨f, fd, m, F.ok sc_Reader_keep_byte (fun vs H Q E h => ?_) (fun cdv A outer s H vs Q E hr h => ⟨_, pss_one (ps_ret (pe_meth (pv 0) T.c_Reader M_Reader_keep G_Reader_keep (hr.mono (by decide)) B_Reader_keep .nil pass0 (pa_cons (pe_globS rfl T.g_BYTE) (pa_cons (pe_lst pa_nil) (pa_cons (pe_lc (own := [("byte", 2)]) (g := gName 2) (tt := tYes) rfl sc_Reader_keep_byte.nd (pi_range1 (by rfl) T.b_range (pa_cons pe_int pa_nil)) (blkOk_by (N := ["self", "only", "byte"]) (sc := defScope s_Reader_keep_byte) (by decide +kernel)) (fun _ _ _ _ _ => (pg_name (i := 2) sc_Reader_keep_byte.nd rfl (Or.inl rfl))) (fun _ _ _ _ _ => pts_nil) (fun _ _ _ _ _ => (pe_cmpR op_eq (pv 2) (pv 1) (nomark _)))) pa_nil))))), ?_⟩), b⟩
  · obtain ⟨_, r, _, _, _, _, _, _, _, rfl, _⟩ := h; rfl
  · obtain ⟨F0, r, p, pl, g, fs, lv, M, v, rfl, hb, R, q⟩ := h
    refine ⟨_, rfl, rd_meth R (by decide +kernel) ⟨Nat.zero_le _, fun pa npa => ?_⟩⟩
    have R1 := R.add npa (.lst [])
    refine ⟨256, rfl, by decide, by decide, fun D nD => ?_⟩
    have R2 := R1.add nD (.lst [])
    refine lc_range (lo := 0) (n := 256) (fun i H' => RS K c F0 H' r p pl g fs lv ((D, .lst (bls ((memOf fun b => decide (b = v)).take i))) :: (pa, .lst []) :: M)) R2 ?_ ?_
    · intro i H' hi R
      refine ⟨rfl, _, rfl, _, rfl, rfl, _, R.get 0 rfl, sz256 (n := 0) _ _, ?_⟩
      have R3 := R.put 0 (.lst (bls ((memOf fun b => decide (b = v)).take (i + 1)))) rfl
      have e : bls ((memOf fun b => decide (b = v)).take i) ++ [V.bl (decide (V.int (0 + (i : Nat)) = V.int (v : Nat)))] = bls ((memOf fun b => decide (b = v)).take (i + 1)) := by
        rw [eq_int, take_memOf hi, ← bls_app]
      show RS K c F0 (upd H' D (.lst (bls ((memOf fun b => decide (b = v)).take i) ++ [V.bl (decide (V.int (0 + (i : Nat)) = V.int (v : Nat)))]))) r p pl g fs lv _
      rw [e]
      exact R3
    · intro H' R
      rw [take_all] at R
      exact RS.keepByte hb (R.perm (List.Perm.swap _ _ _)) q
theorem ok_escAtom (T : Txt K mg c fI) : MOk P w K mg base (L2.CX P w) 5 c.rd "read_escaped_atom" ["self"] (spAtom K c readEscAtom) := by
  obtain ⟨f, fd, m, F, b⟩ := T.t_Reader_read_escaped_atom
  obtain ⟨_, _, M_Reader_passes, G_Reader_passes, B_Reader_passes⟩ := ok_passes (P := P) (w := w) (base := base) T
  obtain ⟨_, _, M_Reader_keep, G_Reader_keep, B_Reader_keep⟩ := ok_keep (P := P) (w := w) (base := base) T
  obtain ⟨_, _, M_Reader_keep_byte, G_Reader_keep_byte, B_Reader_keep_byte⟩ := ok_keepByte (P := P) (w := w) (base := base) T
  obtain ⟨_, _, M_Reader_read_escaped, G_Reader_read_escaped, B_Reader_read_escaped⟩ := ok_escaped (P := P) (w := w) (base := base) T
  refine ⟨f, fd, m, F.okX sc_Reader_read_escaped_atom (fun vs H Q E h => ?_) (fun cdv A outer s H vs Q E hr h => ⟨_, pss_cons (ps_if (pt_val (pe_meth (pv 0) T.c_Reader M_Reader_passes G_Reader_passes (hr.mono (by decide)) B_Reader_passes .nil pass0 (pa_cons pe_str pa_nil))) (pss_one (ps_ret (pe_meth (pv 0) T.c_Reader M_Reader_keep G_Reader_keep (hr.mono (by decide)) B_Reader_keep .nil pass0 (pa_cons (pe_globS rfl T.g_EDGE) (pa_cons (pe_lst pa_nil) (pa_cons pe_non pa_nil)))))) pss_nil) (pss_cons (ps_if (pt_val (pe_meth (pv 0) T.c_Reader M_Reader_passes G_Reader_passes (hr.mono (by decide)) B_Reader_passes .nil pass0 (pa_cons pe_str pa_nil))) (pss_one (ps_ret (pe_meth (pv 0) T.c_Reader M_Reader_keep G_Reader_keep (hr.mono (by decide)) B_Reader_keep .nil pass0 (pa_cons (pe_globS rfl T.g_NO_EDGE) (pa_cons (pe_lst pa_nil) (pa_cons pe_non pa_nil)))))) pss_nil) (pss_one (ps_ret (pe_meth (pv 0) T.c_Reader M_Reader_keep_byte G_Reader_keep_byte (hr.mono (by decide)) B_Reader_keep_byte .nil pass0 (pa_cons (pe_meth0 (pv 0) T.c_Reader M_Reader_read_escaped G_Reader_read_escaped (hr.mono (by decide)) B_Reader_read_escaped .nil (passes_call (takes_of rfl rfl rfl rfl) fun _ _ _ _ z => z)) pa_nil))))), ?_⟩), b⟩
  · obtain ⟨_, r, _, _, _, _, _, _, rfl, _⟩ := h; rfl
  · obtain ⟨F0, r, p, pl, g, fs, lv, M, rfl, hb, R, q1, q2⟩ := h
    unfold readEscAtom at q1 q2
    refine ⟨_, rfl, rd_passes R (k := 98) ⟨by decide +kernel, by decide +kernel⟩ (fun c1 H1 R1 => ⟨_, rfl, if_true_of rfl ?_⟩) fun c1 => ⟨_, rfl, if_false_of rfl ?_⟩⟩
    · exact ⟨_, rfl, rd_meth R1 (by decide +kernel) ⟨Nat.zero_le _, fun pa npa => RS.keepNon (kd := .edge) (js := []) hb (R1.add npa (.lst [])) fun H' R' => q2 _ _ (if_pos c1) H' R'⟩⟩
    rw [if_neg c1] at q1
    have q2 := fun v j h => q2 v j ((if_neg c1).trans h)
    refine ⟨_, rfl, rd_passes R (k := 66) ⟨by decide +kernel, by decide +kernel⟩ (fun c2 H1 R1 => ⟨_, rfl, if_true_of rfl ?_⟩) fun c2 => ⟨_, rfl, if_false_of rfl ?_⟩⟩
    · exact ⟨_, rfl, rd_meth R1 (by decide +kernel) ⟨Nat.zero_le _, fun pa npa => RS.keepNon (kd := .noEdge) (js := []) hb (R1.add npa (.lst [])) fun H' R' => q2 _ _ (if_pos c2) H' R'⟩⟩
    rw [if_neg c2] at q1
    have q2 := fun v j h => q2 v j ((if_neg c2).trans h)
    refine ⟨_, rfl, rd_meth R (by decide +kernel) ⟨_, rfl, rd_meth R (by decide +kernel) ⟨F0, r, p, pl, g, fs, lv, M, rfl, R, fun e h => q1 e (by rw [h]), fun v j h H1 R1 => ?_⟩⟩⟩
    exact ⟨F0, r, p, j, g, fs, lv, M, v, rfl, hb, R1, fun H' R' => q2 _ _ (by rw [h]) H' R'⟩
theorem ok_atom (T : Txt K mg c fI) : MOk P w K mg base (L2.CX P w) 8 c.rd "read_atom" ["self"] (spAtom K c readAtom) := by
  obtain ⟨f, fd, m, F, b⟩ := T.t_Reader_read_atom
  obtain ⟨_, _, M_Reader_passes, G_Reader_passes, B_Reader_passes⟩ := ok_passes (P := P) (w := w) (base := base) T
  obtain ⟨_, _, M_Reader_keep, G_Reader_keep, B_Reader_keep⟩ := ok_keep (P := P) (w := w) (base := base) T
  obtain ⟨_, _, M_Reader_keep_byte, G_Reader_keep_byte, B_Reader_keep_byte⟩ := ok_keepByte (P := P) (w := w) (base := base) T
  obtain ⟨_, _, M_Reader_read_escaped_atom, G_Reader_read_escaped_atom, B_Reader_read_escaped_atom⟩ := ok_escAtom (P := P) (w := w) (base := base) T
  obtain ⟨_, _, M_Reader_read_plain, G_Reader_read_plain, B_Reader_read_plain⟩ := ok_plain (P := P) (w := w) (base := base) T
  obtain ⟨_, _, M_Reader_read_set, G_Reader_read_set, B_Reader_read_set⟩ := ok_set (P := P) (w := w) (base := base) T
  refine ⟨f, fd, m, F.okX sc_Reader_read_atom (fun vs H Q E h => ?_) (fun cdv A outer s H vs Q E hr h => ⟨_, pss_cons (ps_if (pt_val (pe_meth (pv 0) T.c_Reader M_Reader_passes G_Reader_passes (hr.mono (by decide)) B_Reader_passes .nil pass0 (pa_cons pe_str pa_nil))) (pss_one (ps_ret (pe_meth (pv 0) T.c_Reader M_Reader_keep G_Reader_keep (hr.mono (by decide)) B_Reader_keep .nil pass0 (pa_cons (pe_globS rfl T.g_BYTE) (pa_cons (pe_lst pa_nil) (pa_cons (pe_meth0 (pv 0) T.c_Reader M_Reader_read_set G_Reader_read_set (hr.mono (by decide)) B_Reader_read_set .nil (passes_call (takes_of rfl rfl rfl rfl) fun _ _ _ _ z => z)) pa_nil)))))) pss_nil) (pss_cons (ps_if (pt_val (pe_meth (pv 0) T.c_Reader M_Reader_passes G_Reader_passes (hr.mono (by decide)) B_Reader_passes .nil pass0 (pa_cons pe_str pa_nil))) (pss_one (ps_ret (pe_meth (pv 0) T.c_Reader M_Reader_keep G_Reader_keep (hr.mono (by decide)) B_Reader_keep .nil pass0 (pa_cons (pe_globS rfl T.g_BEGIN) (pa_cons (pe_lst pa_nil) (pa_cons pe_non pa_nil)))))) pss_nil) (pss_cons (ps_if (pt_val (pe_meth (pv 0) T.c_Reader M_Reader_passes G_Reader_passes (hr.mono (by decide)) B_Reader_passes .nil pass0 (pa_cons pe_str pa_nil))) (pss_one (ps_ret (pe_meth (pv 0) T.c_Reader M_Reader_keep G_Reader_keep (hr.mono (by decide)) B_Reader_keep .nil pass0 (pa_cons (pe_globS rfl T.g_END) (pa_cons (pe_lst pa_nil) (pa_cons pe_non pa_nil)))))) pss_nil) (pss_cons (ps_if (pt_val (pe_meth (pv 0) T.c_Reader M_Reader_passes G_Reader_passes (hr.mono (by decide)) B_Reader_passes .nil pass0 (pa_cons pe_str pa_nil))) (pss_one (ps_ret (pe_meth (pv 0) T.c_Reader M_Reader_keep G_Reader_keep (hr.mono (by decide)) B_Reader_keep .nil pass0 (pa_cons (pe_globS rfl T.g_BYTE) (pa_cons (pe_lst pa_nil) (pa_cons (pe_lc (own := [("byte", 1)]) (g := gName 1) (tt := tYes) rfl sc_Reader_read_atom.nd (pi_range1 (by rfl) T.b_range (pa_cons pe_int pa_nil)) (blkOk_by (N := ["self", "byte"]) (sc := defScope s_Reader_read_atom) (by decide +kernel)) (fun _ _ _ _ _ => (pg_name (i := 1) sc_Reader_read_atom.nd rfl (Or.inl rfl))) (fun _ _ _ _ _ => pts_nil) (fun _ _ _ _ _ => (pe_cmpR op_ne (pv 1) (pe_callB call_ord (by rfl) T.b_ord (by decide +kernel) (pa_cons pe_str pa_nil)) (nomark _)))) pa_nil)))))) pss_nil) (pss_cons (ps_if (pt_val (pe_meth (pv 0) T.c_Reader M_Reader_passes G_Reader_passes (hr.mono (by decide)) B_Reader_passes .nil pass0 (pa_cons pe_str pa_nil))) (pss_one (ps_ret (pe_meth0 (pv 0) T.c_Reader M_Reader_read_escaped_atom G_Reader_read_escaped_atom (hr.mono (by decide)) B_Reader_read_escaped_atom .nil (passes_call (takes_of rfl rfl rfl rfl) fun _ _ _ _ z => z)))) pss_nil) (pss_one (ps_ret (pe_meth (pv 0) T.c_Reader M_Reader_keep_byte G_Reader_keep_byte (hr.mono (by decide)) B_Reader_keep_byte .nil pass0 (pa_cons (pe_meth (pv 0) T.c_Reader M_Reader_read_plain G_Reader_read_plain (hr.mono (by decide)) B_Reader_read_plain .nil (passes_call (takes_of rfl rfl rfl rfl) fun _ _ _ _ z => z) (pa_cons (pe_globS rfl T.g_NOT_PLAIN) pa_nil)) pa_nil)))))))), ?_⟩), b⟩
  · obtain ⟨_, r, _, _, _, _, _, _, rfl, _⟩ := h; rfl
  · obtain ⟨F0, r, p, pl, g, fs, lv, M, rfl, hb, R, q1, q2⟩ := h
    unfold readAtom at q1 q2
    -- a set
    refine ⟨_, rfl, rd_passes R (k := 91) ⟨by decide +kernel, by decide +kernel⟩ (fun c1 H1 R1 => ⟨_, rfl, if_true_of rfl ?_⟩) fun c1 => ⟨_, rfl, if_false_of rfl ?_⟩⟩
    · rw [if_pos c1] at q1
      have q2 := fun v j h => q2 v j ((if_pos c1).trans h)
      refine ⟨_, rfl, rd_meth R1 (by decide +kernel) ⟨Nat.zero_le _, fun pa npa => ?_⟩⟩
      have R2 := R1.add npa (.lst [])
      refine ⟨_, rfl, rd_meth R2 (by decide +kernel) ⟨F0, r, p, pl + 1, g, fs, lv, _, rfl, R2, fun e h => q1 e (by rw [h]), fun x j h H2 ta R3 => ?_⟩⟩
      exact RS.keepByte hb (R3.perm (List.Perm.swap _ _ _)) fun H' R' => q2 _ j (by rw [h]) H' R'
    rw [if_neg c1] at q1
    have q2 := fun v j h => q2 v j ((if_neg c1).trans h)
    -- the beginning
    refine ⟨_, rfl, rd_passes R (k := 94) ⟨by decide +kernel, by decide +kernel⟩ (fun c2 H1 R1 => ⟨_, rfl, if_true_of rfl ?_⟩) fun c2 => ⟨_, rfl, if_false_of rfl ?_⟩⟩
    · exact ⟨_, rfl, rd_meth R1 (by decide +kernel) ⟨Nat.zero_le _, fun pa npa => RS.keepNon (kd := .begin_) (js := []) hb (R1.add npa (.lst [])) fun H' R' => q2 _ _ (if_pos c2) H' R'⟩⟩
    rw [if_neg c2] at q1
    have q2 := fun v j h => q2 v j ((if_neg c2).trans h)
    -- the end
    refine ⟨_, rfl, rd_passes R (k := 36) ⟨by decide +kernel, by decide +kernel⟩ (fun c3 H1 R1 => ⟨_, rfl, if_true_of rfl ?_⟩) fun c3 => ⟨_, rfl, if_false_of rfl ?_⟩⟩
    · exact ⟨_, rfl, rd_meth R1 (by decide +kernel) ⟨Nat.zero_le _, fun pa npa => RS.keepNon (kd := .end_) (js := []) hb (R1.add npa (.lst [])) fun H' R' => q2 _ _ (if_pos c3) H' R'⟩⟩
    rw [if_neg c3] at q1
    have q2 := fun v j h => q2 v j ((if_neg c3).trans h)
    -- any byte but a line feed
    refine ⟨_, rfl, rd_passes R (k := 46) ⟨by decide +kernel, by decide +kernel⟩ (fun c4 H1 R1 => ⟨_, rfl, if_true_of rfl ?_⟩) fun c4 => ⟨_, rfl, if_false_of rfl ?_⟩⟩
    · have q2 := q2 _ _ (if_pos c4)
      refine ⟨_, rfl, rd_meth R1 (by decide +kernel) ⟨Nat.zero_le _, fun pa npa => ?_⟩⟩
      have R2 := R1.add npa (.lst [])
      refine ⟨256, rfl, by decide, by decide, fun D nD => ?_⟩
      have R3 := R2.add nD (.lst [])
      refine lc_range (lo := 0) (n := 256) (fun i H' => RS K c F0 H' r p (pl + 1) g fs lv ((D, .lst (bls ((memOf fun b => decide (b ≠ 10)).take i))) :: (pa, .lst []) :: M)) R3 ?_ ?_
      · intro i H' hi R
        refine ⟨rfl, _, rfl, _, rfl, by decide +kernel, rfl, _, R.get 0 rfl, sz256 (n := 0) _ _, ?_⟩
        have R4 := R.put 0 (.lst (bls ((memOf fun b => decide (b ≠ 10)).take (i + 1)))) rfl
        have e : bls ((memOf fun b => decide (b ≠ 10)).take i) ++ [V.bl (!decide (V.int (0 + (i : Nat)) = V.int ((Str.cps "\n").getD 0 0 : Nat)))] = bls ((memOf fun b => decide (b ≠ 10)).take (i + 1)) := by
          have e10 : (Str.cps "\n").getD 0 0 = 10 := by decide +kernel
          rw [e10, eq_int, take_memOf hi, ← bls_app]
          congr 3
          by_cases h : i = 10
          · rw [decide_eq_true h, decide_eq_false (fun z => z h)]; rfl
          · rw [decide_eq_false h, decide_eq_true h]; rfl
        show RS K c F0 (upd H' D (.lst (bls ((memOf fun b => decide (b ≠ 10)).take i) ++ [V.bl (!decide (V.int (0 + (i : Nat)) = V.int ((Str.cps "\n").getD 0 0 : Nat)))]))) r p (pl + 1) g fs lv _
        rw [e]
        exact R4
      · intro H' R
        rw [take_all] at R
        exact RS.keepByte hb (R.perm (List.Perm.swap _ _ _)) q2
    rw [if_neg c4] at q1
    have q2 := fun v j h => q2 v j ((if_neg c4).trans h)
    -- a backslash
    refine ⟨_, rfl, rd_passes R (k := 92) ⟨by decide +kernel, by decide +kernel⟩ (fun c5 H1 R1 => ⟨_, rfl, if_true_of rfl ?_⟩) fun c5 => ⟨_, rfl, if_false_of rfl ?_⟩⟩
    · exact ⟨_, rfl, rd_meth R1 (by decide +kernel) ⟨F0, r, p, pl + 1, g, fs, lv, M, rfl, hb, R1, fun e h => q1 e ((if_pos c5).trans h), fun v j h H' R' => q2 v j ((if_pos c5).trans h) H' R'⟩⟩
    rw [if_neg c5] at q1
    have q2 := fun v j h => q2 v j ((if_neg c5).trans h)
    -- a plain byte
    refine ⟨_, rfl, rd_meth R (by decide +kernel) ⟨_, rfl, rd_meth R (by decide +kernel) ⟨F0, r, p, pl, g, fs, lv, M, _, rfl, by decide +kernel, R, fun e h => q1 e ?_, fun v j h H1 R1 => ?_⟩⟩⟩
    · rw [codes_notPlain] at h
      rw [h]
    · rw [codes_notPlain] at h
      exact ⟨F0, r, p, j, g, fs, lv, M, v, rfl, hb, R1, fun H' R' => q2 _ _ (by rw [h]) H' R'⟩
end
end RM
/-! Part CC: numbers, counts. -/
namespace RM
open PySem PySem.Spec PyProof.Rows L2 PF
def numEnd (least i : Nat) (q : Except Flt (Nat × Nat)) : Except Flt (Nat × Nat) := match q with
  | .error e => .error e
  | .ok (n, j) => if j = i then .error (1, i) else if 100 < n ∨ n < least then .error (2, i) else .ok (n, j)
theorem readNumber_eq (p : List Nat) (least i : Nat) : readNumber p least i = numEnd least i (readDigits p i (p.length + 1) 0 i) := rfl
def spNumber (K : PySem.W.Frag) (c : Cs) : Sp := fun vs H Q E => ∃ F r p pl g fs lv M, ∃ least : Nat, vs = [.ref r, .int least] ∧ RS K c F H r p pl g fs lv M ∧
  (∀ e, readNumber p least pl = .error e → FltE c F E e) ∧ (∀ v j, readNumber p least pl = .ok (v, j) → ∀ H', RS K c F H' r p j g fs lv M → Q (.int v) H')
def spNumbers (K : PySem.W.Frag) (c : Cs) : Sp := fun vs H Q E => ∃ F r p pl g fs lv M, vs = [.ref r] ∧ RS K c F H r p pl g fs lv M ∧
  (∀ e, readNumbers p pl = .error e → FltE c F E e) ∧ (∀ x j, readNumbers p pl = .ok (x, j) → ∀ H' ta, RS K c F H' r p j g fs lv ((ta, .tup [.int x.1, optI x.2]) :: M) → Q (.ref ta) H')
def spCount (K : PySem.W.Frag) (c : Cs) : Sp := fun vs H Q E => ∃ F r p pl g fs lv M, vs = [.ref r] ∧ RS K c F H r p pl g fs lv M ∧
  (∀ e, readCount p pl = .error e → FltE c F E e) ∧ (∀ j, readCount p pl = .ok (none, j) → ∀ H', RS K c F H' r p j g fs lv M → Q .non H') ∧
  (∀ x j, readCount p pl = .ok (some x, j) → ∀ H' ta, RS K c F H' r p j g fs lv ((ta, .tup [.int x.1, optI x.2]) :: M) → Q (.ref ta) H')
theorem eq_nat (a b : Nat) : decide (V.int (a : Nat) = V.int (b : Nat)) = decide (a = b) := by
  by_cases h : a = b
  · rw [decide_eq_true h, decide_eq_true (by rw [h])]
  · rw [decide_eq_false h, decide_eq_false (fun z => h (by have := V.int.inj z; omega))]
section
variable {P : Program} {w : World} {K : PySem.W.Frag} {mg : Str → Option Value} {base : Heap} {c : Cs} {fI : Addr}
theorem ok_number (T : Txt K mg c fI) : MOk P w K mg base (L2.CX P w) 3 c.rd "read_number" ["self", "least"] (spNumber K c) := by
  obtain ⟨f, fd, m, F, b⟩ := T.t_Reader_read_number
  obtain ⟨_, _, M_Reader_now, G_Reader_now, B_Reader_now⟩ := ok_now (P := P) (w := w) (base := base) T
  obtain ⟨_, _, g_is_digit, k_is_digit, G_is_digit, B_is_digit⟩ := ok_digit (P := P) (w := w) (base := base) T
  refine ⟨f, fd, m, F.okX sc_Reader_read_number (fun vs H Q E h => ?_) (fun cdv A outer s H vs Q E hr h => ⟨_, pss_cons (ps_set (i := 2) sc_Reader_read_number.nd rfl (Or.inl rfl) (pe_fld (pv 0) rfl)) (pss_cons (ps_set (i := 3) sc_Reader_read_number.nd rfl (Or.inl rfl) pe_int) (pss_cons (ps_while (passes_of rfl) (pt_val (pe_call G_is_digit (hr.mono (by decide)) rfl g_is_digit k_is_digit B_is_digit .nil pass0 (pa_cons (pe_meth0 (pv 0) T.c_Reader M_Reader_now G_Reader_now (hr.mono (by decide)) B_Reader_now .nil pass0) pa_nil))) (pss_cons (ps_if (PW.pt (pw_and (pt_cmpR op_eq (pv 3) pe_int (nomark _)) (pw_and1 (pt_cmpR op_gt (pe_fld (pv 0) rfl) (pv 2) (nomark _))))) (pss_one (ps_raiseFlt rfl T.flt hr (takes_of rfl rfl rfl rfl) (pa_cons (pe_globI rfl T.g_CANNOT_STAND) (pa_cons (pe_fld (pv 0) rfl) pa_nil)))) pss_nil) (pss_cons (ps_set (i := 3) sc_Reader_read_number.nd rfl (Or.inl rfl) (pe_op op_sub (pe_op op_add (pe_op op_mul (pv 3) pe_int) (pe_meth0 (pv 0) T.c_Reader M_Reader_now G_Reader_now (hr.mono (by decide)) B_Reader_now .nil pass0)) (pe_callB call_ord (by rfl) T.b_ord (by decide +kernel) (pa_cons pe_str pa_nil)))) (pss_one (ps_fldaug (pv 0) pe_int in_add))))) (pss_cons (ps_if (pt_cmpR op_eq (pe_fld (pv 0) rfl) (pv 2) (nomark _)) (pss_one (ps_raiseFlt rfl T.flt hr (takes_of rfl rfl rfl rfl) (pa_cons (pe_globI rfl T.g_CANNOT_STAND) (pa_cons (pv 2) pa_nil)))) pss_nil) (pss_cons (ps_if (PW.pt (pw_or (pt_cmpR op_gt (pv 3) (pe_globI rfl T.g_MOST_TIMES) (nomark _)) (pw_or1 (pt_cmpR op_lt (pv 3) (pv 1) (nomark _))))) (pss_one (ps_raiseFlt rfl T.flt hr (takes_of rfl rfl rfl rfl) (pa_cons (pe_globI rfl T.g_WRONG_NUMBER) (pa_cons (pv 2) pa_nil)))) pss_nil) (pss_one (ps_ret (pv 3))))))), ?_⟩), b⟩
  · obtain ⟨_, r, _, _, _, _, _, _, _, rfl, _⟩ := h; rfl
  · obtain ⟨F0, r, p, pl, g, fs, lv, M, least, rfl, R, q1, q2⟩ := h
    rw [readNumber_eq] at q1 q2
    refine ⟨_, rfl, rd_f_place T R ?_⟩
    -- the loop over the digits
    refine ⟨fun f σ H' => ∃ n i : Nat, p.length - i < f ∧ pl ≤ i ∧ σ = [some (.ref r), some (.int least), some (.int pl), some (.int n)] ∧ RS K c F0 H' r p i g fs lv M ∧ (∀ e, numEnd least pl (readDigits p pl f n i) = .error e → FltE c F0 E e) ∧
      (∀ v j, numEnd least pl (readDigits p pl f n i) = .ok (v, j) → ∀ H', RS K c F0 H' r p j g fs lv M → Q (.int v) H'), ⟨p.length + 1, 0, pl, by omega, Nat.le_refl _, rfl, R, q1, q2⟩, ?_⟩
    rintro f σ H1 ⟨n, i, hf, hi, rfl, R1, w1, w2⟩
    obtain ⟨f', rfl⟩ : ∃ f', f = f' + 1 := ⟨f - 1, by omega⟩
    rw [readDigits] at w1 w2
    refine ⟨_, rfl, rd_meth R1 (by decide +kernel) ⟨F0, r, p, i, g, fs, lv, M, rfl, R1, _, rfl, ?_⟩⟩
    refine ⟨_, rfl, ?_⟩
    cases ed : digit (now p i) with
    | true =>
      rw [if_pos ed] at w1 w2
      have db := digit_bounds ed
      have hlt : i < p.length := lt_of_now (by omega)
      refine if_true_of rfl ⟨_, fun σ' H' z => ⟨f', Nat.lt_succ_self _, z⟩, ?_⟩
      -- a digit behind a 0
      have goOn : ¬ (n = 0 ∧ pl < i) → ∀ (D : Ends), (∀ σ H', (∃ n i : Nat, p.length - i < f' ∧ pl ≤ i ∧ σ = [some (.ref r), some (.int least), some (.int pl), some (.int n)] ∧ RS K c F0 H' r p i g fs lv M ∧ (∀ e, numEnd least pl (readDigits p pl f' n i) = .error e → FltE c F0 E e) ∧
            (∀ v j, numEnd least pl (readDigits p pl f' n i) = .ok (v, j) → ∀ H', RS K c F0 H' r p j g fs lv M → Q (.int v) H')) → D.nx σ H') →
          tSeq (tAsg (tOp (rI0 fun i j => .int (i - j)) (tOp (rI0 fun i j => .int (i + j)) (tOp (rI CMul fun i j => .int (i * j)) (tVar 3) (tC (.int 10))) (tMeth c.rd "now" (spNow K c) [] E0 (tVar 0) tNil)) (tCB (fun xs H Q => ∃ x, xs = [V.str x] ∧ x.length = 1 ∧ Q (V.int (x.cps.getD 0 0 : Nat)) H) (tCons (tC (.str "0")) tNil))) (gName 3)) (sFldAug K (tVar 0) (tC (.int 1)) rAdd "place")
            D [some (.ref r), some (.int least), some (.int pl), some (.int n)] H1 := by
        intro hn D hD
        rw [if_neg hn] at w1 w2
        refine ⟨_, rfl, _, _, rfl, rfl, .inr (by decide), _, rfl, rd_meth R1 (by decide +kernel) ⟨F0, r, p, i, g, fs, lv, M, rfl, R1, _, _, rfl, rfl, ?_⟩⟩
        refine ⟨_, rfl, by decide +kernel, _, _, rfl, rfl, ?_⟩
        refine rd_inc T R1 (by rfl) fun H2 R2 => ?_
        refine hD _ _ ⟨n * 10 + now p i - 48, i + 1, by omega, by omega, ?_, R2, w1, w2⟩
        have e48 : (Str.cps "0").getD 0 0 = 48 := by decide +kernel
        have e : (n : Int) * 10 + (now p i : Nat) - ((48 : Nat) : Int) = ((n * 10 + now p i - 48 : Nat) : Int) := by omega
        rw [e48]
        show [some (V.ref r), some (.int least), some (.int pl), some (.int ((n : Int) * 10 + (now p i : Nat) - ((48 : Nat) : Int)))] = _
        rw [e]
      refine ⟨_, rfl, rfl, _, rfl, ?_⟩
      by_cases c1 : n = 0
      · refine if_true_of (decide_eq_true (by rw [c1]; rfl)) ?_
        refine ⟨_, rfl, rd_f_place T R1 ⟨_, rfl, _, _, rfl, rfl, _, rfl, ?_⟩⟩
        by_cases c2 : pl < i
        · refine if_true_of (decide_eq_true (by omega)) ?_
          exact ⟨_, rfl, rd_f_place T R1 ⟨_, _, rfl, fun d nd => (w1 (1, i) (by rw [if_pos ⟨c1, c2⟩]; rfl)).at_ R1.stands nd⟩⟩
        · refine if_false_of (decide_eq_false (by omega)) ?_
          exact goOn (fun z => c2 z.2) _ fun σ H' z => z
      · refine if_false_of (decide_eq_false fun e => c1 (by have := V.int.inj e; omega)) ?_
        exact if_false_of rfl (goOn (fun z => c1 z.1) _ fun σ H' z => z)
    | false =>
      rw [if_neg (by rw [ed]; exact Bool.false_ne_true)] at w1 w2
      unfold numEnd at w1 w2
      dsimp only at w1 w2
      refine if_false_of rfl ?_
      refine ⟨_, rfl, rd_f_place T R1 ⟨_, rfl, rfl, _, rfl, ?_⟩⟩
      rw [eq_nat]
      by_cases c1 : i = pl
      · refine if_true_of (decide_eq_true c1) ?_
        exact ⟨_, rfl, _, _, rfl, fun d nd => (w1 (1, pl) (if_pos c1)).at_ R1.stands nd⟩
      · rw [if_neg c1] at w1 w2
        refine if_false_of (decide_eq_false c1) ?_
        refine ⟨_, rfl, _, _, rfl, rfl, _, rfl, ?_⟩
        by_cases c2 : 100 < n
        · refine if_true_of (decide_eq_true (by omega)) (if_true_of rfl ?_)
          exact ⟨_, rfl, _, _, rfl, fun d nd => (w1 (2, pl) (if_pos (.inl c2))).at_ R1.stands nd⟩
        · refine if_false_of (decide_eq_false (by omega)) ?_
          refine ⟨_, rfl, _, rfl, _, _, rfl, rfl, _, rfl, ?_⟩
          by_cases c3 : n < least
          · refine if_true_of (decide_eq_true (by omega)) ?_
            exact ⟨_, rfl, _, _, rfl, fun d nd => (w1 (2, pl) (if_pos (.inr c3))).at_ R1.stands nd⟩
          · refine if_false_of (decide_eq_false (by omega)) ?_
            exact ⟨_, rfl, w2 n i (if_neg (fun z => z.elim c2 c3)) H1 R1⟩
theorem tup2 {K : PySem.W.Frag} {F H : Hp} {r : Addr} {p : List Nat} {pl g : Nat} {fs : List Fm} {lv : List Addr} {M : Mem} {a b : V} {Q : VK} (R : RS K c F H r p pl g fs lv M) (q : ∀ H' ta, RS K c F H' r p pl g fs lv ((ta, .tup [a, b]) :: M) → Q (.ref ta) H') :
    [a, b].length ≤ sizeLine ∧ ∀ t, H t = none → Q (.ref t) (upd H t (.tup [a, b])) := ⟨by show 2 ≤ sizeLine; decide, fun t nt => q _ t (R.add nt _)⟩
theorem ok_numbers (T : Txt K mg c fI) : MOk P w K mg base (L2.CX P w) 4 c.rd "read_numbers" ["self"] (spNumbers K c) := by
  obtain ⟨f, fd, m, F, b⟩ := T.t_Reader_read_numbers
  obtain ⟨_, _, M_Reader_now, G_Reader_now, B_Reader_now⟩ := ok_now (P := P) (w := w) (base := base) T
  obtain ⟨_, _, M_Reader_passes, G_Reader_passes, B_Reader_passes⟩ := ok_passes (P := P) (w := w) (base := base) T
  obtain ⟨_, _, M_Reader_need, G_Reader_need, B_Reader_need⟩ := ok_need (P := P) (w := w) (base := base) T
  obtain ⟨_, _, M_Reader_read_number, G_Reader_read_number, B_Reader_read_number⟩ := ok_number (P := P) (w := w) (base := base) T
  refine ⟨f, fd, m, F.okX sc_Reader_read_numbers (fun vs H Q E h => ?_) (fun cdv A outer s H vs Q E hr h => ⟨_, pss_cons (ps_set (i := 1) sc_Reader_read_numbers.nd rfl (Or.inl rfl) (pe_meth (pv 0) T.c_Reader M_Reader_read_number G_Reader_read_number (hr.mono (by decide)) B_Reader_read_number .nil (passes_call (takes_of rfl rfl rfl rfl) fun _ _ _ _ z => z) (pa_cons pe_int pa_nil))) (pss_cons (ps_set (i := 2) sc_Reader_read_numbers.nd rfl (Or.inl rfl) (pv 1)) (pss_cons (ps_if (pt_val (pe_meth (pv 0) T.c_Reader M_Reader_passes G_Reader_passes (hr.mono (by decide)) B_Reader_passes .nil pass0 (pa_cons pe_str pa_nil))) (pss_cons (ps_set (i := 2) sc_Reader_read_numbers.nd rfl (Or.inl rfl) pe_non) (pss_one (ps_if (pt_cmpR op_ne (pe_meth0 (pv 0) T.c_Reader M_Reader_now G_Reader_now (hr.mono (by decide)) B_Reader_now .nil pass0) (pe_callB call_ord (by rfl) T.b_ord (by decide +kernel) (pa_cons pe_str pa_nil)) (nomark _)) (pss_one (ps_set (i := 2) sc_Reader_read_numbers.nd rfl (Or.inl rfl) (pe_meth (pv 0) T.c_Reader M_Reader_read_number G_Reader_read_number (hr.mono (by decide)) B_Reader_read_number .nil (passes_call (takes_of rfl rfl rfl rfl) fun _ _ _ _ z => z) (pa_cons (pv 1) pa_nil)))) pss_nil))) pss_nil) (pss_cons (ps_expr (pe_meth (pv 0) T.c_Reader M_Reader_need G_Reader_need (hr.mono (by decide)) B_Reader_need .nil (passes_call (takes_of rfl rfl rfl rfl) fun _ _ _ _ z => z) (pa_cons pe_str pa_nil))) (pss_one (ps_ret (pe_tup (pa_cons (pv 1) (pa_cons (pv 2) pa_nil)))))))), ?_⟩), b⟩
  · obtain ⟨_, r, _, _, _, _, _, _, rfl, _⟩ := h; rfl
  · obtain ⟨F0, r, p, pl, g, fs, lv, M, rfl, R, q1, q2⟩ := h
    unfold readNumbers at q1 q2
    refine ⟨_, rfl, rd_meth R (by decide +kernel) ⟨F0, r, p, pl, g, fs, lv, M, 0, rfl, R, fun e h => q1 e (by rw [h]), fun n j hn H1 R1 => ?_⟩⟩
    rw [hn] at q1
    have q2 := fun v j h => q2 v j (by rw [hn]; exact h)
    dsimp only at q1 q2
    refine ⟨_, rfl, _, rfl, rd_passes R1 (k := 44) ⟨by decide +kernel, by decide +kernel⟩ (fun c1 H2 R2 => ⟨_, rfl, if_true_of rfl ?_⟩) fun c1 => ⟨_, rfl, if_false_of rfl ?_⟩⟩
    · rw [if_pos c1] at q1
      have q2 := fun v j h => q2 v j ((if_pos c1).trans h)
      refine ⟨_, rfl, rd_meth R2 (by decide +kernel) ⟨F0, r, p, j + 1, g, fs, lv, M, rfl, R2, _, rfl, by decide +kernel, rfl, _, rfl, ?_⟩⟩
      have e125 : (Str.cps "}").getD 0 0 = 125 := by decide +kernel
      rw [e125, eq_nat]
      by_cases c2 : now p (j + 1) = 125
      · refine if_false_of (by rw [decide_eq_true c2]; rfl) ?_
        refine ⟨_, rfl, rd_meth R2 (by decide +kernel) ⟨F0, r, p, j + 1, g, fs, lv, M, _, 125, rfl, ⟨by decide +kernel, by decide +kernel⟩, R2, fun e h => ?_, fun l hl H3 R3 => ?_⟩⟩
        · unfold need at h; rw [if_pos c2] at h; cases h
        · unfold need at hl; rw [if_pos c2] at hl; cases hl
          exact ⟨_, rfl, _, rfl, tup2 R3 fun H' ta R' => q2 (n, none) _ (if_pos c2) H' ta R'⟩
      · refine if_true_of (by rw [decide_eq_false c2]; rfl) ?_
        rw [if_neg c2] at q1
        have q2 := fun v j h => q2 v j ((if_neg c2).trans h)
        refine ⟨_, rfl, rd_meth R2 (by decide +kernel) ⟨_, rfl, F0, r, p, j + 1, g, fs, lv, M, n, rfl, R2, fun e h => q1 e (by rw [h]), fun k l hk H3 R3 => ?_⟩⟩
        rw [hk] at q1
        have q2 := fun v j h => q2 v j (by rw [hk]; exact h)
        dsimp only at q1 q2
        refine ⟨_, rfl, rd_meth R3 (by decide +kernel) ⟨F0, r, p, l, g, fs, lv, M, _, 125, rfl, ⟨by decide +kernel, by decide +kernel⟩, R3, fun e h => q1 e (by rw [h]), fun t ht H4 R4 => ?_⟩⟩
        exact ⟨_, rfl, _, rfl, tup2 R4 fun H' ta R' => q2 (n, some k) _ (by rw [ht]) H' ta R'⟩
    · rw [if_neg c1] at q1
      have q2 := fun v j h => q2 v j ((if_neg c1).trans h)
      refine ⟨_, rfl, rd_meth R1 (by decide +kernel) ⟨F0, r, p, j, g, fs, lv, M, _, 125, rfl, ⟨by decide +kernel, by decide +kernel⟩, R1, fun e h => q1 e (by rw [h]), fun t ht H4 R4 => ?_⟩⟩
      exact ⟨_, rfl, _, rfl, tup2 R4 fun H' ta R' => q2 (n, some n) _ (by rw [ht]) H' ta R'⟩
theorem ok_count (T : Txt K mg c fI) : MOk P w K mg base (L2.CX P w) 5 c.rd "read_count" ["self"] (spCount K c) := by
  obtain ⟨f, fd, m, F, b⟩ := T.t_Reader_read_count
  obtain ⟨_, _, M_Reader_passes, G_Reader_passes, B_Reader_passes⟩ := ok_passes (P := P) (w := w) (base := base) T
  obtain ⟨_, _, M_Reader_read_numbers, G_Reader_read_numbers, B_Reader_read_numbers⟩ := ok_numbers (P := P) (w := w) (base := base) T
  refine ⟨f, fd, m, F.okX sc_Reader_read_count (fun vs H Q E h => ?_) (fun cdv A outer s H vs Q E hr h => ⟨_, pss_cons (ps_if (pt_val (pe_meth (pv 0) T.c_Reader M_Reader_passes G_Reader_passes (hr.mono (by decide)) B_Reader_passes .nil pass0 (pa_cons pe_str pa_nil))) (pss_one (ps_ret (pe_tup (pa_cons pe_int (pa_cons pe_non pa_nil))))) pss_nil) (pss_cons (ps_if (pt_val (pe_meth (pv 0) T.c_Reader M_Reader_passes G_Reader_passes (hr.mono (by decide)) B_Reader_passes .nil pass0 (pa_cons pe_str pa_nil))) (pss_one (ps_ret (pe_tup (pa_cons pe_int (pa_cons pe_non pa_nil))))) pss_nil) (pss_cons (ps_if (pt_val (pe_meth (pv 0) T.c_Reader M_Reader_passes G_Reader_passes (hr.mono (by decide)) B_Reader_passes .nil pass0 (pa_cons pe_str pa_nil))) (pss_one (ps_ret (pe_tup (pa_cons pe_int (pa_cons pe_int pa_nil))))) pss_nil) (pss_cons (ps_if (pt_val (pe_meth (pv 0) T.c_Reader M_Reader_passes G_Reader_passes (hr.mono (by decide)) B_Reader_passes .nil pass0 (pa_cons pe_str pa_nil))) (pss_one (ps_ret (pe_meth0 (pv 0) T.c_Reader M_Reader_read_numbers G_Reader_read_numbers (hr.mono (by decide)) B_Reader_read_numbers .nil (passes_call (takes_of rfl rfl rfl rfl) fun _ _ _ _ z => z)))) pss_nil) (pss_one (ps_ret pe_non))))), ?_⟩), b⟩
  · obtain ⟨_, r, _, _, _, _, _, _, rfl, _⟩ := h; rfl
  · obtain ⟨F0, r, p, pl, g, fs, lv, M, rfl, R, q1, q2, q3⟩ := h
    unfold readCount at q1 q2 q3
    refine ⟨_, rfl, rd_passes R (k := 42) ⟨by decide +kernel, by decide +kernel⟩ (fun c1 H1 R1 => ⟨_, rfl, if_true_of rfl (tup2 R1 fun H' ta R' => q3 (0, none) _ (if_pos c1) H' ta R')⟩) fun c1 => ⟨_, rfl, if_false_of rfl ?_⟩⟩
    rw [if_neg c1] at q1
    have q2 := fun j h => q2 j ((if_neg c1).trans h)
    have q3 := fun x j h => q3 x j ((if_neg c1).trans h)
    refine ⟨_, rfl, rd_passes R (k := 43) ⟨by decide +kernel, by decide +kernel⟩ (fun c2 H1 R1 => ⟨_, rfl, if_true_of rfl (tup2 R1 fun H' ta R' => q3 (1, none) _ (if_pos c2) H' ta R')⟩) fun c2 => ⟨_, rfl, if_false_of rfl ?_⟩⟩
    rw [if_neg c2] at q1
    have q2 := fun j h => q2 j ((if_neg c2).trans h)
    have q3 := fun x j h => q3 x j ((if_neg c2).trans h)
    refine ⟨_, rfl, rd_passes R (k := 63) ⟨by decide +kernel, by decide +kernel⟩ (fun c3 H1 R1 => ⟨_, rfl, if_true_of rfl (tup2 R1 fun H' ta R' => q3 (0, some 1) _ (if_pos c3) H' ta R')⟩) fun c3 => ⟨_, rfl, if_false_of rfl ?_⟩⟩
    rw [if_neg c3] at q1
    have q2 := fun j h => q2 j ((if_neg c3).trans h)
    have q3 := fun x j h => q3 x j ((if_neg c3).trans h)
    refine ⟨_, rfl, rd_passes R (k := 123) ⟨by decide +kernel, by decide +kernel⟩ (fun c4 H1 R1 => ⟨_, rfl, if_true_of rfl ?_⟩) fun c4 => ⟨_, rfl, if_false_of rfl ?_⟩⟩
    · exact ⟨_, rfl, rd_meth R1 (by decide +kernel) ⟨F0, r, p, pl + 1, g, fs, lv, M, rfl, R1, fun e h => q1 e (by rw [if_pos c4, h]), fun x j h H' ta R' => q3 x j (by rw [if_pos c4, h]) H' ta R'⟩⟩
    · exact q2 pl (if_neg c4) H R
end
end RM
/-! Part CD: pieces ended. -/
namespace RM
open PySem PySem.Spec PyProof.Rows L2 PF
/-- what a count's reading gives, and its memory -/
def CntM (v : V) : Option (Nat × Option Nat) → Mem → Prop
  | none, l => v = .non ∧ l = []
  | some x, l => ∃ a, v = .ref a ∧ l = [(a, .tup [.int x.1, optI x.2])]
theorem rd_count {K : PySem.W.Frag} {c : Cs} {F H : Hp} {r : Addr} {p : List Nat} {pl g : Nat} {fs : List Fm} {lv : List Addr} {M : Mem} {Q : VK} {E : XK} {σ : L2.St} (R : RS K c F H r p pl g fs lv M)
    (h1 : ∀ e, readCount p pl = .error e → FltE c F E e) (h2 : ∀ t j, readCount p pl = .ok (t, j) → ∀ H' tv TM, CntM tv t TM → RS K c F H' r p j g fs lv (TM ++ M) → Q tv H') :
    ∃ a dx fs, V.ref r = .ref a ∧ H a = some (.ins c.rd dx fs) ∧ fs.lookup ("read_count" : Str) = none ∧ tNil σ H fun vs H2 => spCount K c (.ref r :: (vs ++ [])) H2 Q E :=
  rd_meth R (by decide +kernel) ⟨F, r, p, pl, g, fs, lv, M, rfl, R, h1, fun j h H' R' => h2 none j h H' .non [] ⟨rfl, rfl⟩ R', fun x j h H' ta R' => h2 (some x) j h H' (.ref ta) [_] ⟨ta, rfl, rfl⟩ R'⟩
def pieceTail (L : Lv) (q : Except Flt (List Fm × Nat × Nat)) : Except Flt (List Fm × Nat × Lv) := match q with
  | .error e => .error e
  | .ok (fs, j, pl) => .ok ((turnF L.turned fs j).1, pl, { L with turned := false, pieces := L.pieces ++ [(turnF L.turned fs j).2] })
def endPieceL (p : List Nat) (i : Nat) (fs : List Fm) (pl : Nat) (L : Lv) : Except Flt (List Fm × Nat × Lv) := pieceTail L (countLoop p (p.length + 1) fs i pl)
theorem endPiece_eq (p : List Nat) (i : Nat) (S : Rd) : endPiece p i S = match endPieceL p i S.forms S.place S.top with
    | .error e => .error e
    | .ok (fs, pl, L) => .ok { S with place := pl, forms := fs, top := L } := by
  unfold endPiece endPieceL pieceTail
  cases countLoop p (p.length + 1) S.forms i S.place with
  | error e => rfl
  | ok y => obtain ⟨fs, j, pl⟩ := y; rfl
def contd (p : List Nat) (m : Nat) (t : Option (Nat × Option Nat)) (fs : List Fm) (i pl : Nat) : Except Flt (List Fm × Nat × Nat) := match t with
  | none => .ok (fs, i, pl)
  | some x => countLoop p m (fs ++ [⟨.counted, [i], .cnt x.1 x.2⟩]) fs.length pl
theorem countLoop_eq (p : List Nat) (m : Nat) (fs : List Fm) (i pl : Nat) : countLoop p (m + 1) fs i pl = match readCount p pl with
    | .error e => .error e
    | .ok (t, j) => contd p m t fs i j := by
  rw [countLoop]
  cases readCount p pl with
  | error e => rfl
  | ok y =>
    obtain ⟨t, j⟩ := y
    cases t <;> rfl
def spEndPiece (K : PySem.W.Frag) (c : Cs) : Sp := fun vs H Q E => ∃ F r p pl g fs lv M x L, ∃ i : Nat, vs = [.ref r, .int i] ∧ Ok8 p ∧ pl ≤ p.length ∧ Sz (fs.length + p.length + 5) ∧ Sz L.pieces.length ∧ RS K c F H r p pl g fs (lv ++ [x.a]) (lvM c.lv x L ++ M) ∧
  (∀ e, endPieceL p i fs pl L = .error e → FltE c F E e) ∧ (∀ fs' pl' L', endPieceL p i fs pl L = .ok (fs', pl', L') → ∀ H', RS K c F H' r p pl' g fs' (lv ++ [x.a]) (lvM c.lv x L' ++ M) → Q .non H')
theorem last_lv (lv : List Addr) (a : Addr) : atI ((lv ++ [a]).map V.ref) (-1) = some (.ref a) := by
  rw [List.map_append]; exact atI_last _ _
section
variable {P : Program} {w : World} {K : PySem.W.Frag} {mg : Str → Option Value} {base : Heap} {c : Cs} {fI : Addr}
/-- self.levels[-1] -/
theorem rd_last {F H : Hp} {r : Addr} {p : List Nat} {pl g : Nat} {fs : List Fm} {lv : List Addr} {M : Mem} {x : Addr} {Q : V → Prop} (T : Txt K mg c fI) (R : RS K c F H r p pl g fs (lv ++ [x]) M) (q : Q (.ref x)) :
    ∃ a C dx fs v, V.ref r = .ref a ∧ H a = some (.ins C dx fs) ∧ Cls K C ∧ NoAttr K C "levels" ∧ fs.lookup ("levels" : Str) = some v ∧ ∃ i, V.int 1 = .int i ∧ ∃ p xs j y, v = .ref p ∧ V.int (-i) = .int j ∧ SqL K H p xs ∧ atI xs j = some y ∧ Q y :=
  rd_f_levels T R fun ll hl => ⟨_, rfl, ll, _, -1, _, rfl, rfl, SqL.of hl, last_lv lv x, q⟩
theorem ok_endPiece (T : Txt K mg c fI) : MOk P w K mg base (L2.CX P w) 6 c.rd "end_piece" ["self", "atom"] (spEndPiece K c) := by
  obtain ⟨f, fd, m, F, b⟩ := T.t_Reader_end_piece
  obtain ⟨_, _, M_Reader_keep, G_Reader_keep, B_Reader_keep⟩ := ok_keep (P := P) (w := w) (base := base) T
  obtain ⟨_, _, M_Reader_read_count, G_Reader_read_count, B_Reader_read_count⟩ := ok_count (P := P) (w := w) (base := base) T
  refine ⟨f, fd, m, F.okX sc_Reader_end_piece (fun vs H Q E h => ?_) (fun cdv A outer s H vs Q E hr h => ⟨_, pss_cons (ps_set (i := 2) sc_Reader_end_piece.nd rfl (Or.inl rfl) (pe_ix ix_list (pe_fld (pv 0) rfl) (pe_un un_neg pe_int) (fun _ _ => rfl))) (pss_cons (ps_set (i := 3) sc_Reader_end_piece.nd rfl (Or.inl rfl) (pv 1)) (pss_cons (ps_set (i := 4) sc_Reader_end_piece.nd rfl (Or.inl rfl) (pe_meth0 (pv 0) T.c_Reader M_Reader_read_count G_Reader_read_count (hr.mono (by decide)) B_Reader_read_count .nil (passes_call (takes_of rfl rfl rfl rfl) fun _ _ _ _ z => z))) (pss_cons (ps_while (passes_of rfl) (pt_cmpR op_notN (pv 4) pe_non (nomark _)) (pss_cons (ps_set (i := 3) sc_Reader_end_piece.nd rfl (Or.inl rfl) (pe_meth (pv 0) T.c_Reader M_Reader_keep G_Reader_keep (hr.mono (by decide)) B_Reader_keep .nil pass0 (pa_cons (pe_globS rfl T.g_COUNTED) (pa_cons (pe_lst (pa_cons (pv 3) pa_nil)) (pa_cons (pv 4) pa_nil))))) (pss_one (ps_set (i := 4) sc_Reader_end_piece.nd rfl (Or.inl rfl) (pe_meth0 (pv 0) T.c_Reader M_Reader_read_count G_Reader_read_count (hr.mono (by decide)) B_Reader_read_count .nil (passes_call (takes_of rfl rfl rfl rfl) fun _ _ _ _ z => z)))))) (pss_cons (ps_if (pt_val (pe_fld (pv 2) rfl)) (pss_cons (ps_set (i := 3) sc_Reader_end_piece.nd rfl (Or.inl rfl) (pe_meth (pv 0) T.c_Reader M_Reader_keep G_Reader_keep (hr.mono (by decide)) B_Reader_keep .nil pass0 (pa_cons (pe_globS rfl T.g_TURNED) (pa_cons (pe_lst (pa_cons (pv 3) pa_nil)) (pa_cons pe_non pa_nil))))) (pss_one (ps_fld (pv 2) pe_bl rfl))) pss_nil) (pss_one (ps_expr (pe_bm PySem.F.plainAttrs_list PySem.F.slot_list_append PySem.F.type_list_append mt_append (pe_fld (pv 2) rfl) (pa_cons (pv 3) pa_nil)))))))), ?_⟩), b⟩
  · obtain ⟨_, r, _, _, _, _, _, _, _, _, _, rfl, _⟩ := h; rfl
  · obtain ⟨F0, r, p, pl, g, fs, lv, M, x, L, i, rfl, hp, hpl, hb, hb2, R, q1, q2⟩ := h
    unfold endPieceL at q1 q2
    rw [countLoop_eq] at q1 q2
    refine ⟨_, rfl, rd_last T R ⟨_, rfl, _, rfl, rd_count R (fun e h => q1 e (by rw [h]; rfl)) fun t j ht H1 tv TM hc R1 => ?_⟩⟩
    rw [ht] at q1 q2
    dsimp only at q1 q2
    -- the loop over the counts
    refine ⟨fun m σ H' => ∃ t tv TM fs1, ∃ i1 pl1 : Nat, σ = [some (.ref r), some (.int i), some (.ref x.a), some (.int i1), some tv] ∧ CntM tv t TM ∧ pl1 ≤ p.length ∧ (t ≠ none → p.length - pl1 < m) ∧ RS K c F0 H' r p pl1 g fs1 (lv ++ [x.a]) (TM ++ (lvM c.lv x L ++ M)) ∧
      fs1.length + (p.length - pl1) + (if t = none then 0 else 1) ≤ fs.length + (p.length - pl) ∧ (∀ e, pieceTail L (contd p m t fs1 i1 pl1) = .error e → FltE c F0 E e) ∧
      (∀ fs' pl' L', pieceTail L (contd p m t fs1 i1 pl1) = .ok (fs', pl', L') → ∀ H', RS K c F0 H' r p pl' g fs' (lv ++ [x.a]) (lvM c.lv x L' ++ M) → Q .non H'), ⟨p.length, t, tv, TM, fs, i, j, rfl, hc, ?_, ?_, R1, ?_, q1, q2⟩, ?_⟩
    · cases t with
      | none => have := readCount_none ht; omega
      | some y => exact (readCount_lt hp ht).2.1
    · intro hn
      cases t with
      | none => exact absurd rfl hn
      | some y => have := readCount_lt hp ht; omega
    · cases t with
      | none => have := readCount_none ht; rw [if_pos rfl]; omega
      | some y => have := readCount_lt hp ht; rw [if_neg (fun z => by cases z)]; omega
    rintro m σ H2 ⟨t, tv, TM, fs1, i1, pl1, rfl, hc, hl, hm, R2, hn, w1, w2⟩
    cases t with
    | some y =>
      obtain ⟨m', rfl⟩ : ∃ m', m = m' + 1 := ⟨m - 1, by have := hm (fun z => by cases z); omega⟩
      have tm : ToldM tv (.cnt y.1 y.2) TM := hc
      obtain ⟨ta, rfl, rfl⟩ := hc
      refine ⟨_, rfl, rfl, _, rfl, ?_⟩
      refine if_true_of (c := !decide (V.ref ta = V.non)) rfl ⟨_, fun σ' H' z => ⟨m', Nat.lt_succ_self _, z⟩, ?_⟩
      rw [if_neg (fun z => by cases z)] at hn
      have hsz : Sz fs1.length := Nat.lt_of_le_of_lt (by omega) hb
      refine ⟨_, rfl, rd_meth R2 (by decide +kernel) ⟨_, rfl, (by decide : 1 ≤ sizeLine), fun pa npa => ?_⟩⟩
      have R3 := R2.add npa (.lst [V.int i1])
      refine ⟨_, rfl, F0, r, p, pl1, g, fs1, _, _, .counted, pa, [i1], .ref ta, _, _, rfl, tm, hsz, R3, fun H3 R4 => ?_⟩
      have w1' := w1
      have w2' := w2
      unfold contd at w1' w2'
      dsimp only at w1' w2'
      rw [countLoop_eq] at w1' w2'
      refine ⟨_, rfl, rd_count R4 (fun e h => w1' e (by rw [h]; rfl)) fun t2 j2 ht2 H4 tv2 TM2 hc2 R5 => ?_⟩
      rw [ht2] at w1' w2'
      dsimp only at w1' w2'
      have hfl : (fs1 ++ [(⟨.counted, [i1], .cnt y.1 y.2⟩ : Fm)]).length = fs1.length + 1 := by rw [List.length_append]; rfl
      refine ⟨t2, tv2, TM2, _, fs1.length, j2, rfl, hc2, ?_, ?_, R5, ?_, w1', w2'⟩
      · cases t2 with
        | none => have := readCount_none ht2; omega
        | some y2 => exact (readCount_lt hp ht2).2.1
      · intro hn2
        cases t2 with
        | none => exact absurd rfl hn2
        | some y2 =>
          have := readCount_lt hp ht2
          have := hm (fun z => by cases z)
          omega
      · rw [hfl]
        cases t2 with
        | none => have := readCount_none ht2; rw [if_pos rfl]; omega
        | some y2 => have := readCount_lt hp ht2; rw [if_neg (fun z => by cases z)]; omega
    | none =>
      obtain ⟨rfl, rfl⟩ := hc
      rw [if_pos rfl] at hn
      have hsz : Sz fs1.length := Nat.lt_of_le_of_lt (by omega) hb
      have R3 : RS K c F0 H2 r p pl1 g fs1 (lv ++ [x.a]) (lvM c.lv x L ++ M) := R2
      have w3 := w2 _ _ _ rfl
      refine ⟨_, rfl, rfl, _, rfl, ?_⟩
      refine if_false_of (c := !decide (V.non = V.non)) rfl ?_
      refine ⟨_, rfl, obj_f (R3.get 0 rfl) T.c_Level T.n_Level_turned lv_turned ⟨_, rfl, ?_⟩⟩
      cases ht : L.turned with
      | true =>
        rw [ht] at w3
        refine if_true_of rfl ?_
        refine ⟨_, rfl, rd_meth R3 (by decide +kernel) ⟨_, rfl, (by decide : 1 ≤ sizeLine), fun pa npa => ?_⟩⟩
        refine ⟨F0, r, p, pl1, g, fs1, _, _, .turned, pa, [i1], .non, .non, [], rfl, ⟨rfl, rfl⟩, hsz, R3.add npa (.lst [V.int i1]), fun H3 R4 => ?_⟩
        -- level.turned = False
        refine ⟨_, rfl, x.a, _, x.dx, _, rfl, R4.get 0 rfl, T.c_Level, T.n_Level_turned, (by show 7 < 1000; decide), ?_⟩
        rw [lv_put_turned false]
        have R5 := R4.put 0 (lvO c.lv x { L with turned := false }) rfl
        refine ⟨_, rfl, obj_f (R5.get 0 rfl) T.c_Level T.n_Level_pieces lv_pieces ⟨.inl ⟨rfl, _, SqL.of (R5.get 3 rfl)⟩, _, rfl, x.c, _, _, rfl, rfl, R5.get 3 rfl, by rw [nls_len]; exact hb2.lt, ?_⟩⟩
        have R6 := R5.put 3 (.lst (nls (L.pieces ++ [fs1.length]))) rfl
        rw [← nls_app] at R6
        refine w3 _ ?_
        show RS K c F0 _ r p pl1 g _ (lv ++ [x.a]) ((x.a, lvO c.lv x { L with turned := false }) :: (x.r, .lst (nls L.rows)) :: (x.q, .lst (nls L.parts)) :: (x.c, .lst (nls (L.pieces ++ [fs1.length]))) :: M)
        rw [← nls_app]
        exact R6
      | false =>
        rw [ht] at w3
        refine if_false_of rfl ?_
        refine ⟨_, rfl, obj_f (R3.get 0 rfl) T.c_Level T.n_Level_pieces lv_pieces ⟨.inl ⟨rfl, _, SqL.of (R3.get 3 rfl)⟩, _, rfl, x.c, _, _, rfl, rfl, R3.get 3 rfl, by rw [nls_len]; exact hb2.lt, ?_⟩⟩
        have R6 := R3.put 3 (.lst (nls (L.pieces ++ [i1]))) rfl
        rw [← nls_app] at R6
        refine w3 _ ?_
        show RS K c F0 _ r p pl1 g fs1 (lv ++ [x.a]) ((x.a, lvO c.lv x { L with turned := false }) :: (x.r, .lst (nls L.rows)) :: (x.q, .lst (nls L.parts)) :: (x.c, .lst (nls (L.pieces ++ [i1]))) :: M)
        have eL : lvO c.lv x { L with turned := false } = lvO c.lv x L := by
          unfold lvO; rw [ht]
        rw [eL, ← nls_app]
        exact R6
end
end RM
/-! Part A8: how much a reader holds. -/
namespace PF
open WrPatt
def Lv.Sm (n : Nat) (L : Lv) : Prop := L.rows.length ≤ n ∧ L.parts.length ≤ n ∧ L.pieces.length ≤ n
structure Rd.Sm (p : List Nat) (S : Rd) : Prop where
  pl : S.place ≤ p.length
  fs : S.forms.length ≤ 5 * S.place
  top : S.top.Sm S.place
  below : ∀ L ∈ S.below, L.Sm S.place
  deep : S.below.length ≤ S.place
theorem Lv.Sm.mono {n m : Nat} {L : Lv} (h : L.Sm n) (l : n ≤ m) : L.Sm m := ⟨Nat.le_trans h.1 l, Nat.le_trans h.2.1 l, Nat.le_trans h.2.2 l⟩
theorem start_sm (p : List Nat) : Rd.start.Sm p := ⟨Nat.zero_le _, Nat.le_refl _, ⟨Nat.le_refl _, Nat.le_refl _, Nat.le_refl _⟩, (fun L h => absurd h (List.not_mem_nil)), Nat.le_refl _⟩
theorem countLoop_sm {p : List Nat} (hp : Ok8 p) : ∀ {f : Nat} {fs fs' : List Fm} {i j pl pl' : Nat}, countLoop p f fs i pl = .ok (fs', j, pl') → pl ≤ p.length → pl ≤ pl' ∧ pl' ≤ p.length ∧ fs'.length ≤ fs.length + (pl' - pl)
  | 0, _, _, _, _, _, _, h, _ => by rw [countLoop] at h; cases h
  | f + 1, fs, fs', i, j, pl, pl', h, hl => by
    rw [countLoop] at h
    cases e : readCount p pl with
    | error _ => rw [e] at h; cases h
    | ok y =>
      obtain ⟨t, k⟩ := y
      rw [e] at h
      cases t with
      | none =>
        have := readCount_none e
        cases h
        omega
      | some c =>
        have h1 := readCount_lt hp e
        have h2 := countLoop_sm hp (f := f) h h1.2.1
        rw [List.length_append] at h2
        have : ([⟨.counted, [i], .cnt c.1 c.2⟩] : List Fm).length = 1 := rfl
        omega
theorem turnF_len (t : Bool) (fs : List Fm) (i : Nat) : (turnF t fs i).1.length ≤ fs.length + 1 := by
  unfold turnF
  split
  · rw [List.length_append]; exact Nat.le_refl _
  · exact Nat.le_succ _
theorem groupF_len (k : Option Nat) (fs : List Fm) (i : Nat) : (groupF k fs i).1.length ≤ fs.length + 1 := by
  unfold groupF
  cases k with
  | none => exact Nat.le_succ _
  | some k => show (fs ++ _).length ≤ _; rw [List.length_append]; exact Nat.le_refl _
theorem keepJoined_le {kd : Kd} {fs : List Fm} : ∀ {js : List Nat}, (keepJoined kd fs js).1.length ≤ fs.length + 1
  | [] => by show (fs ++ _).length ≤ _; rw [List.length_append]; exact Nat.le_refl _
  | [_] => Nat.le_succ _
  | _ :: _ :: _ => by show (fs ++ _).length ≤ _; rw [List.length_append]; exact Nat.le_refl _
theorem endPiece_sm {p : List Nat} (hp : Ok8 p) {i n : Nat} {S S' : Rd} (h : endPiece p i S = .ok S') (pl : S.place ≤ p.length) (hn : n < S.place) (fs : S.forms.length + 1 ≤ 5 * S.place) (top : S.top.Sm n) (below : ∀ L ∈ S.below, L.Sm n) (deep : S.below.length ≤ n) : S'.Sm p := by
  unfold endPiece at h
  cases e : countLoop p (p.length + 1) S.forms i S.place with
  | error _ => rw [e] at h; cases h
  | ok y =>
    obtain ⟨fs', j, pl'⟩ := y
    rw [e] at h
    have b := countLoop_sm hp e pl
    have t := turnF_len S.top.turned fs' j
    cases h
    refine ⟨b.2.1, ?_, ⟨?_, ?_, ?_⟩, fun L hL => (below L hL).mono (by show n ≤ pl'; omega), by show S.below.length ≤ pl'; omega⟩
    · show (turnF S.top.turned fs' j).1.length ≤ 5 * pl'
      omega
    · have := top.1; show S.top.rows.length ≤ pl'; omega
    · have := top.2.1; show S.top.parts.length ≤ pl'; omega
    · have := top.2.2; show (S.top.pieces ++ _).length ≤ pl'; rw [List.length_append, List.length_singleton]; omega
theorem readEscAtom_lt {p : List Nat} {i j : Nat} {fm : Fm} (h : readEscAtom p i = .ok (fm, j)) : i < j ∧ j ≤ p.length := by
  unfold readEscAtom at h
  split at h
  · rename_i hc; cases h; exact ⟨Nat.lt_succ_self _, lt_of_now (by omega)⟩
  split at h
  · rename_i hc; cases h; exact ⟨Nat.lt_succ_self _, lt_of_now (by omega)⟩
  cases e : readEscaped p i with
  | error _ => rw [e] at h; cases h
  | ok y => obtain ⟨v, k⟩ := y; rw [e] at h; cases h; exact readEscaped_lt e
theorem readAtom_lt {p : List Nat} {i j : Nat} {fm : Fm} (h : readAtom p i = .ok (fm, j)) : i < j ∧ j ≤ p.length := by
  unfold readAtom at h
  split at h
  · cases e : readSet p (i + 1) with
    | error _ => rw [e] at h; cases h
    | ok y => obtain ⟨v, k⟩ := y; rw [e] at h; cases h; have := readSet_lt e; omega
  split at h
  · cases h; exact ⟨Nat.lt_succ_self _, lt_of_now (by omega)⟩
  split at h
  · cases h; exact ⟨Nat.lt_succ_self _, lt_of_now (by omega)⟩
  split at h
  · cases h; exact ⟨Nat.lt_succ_self _, lt_of_now (by omega)⟩
  split at h
  · have := readEscAtom_lt h; omega
  cases e : readPlain notPlain p i with
  | error _ => rw [e] at h; cases h
  | ok y => obtain ⟨v, k⟩ := y; rw [e] at h; cases h; exact readPlain_lt e
theorem step_sm {p : List Nat} (hp : Ok8 p) {S S' : Rd} (s : S.Sm p) (hlt : S.place < p.length) (h : step p S = .ok S') : S'.Sm p := by
  have up : ∀ {n : Nat}, S.place ≤ n → (∀ L ∈ S.below, L.Sm n) := fun l L hL => (s.below L hL).mono l
  unfold step at h
  split at h
  · -- an opening bracket
    unfold openBracket at h
    split at h
    · rename_i hc
      have : S.place + 1 < p.length := lt_of_now (by omega)
      have := s.fs
      have := s.deep
      cases h
      refine ⟨by show S.place + 2 ≤ _; omega, by show S.forms.length ≤ 5 * (S.place + 2); omega, ⟨Nat.zero_le _, Nat.zero_le _, Nat.zero_le _⟩, fun L hL => ?_, by show S.below.length + 1 ≤ S.place + 2; omega⟩
      rcases List.mem_cons.mp hL with e | e
      · rw [e]; exact s.top.mono (by show S.place ≤ S.place + 2; omega)
      · exact up (by show S.place ≤ S.place + 2; omega) L e
    · split at h
      · cases h
      · have := s.fs
        have := s.deep
        cases h
        refine ⟨hlt, by show S.forms.length ≤ 5 * (S.place + 1); omega, ⟨Nat.zero_le _, Nat.zero_le _, Nat.zero_le _⟩, fun L hL => ?_, by show S.below.length + 1 ≤ S.place + 1; omega⟩
        rcases List.mem_cons.mp hL with e | e
        · rw [e]; exact s.top.mono (Nat.le_succ _)
        · exact up (Nat.le_succ _) L e
  split at h
  · -- an atom
    unfold atomStep at h
    cases e : readAtom p S.place with
    | error _ => rw [e] at h; cases h
    | ok y =>
      obtain ⟨fm, j⟩ := y
      have b := readAtom_lt e
      rw [e] at h
      have := s.fs
      refine endPiece_sm hp (n := S.place) h b.2 b.1 ?_ s.top s.below s.deep
      show (S.forms ++ [fm]).length + 1 ≤ 5 * j
      rw [List.length_append, List.length_singleton]
      omega
  split at h
  · cases h
    have := s.fs
    have := s.deep
    exact ⟨hlt, by show S.forms.length ≤ 5 * (S.place + 1); omega, s.top.mono (Nat.le_succ _), up (Nat.le_succ _), by show S.below.length ≤ S.place + 1; omega⟩
  split at h
  · cases h
    have := s.fs
    have := s.deep
    have h1 : (endPartL S.groups S.forms S.top).1.length ≤ S.forms.length + 1 := keepJoined_le
    have h2 : (endRowL S.groups S.forms S.top).1.length ≤ (endPartL S.groups S.forms S.top).1.length + 1 := keepJoined_le
    refine ⟨hlt, by show (endRowL S.groups S.forms S.top).1.length ≤ 5 * (S.place + 1); omega, ⟨?_, Nat.zero_le _, Nat.zero_le _⟩, up (Nat.le_succ _), by show S.below.length ≤ S.place + 1; omega⟩
    have := s.top.1
    show (S.top.rows ++ _).length ≤ S.place + 1
    rw [List.length_append, List.length_singleton]
    omega
  split at h
  · unfold passBoth at h
    split at h
    · cases h
    · cases h
      have := s.fs
      have := s.deep
      have h1 : (endPartL S.groups S.forms S.top).1.length ≤ S.forms.length + 1 := keepJoined_le
      refine ⟨hlt, by show (endPartL S.groups S.forms S.top).1.length ≤ 5 * (S.place + 1); omega, ⟨?_, ?_, Nat.zero_le _⟩, up (Nat.le_succ _), by show S.below.length ≤ S.place + 1; omega⟩
      · have := s.top.1; show S.top.rows.length ≤ S.place + 1; omega
      · have := s.top.2.1
        show (S.top.parts ++ _).length ≤ S.place + 1
        rw [List.length_append, List.length_singleton]
        omega
  · unfold closeBracket at h
    cases eb : S.below with
    | nil => rw [eb] at h; cases h
    | cons l r =>
      rw [eb] at h
      dsimp only at h
      have := s.fs
      have hd := s.deep
      rw [eb] at hd
      have h1 : (endPartL S.groups S.forms S.top).1.length ≤ S.forms.length + 1 := keepJoined_le
      have h2 : (endRowL S.groups S.forms S.top).1.length ≤ (endPartL S.groups S.forms S.top).1.length + 1 := keepJoined_le
      have h3 : (endLevelL S.groups S.forms S.top).1.length ≤ (endRowL S.groups S.forms S.top).1.length + 1 := keepJoined_le
      have h4 := groupF_len S.top.group (endLevelL S.groups S.forms S.top).1 (endLevelL S.groups S.forms S.top).2.2
      have hl : ∀ L ∈ l :: r, L.Sm S.place := by rw [← eb]; exact s.below
      refine endPiece_sm hp (n := S.place) h hlt (Nat.lt_succ_self _) ?_ (hl l List.mem_cons_self) (fun L hL => hl L (List.mem_cons_of_mem _ hL)) ?_
      · show (groupF S.top.group (endLevelL S.groups S.forms S.top).1 (endLevelL S.groups S.forms S.top).2.2).1.length + 1 ≤ 5 * (S.place + 1)
        omega
      · show r.length ≤ S.place
        have : (l :: r).length = r.length + 1 := rfl
        omega
end PF
/-! Part CE: &, brackets. -/
namespace RM
open PySem PySem.Spec PyProof.Rows L2 PF
def spPassBoth (K : PySem.W.Frag) (c : Cs) : Sp := fun vs H Q E => ∃ F r p pl g fs lv M x L, vs = [.ref r, .ref x.a] ∧ Sz fs.length ∧ Sz L.parts.length ∧ RS K c F H r p pl g fs lv (lvM c.lv x L ++ M) ∧
  (L.gbp < g → FltE c F E (4, pl)) ∧ (¬ L.gbp < g → ∀ H' x', x'.a = x.a → RS K c F H' r p (pl + 1) g (endPartL g fs L).1 lv (lvM c.lv x' (endPartL g fs L).2 ++ M) → Q .non H')
/-- a def over the whole state, with its mirror -/
def spState (K : PySem.W.Frag) (c : Cs) (mir : List Nat → Rd → Except Flt Rd) : Sp := fun vs H Q E => ∃ F r p S, vs = [.ref r] ∧ Ok8 p ∧ p.length ≤ 300 ∧ S.Sm p ∧ S.place < p.length ∧ RdAt K c F H r p S ∧
  (∀ e, mir p S = .error e → FltE c F E e) ∧ (∀ S', mir p S = .ok S' → ∀ H', RdAt K c F H' r p S' → Q .non H')
theorem sm_sz {p : List Nat} {S : Rd} (s : S.Sm p) (hp : p.length ≤ 300) : Sz (S.forms.length + p.length + 10) ∧ Sz S.top.rows.length ∧ Sz S.top.parts.length ∧ Sz S.top.pieces.length := by
  have := s.pl
  have := s.fs
  have := s.top.1
  have := s.top.2.1
  have := s.top.2.2
  unfold Sz
  omega
theorem lvs_eq (x : LvA) (st : List (LvA × Lv)) : ((x :: st.map (·.1)).map (·.a)).reverse = ((st.map (·.1)).map (·.a)).reverse ++ [x.a] := by
  rw [List.map_cons, List.reverse_cons]
section
variable {P : Program} {w : World} {K : PySem.W.Frag} {mg : Str → Option Value} {base : Heap} {c : Cs} {fI : Addr}
theorem ok_passBoth (T : Txt K mg c fI) : MOk P w K mg base (L2.CX P w) 6 c.rd "pass_both" ["self", "level"] (spPassBoth K c) := by
  obtain ⟨f, fd, m, F, b⟩ := T.t_Reader_pass_both
  obtain ⟨_, _, M_Reader_end_part, G_Reader_end_part, B_Reader_end_part⟩ := ok_endPart (P := P) (w := w) (base := base) T
  refine ⟨f, fd, m, F.okX sc_Reader_pass_both (fun vs H Q E h => ?_) (fun cdv A outer s H vs Q E hr h => ⟨_, pss_cons (ps_if (pt_cmpR op_gt (pe_fld (pv 0) rfl) (pe_fld (pv 1) rfl) (nomark _)) (pss_one (ps_raiseFlt rfl T.flt hr (takes_of rfl rfl rfl rfl) (pa_cons (pe_globI rfl T.g_WRONG_GROUP) (pa_cons (pe_fld (pv 0) rfl) pa_nil)))) pss_nil) (pss_cons (ps_fldaug (pv 0) pe_int in_add) (pss_one (ps_expr (pe_meth (pv 0) T.c_Reader M_Reader_end_part G_Reader_end_part (hr.mono (by decide)) B_Reader_end_part .nil pass0 (pa_cons (pv 1) pa_nil))))), ?_⟩), b⟩
  · obtain ⟨_, r, _, _, _, _, _, _, _, _, rfl, _⟩ := h; rfl
  · obtain ⟨F0, r, p, pl, g, fs, lv, M, x, L, rfl, hb, hb2, R, q1, q2⟩ := h
    refine ⟨_, rfl, rd_f_groups T R ⟨_, rfl, obj_f (R.get 0 rfl) T.c_Level T.n_Level_groups_before_part lv_groups_before_part ⟨_, _, rfl, rfl, _, rfl, ?_⟩⟩⟩
    by_cases c1 : L.gbp < g
    · refine if_true_of (decide_eq_true (by omega)) ?_
      exact ⟨_, rfl, rd_f_place T R ⟨_, _, rfl, fun d nd => (q1 c1).at_ R.stands nd⟩⟩
    · refine if_false_of (decide_eq_false (by omega)) ?_
      refine rd_inc T R (by rfl) fun H1 R1 => ?_
      exact ⟨_, rfl, rd_meth R1 (by decide +kernel) ⟨_, rfl, F0, r, p, pl + 1, g, fs, lv, M, x, L, rfl, hb, hb2, R1, fun H' x' hx R' => q2 c1 H' x' hx R'⟩⟩
/-- a level more -/
theorem push_lv {F H : Hp} {r : Addr} {p : List Nat} {pl g : Nat} {fs : List Fm} {lv : List Addr} {M : Mem} {Q : VK} {sh : Bool} {g' : Nat} {k : Option Nat} (T : Txt K mg c fI) (R : RS K c F H r p pl g fs lv M) (hl : Sz lv.length)
    (q : ∀ H' y, RS K c F H' r p pl g fs (lv ++ [y.a]) (lvM c.lv y (Lv.new sh g' k) ++ M) → Q .non H') :
    ∃ a C dx fs v, V.ref r = .ref a ∧ H a = some (.ins C dx fs) ∧ Cls K C ∧ NoAttr K C "levels" ∧ fs.lookup ("levels" : Str) = some v ∧ tyV K "list" v H ∧
      (∀ x dx, H x = none → H dx = none → dx ≠ x → spLevelInit c [.ref x, .bl sh, .int g', optI k] (upd (upd H dx (.own x)) x (.ins c.lv dx [])) (fun u H2 => u = .non ∧ rAppend v [.ref x] H2 Q) E0) := by
  obtain ⟨G, dx, pl', fl, ll, fas, s, f, hp, o⟩ := R
  refine ⟨_, _, _, _, _, rfl, o.get 0 rfl, T.c_Reader, T.n_Reader_levels, rd_levels, .inl ⟨rfl, _, SqL.of (o.get 2 rfl)⟩, fun xA dA nx nd ne => ?_⟩
  have o1 := (o.add nd (.own xA)).add (p := xA) (by rw [upd_ne (Ne.symm ne)]; exact nx) (.ins c.lv dA [])
  have o2 := (o1.perm (List.Perm.swap _ _ _)).drop
  refine ⟨G, _, xA, dA, sh, g', k, rfl, o2, fun H1 y hy o3 => ⟨rfl, ll, _, _, rfl, rfl, o3.get 6 rfl, by rw [List.length_map]; exact hl.lt, ?_⟩⟩
  have o4 := o3.put 6 (.lst ((lv ++ [y.a]).map V.ref)) rfl
  have e : (lv ++ [y.a]).map V.ref = lv.map V.ref ++ [V.ref xA] := by rw [List.map_append, hy]; rfl
  rw [← e]
  refine q _ y ⟨G, dx, pl', fl, ll, fas, s, f, hp, o4.perm ?_⟩
  exact (List.perm_append_comm (l₁ := lvM c.lv y (Lv.new sh g' k)) (l₂ := [(r, rdO c.rd dx pl' fl ll pl g), (fl, .lst (fas.map V.ref)), (ll, .lst ((lv ++ [y.a]).map V.ref))])).append_right M
theorem ok_open (T : Txt K mg c fI) : MOk P w K mg base (L2.CX P w) 3 c.rd "open_bracket" ["self"] (spState K c openBracket) := by
  obtain ⟨f, fd, m, F, b⟩ := T.t_Reader_open_bracket
  obtain ⟨_, _, M_Reader_passes, G_Reader_passes, B_Reader_passes⟩ := ok_passes (P := P) (w := w) (base := base) T
  obtain ⟨_, _, M_Level_bars_groups, G_Level_bars_groups, B_Level_bars_groups⟩ := ok_bars (P := P) (w := w) (base := base) T
  obtain ⟨_, _, M_Level, G_Level, B_Level⟩ := ok_level (P := P) (w := w) (base := base) T
  refine ⟨f, fd, m, F.okX sc_Reader_open_bracket (fun vs H Q E h => ?_) (fun cdv A outer s H vs Q E hr h => ⟨_, pss_cons (ps_set (i := 1) sc_Reader_open_bracket.nd rfl (Or.inl rfl) (pe_fld (pv 0) rfl)) (pss_cons (ps_set (i := 2) sc_Reader_open_bracket.nd rfl (Or.inl rfl) (pe_meth0 (pe_ix ix_list (pe_fld (pv 0) rfl) (pe_un un_neg pe_int) (fun _ _ => rfl)) T.c_Level M_Level_bars_groups G_Level_bars_groups (hr.mono (by decide)) B_Level_bars_groups .nil pass0)) (pss_cons (ps_fldaug (pv 0) pe_int in_add) (pss_cons (ps_set (i := 3) sc_Reader_open_bracket.nd rfl (Or.inl rfl) pe_non) (pss_cons (ps_if (pt_not (pt_val (pe_meth (pv 0) T.c_Reader M_Reader_passes G_Reader_passes (hr.mono (by decide)) B_Reader_passes .nil pass0 (pa_cons pe_str pa_nil)))) (pss_cons (ps_if (PW.pt (pw_or (pt_val (pv 2)) (pw_or1 (pt_cmpR op_eq (pe_fld (pv 0) rfl) (pe_globI rfl T.g_MOST_GROUPS) (nomark _))))) (pss_one (ps_raiseFlt rfl T.flt hr (takes_of rfl rfl rfl rfl) (pa_cons (pe_globI rfl T.g_WRONG_GROUP) (pa_cons (pv 1) pa_nil)))) pss_nil) (pss_cons (ps_fldaug (pv 0) pe_int in_add) (pss_one (ps_set (i := 3) sc_Reader_open_bracket.nd rfl (Or.inl rfl) (pe_fld (pv 0) rfl))))) pss_nil) (pss_one (ps_expr (pe_bm PySem.F.plainAttrs_list PySem.F.slot_list_append PySem.F.type_list_append mt_append (pe_fld (pv 0) rfl) (pa_cons (pe_make M_Level G_Level (hr.mono (by decide)) rfl T.g_Level B_Level .nil pass0 (pa_cons (pv 2) (pa_cons (pe_fld (pv 0) rfl) (pa_cons (pv 3) pa_nil)))) pa_nil)))))))), ?_⟩), b⟩
  · obtain ⟨_, r, _, _, rfl, _⟩ := h; rfl
  · obtain ⟨F0, r, p, S, rfl, hp, h300, sm, hlt, ⟨x, st, hst, R⟩, q1, q2⟩ := h
    rw [lvs_eq] at R
    have hdeep : Sz ((((st.map (·.1)).map (·.a)).reverse ++ [x.a]).length) := by
      have hpl := sm.pl
      rw [List.length_append, List.length_reverse, List.length_map, List.length_map, List.length_singleton]
      unfold Sz
      have hd := sm.deep
      rw [← hst, List.length_map] at hd
      omega
    -- what's kept of the state with a level more
    have fin : ∀ {H' : Hp} {y : LvA} {place groups : Nat} {k : Option Nat}, RS K c F0 H' r p place groups S.forms (((st.map (·.1)).map (·.a)).reverse ++ [x.a] ++ [y.a]) (lvM c.lv y (Lv.new S.top.bars groups k) ++ (lvM c.lv x S.top ++ stM c.lv st)) →
        RdAt K c F0 H' r p ⟨place, groups, S.forms, Lv.new S.top.bars groups k, S.top :: S.below⟩ := fun {H' y place groups k} R' =>
      ⟨y, (x, S.top) :: st, by rw [List.map_cons, hst], by rw [lvs_eq, List.map_cons, lvs_eq]; exact R'⟩
    unfold openBracket at q1 q2
    refine ⟨_, rfl, rd_f_place T R ?_⟩
    refine ⟨_, rfl, rd_last T R (obj_m (R.get 0 rfl) (lv_none (by decide +kernel)) ⟨x, S.top, rfl, R.get 0 rfl, R.get 2 rfl, ?_⟩)⟩
    refine rd_inc T R (by rfl) fun H1 R1 => ?_
    refine ⟨_, rfl, rd_passes R1 (k := 58) ⟨by decide +kernel, by decide +kernel⟩ (fun c1 H2 R2 => ⟨_, rfl, if_false_of rfl ?_⟩) fun c1 => ⟨_, rfl, if_true_of rfl ?_⟩⟩
    · refine ⟨_, rfl, ?_⟩
      obtain ⟨a, C, dx, fs', v, e1, e2, e3, e4, e5, e6, h⟩ := push_lv (sh := S.top.bars) (g' := S.groups) (k := none) (Q := fun _ H' => Q .non H') T R2 hdeep fun H' y R' => q2 _ (if_pos c1) H' (fin R')
      exact ⟨a, C, dx, fs', v, e1, e2, e3, e4, e5, e6, _, rfl, _, rfl, rd_f_groups T R2 ⟨_, rfl, h⟩⟩
    · rw [if_neg c1] at q1
      have q2 := fun S' h => q2 S' ((if_neg c1).trans h)
      refine ⟨_, rfl, _, rfl, ?_⟩
      have bad : S.top.bars = true ∨ S.groups = 32 → ∀ d, H1 d = none → E (.ref c.fl) (some d) (upd H1 d (.xd (flt (.int (4 : Nat)) (.int S.place)))) := fun h d nd => (q1 (4, S.place) (if_pos h)).at_ R1.stands nd
      cases eb : S.top.bars with
      | true => exact if_true_of rfl (if_true_of rfl ⟨_, rfl, _, _, rfl, bad (.inl eb)⟩)
      | false =>
        refine if_false_of rfl ⟨_, rfl, rd_f_groups T R1 ⟨rfl, _, rfl, ?_⟩⟩
        have e32 : decide (V.int S.groups = V.int 32) = decide (S.groups = 32) := eq_nat S.groups 32
        rw [e32]
        by_cases c2 : S.groups = 32
        · refine if_true_of (decide_eq_true c2) ?_
          exact ⟨_, rfl, _, _, rfl, bad (.inr c2)⟩
        · refine if_false_of (decide_eq_false c2) ?_
          have q2 := fun S' h => q2 S' ((if_neg (by intro z; rcases z with z | z; rw [eb] at z; cases z; exact c2 z)).trans h)
          refine rd_inc_groups T R1 (by rfl) fun H2 R2 => ?_
          refine ⟨_, rfl, rd_f_groups T R2 ?_⟩
          refine ⟨_, rfl, ?_⟩
          obtain ⟨a, C, dx, fs', v, e1, e2, e3, e4, e5, e6, h⟩ := push_lv (sh := S.top.bars) (g' := S.groups + 1) (k := some (S.groups + 1)) (Q := fun _ H' => Q .non H') T R2 hdeep fun H' y R' => q2 _ rfl H' (fin R')
          rw [eb] at h
          exact ⟨a, C, dx, fs', v, e1, e2, e3, e4, e5, e6, _, rfl, _, rfl, rd_f_groups T R2 ⟨_, rfl, h⟩⟩
end
end RM
/-! Part CF: a closing bracket; a step. -/
namespace RM
open PySem PySem.Spec PyProof.Rows L2 PF
theorem endLevelL_len {g : Nat} {fs : List Fm} {L : Lv} : (endLevelL g fs L).1.length ≤ fs.length + 3 := by
  have h2 : (endRowL g fs L).1.length ≤ fs.length + 2 := endRowL_len
  have h3 : (endLevelL g fs L).1.length ≤ (endRowL g fs L).1.length + 1 := keepJoined_le
  omega
section
variable {P : Program} {w : World} {K : PySem.W.Frag} {mg : Str → Option Value} {base : Heap} {c : Cs} {fI : Addr}
/-- a level less -/
theorem pop_lv {F H : Hp} {r : Addr} {p : List Nat} {pl g : Nat} {fs : List Fm} {lv : List Addr} {M : Mem} {Q : VK} {x : Addr} (T : Txt K mg c fI) (R : RS K c F H r p pl g fs (lv ++ [x]) M) (q : ∀ H', RS K c F H' r p pl g fs lv M → Q (.ref x) H') :
    ∃ a C dx fs v, V.ref r = .ref a ∧ H a = some (.ins C dx fs) ∧ Cls K C ∧ NoAttr K C "levels" ∧ fs.lookup ("levels" : Str) = some v ∧ tyV K "list" v H ∧ rPop v [] H Q := by
  obtain ⟨G, dx, pl', fl, ll, fas, s, f, hp, o⟩ := R
  refine ⟨_, _, _, _, _, rfl, o.get 0 rfl, T.c_Reader, T.n_Reader_levels, rd_levels, .inl ⟨rfl, _, SqL.of (o.get 2 rfl)⟩, ll, _, .ref x, rfl, rfl, o.get 2 rfl, ?_, ?_⟩
  · rw [List.map_append, List.length_append]
    show (lv.map V.ref ++ [V.ref x])[(lv.map V.ref).length + 1 - 1]? = _
    rw [Nat.add_sub_cancel, List.getElem?_append_right (Nat.le_refl _), Nat.sub_self]
    rfl
  · have o2 := o.put 2 (.lst (lv.map V.ref)) rfl
    have e : ((lv ++ [x]).map V.ref).dropLast = lv.map V.ref := by rw [List.map_append]; exact List.dropLast_concat
    rw [e]
    exact q _ ⟨G, dx, pl', fl, ll, fas, s, f, hp, o2⟩
theorem ok_close (T : Txt K mg c fI) : MOk P w K mg base (L2.CX P w) 8 c.rd "close_bracket" ["self"] (spState K c closeBracket) := by
  obtain ⟨f, fd, m, F, b⟩ := T.t_Reader_close_bracket
  obtain ⟨_, _, M_Reader_keep, G_Reader_keep, B_Reader_keep⟩ := ok_keep (P := P) (w := w) (base := base) T
  obtain ⟨_, _, M_Reader_end_level, G_Reader_end_level, B_Reader_end_level⟩ := ok_endLevel (P := P) (w := w) (base := base) T
  obtain ⟨_, _, M_Reader_end_piece, G_Reader_end_piece, B_Reader_end_piece⟩ := ok_endPiece (P := P) (w := w) (base := base) T
  refine ⟨f, fd, m, F.okX sc_Reader_close_bracket (fun vs H Q E h => ?_) (fun cdv A outer s H vs Q E hr h => ⟨_, pss_cons (ps_if (pt_cmpR op_eq (pe_callB call_len_seq (by rfl) T.b_len PySem.boot_len (pa_cons (pe_fld (pv 0) rfl) pa_nil)) pe_int (nomark _)) (pss_one (ps_raiseFlt rfl T.flt hr (takes_of rfl rfl rfl rfl) (pa_cons (pe_globI rfl T.g_CANNOT_STAND) (pa_cons (pe_fld (pv 0) rfl) pa_nil)))) pss_nil) (pss_cons (ps_fldaug (pv 0) pe_int in_add) (pss_cons (ps_set (i := 1) sc_Reader_close_bracket.nd rfl (Or.inl rfl) (pe_bm0 PySem.F.plainAttrs_list PySem.F.slot_list_pop PySem.F.type_list_pop mt_pop (pe_fld (pv 0) rfl))) (pss_cons (ps_set (i := 2) sc_Reader_close_bracket.nd rfl (Or.inl rfl) (pe_meth (pv 0) T.c_Reader M_Reader_end_level G_Reader_end_level (hr.mono (by decide)) B_Reader_end_level .nil pass0 (pa_cons (pv 1) pa_nil))) (pss_cons (ps_if (pt_cmpR op_notN (pe_fld (pv 1) rfl) pe_non (nomark _)) (pss_one (ps_set (i := 2) sc_Reader_close_bracket.nd rfl (Or.inl rfl) (pe_meth (pv 0) T.c_Reader M_Reader_keep G_Reader_keep (hr.mono (by decide)) B_Reader_keep .nil pass0 (pa_cons (pe_globS rfl T.g_GROUP) (pa_cons (pe_lst (pa_cons (pv 2) pa_nil)) (pa_cons (pe_fld (pv 1) rfl) pa_nil)))))) pss_nil) (pss_one (ps_expr (pe_meth (pv 0) T.c_Reader M_Reader_end_piece G_Reader_end_piece (hr.mono (by decide)) B_Reader_end_piece .nil (passes_call (takes_of rfl rfl rfl rfl) fun _ _ _ _ z => z) (pa_cons (pv 2) pa_nil)))))))), ?_⟩), b⟩
  · obtain ⟨_, r, _, _, rfl, _⟩ := h; rfl
  · obtain ⟨F0, r, p, S, rfl, hp, h300, sm, hlt, ⟨x, st, hst, R⟩, q1, q2⟩ := h
    obtain ⟨z1, z2, z3, z4⟩ := sm_sz sm h300
    rw [lvs_eq] at R
    unfold closeBracket at q1 q2
    refine ⟨_, rfl, rd_f_levels T R fun ll hl => ⟨_, _, rfl, .inl (SqL.of hl), rfl, _, rfl, ?_⟩⟩
    have el : ((((st.map (·.1)).map (·.a)).reverse ++ [x.a]).map V.ref).length = st.length + 1 := by
      rw [List.length_map, List.length_append, List.length_reverse, List.length_map, List.length_map]; rfl
    have e1 : decide (V.int (((((st.map (·.1)).map (·.a)).reverse ++ [x.a]).map V.ref).length : Nat) = V.int 1) = decide (st.length + 1 = 1) := by
      rw [el]; exact eq_nat (st.length + 1) 1
    rw [e1]
    match st, hst, R with
    | [], hst, R =>
      rw [← hst] at q1
      refine if_true_of rfl ?_
      exact ⟨_, rfl, rd_f_place T R ⟨_, _, rfl, fun d nd => (q1 (1, S.place) rfl).at_ R.stands nd⟩⟩
    | (y, Ly) :: st', hst, R =>
      rw [← hst, List.map_cons] at q1 q2
      refine if_false_of (decide_eq_false (by rw [List.length_cons]; omega)) ?_
      refine rd_inc T R (by rfl) fun H1 R1 => ?_
      refine ⟨_, rfl, pop_lv T R1 fun H2 R2 => ?_⟩
      -- within = self.end_level(level)
      refine ⟨_, rfl, rd_meth R2 (by decide +kernel) ⟨_, rfl, F0, r, p, S.place + 1, S.groups, S.forms, _, _, x, S.top, rfl, ?_, z3, z2, R2, fun H3 x' L' hx hg R3 => ?_⟩⟩
      · exact Nat.lt_of_le_of_lt (by omega) z1
      have hfl : (endLevelL S.groups S.forms S.top).1.length ≤ S.forms.length + 3 := endLevelL_len
      have hLy : Ly.Sm S.place := sm.below Ly (by rw [← hst]; exact List.mem_cons_self)
      have hpl := sm.pl
      have hfs := sm.fs
      dsimp only at q1 q2
      rw [endPiece_eq] at q1 q2
      -- self.end_piece(within), the forms and the whole told
      have tail : ∀ (wv : Nat) (fsz : List Fm) (H4 : Hp) (M4 : Mem), fsz.length ≤ S.forms.length + 4 → groupF S.top.group (endLevelL S.groups S.forms S.top).1 (endLevelL S.groups S.forms S.top).2.2 = (fsz, wv) → RS K c F0 H4 r p (S.place + 1) S.groups fsz ((((y, Ly) :: st').map (·.1)).map (·.a)).reverse (lvM c.lv y Ly ++ stM c.lv st') →
          spEndPiece K c [.ref r, .int wv] H4 (fun _ H' => Q .non H') E := by
        intro wv fsz H4 _ hz hG R4
        rw [hG] at q1 q2
        dsimp only at q1 q2
        rw [List.map_cons, lvs_eq] at R4
        refine ⟨F0, r, p, S.place + 1, S.groups, fsz, _, _, y, Ly, wv, rfl, hp, hlt, ?_, ?_, R4, fun e h => q1 e (by rw [h]), fun fs' pl' L' h H' R' => q2 _ (by rw [h]) H' ⟨y, st', rfl, by rw [lvs_eq]; exact R'⟩⟩
        · unfold Sz; omega
        · have := hLy.2.2; unfold Sz; omega
      refine ⟨_, rfl, obj_f (R3.get 0 rfl) T.c_Level T.n_Level_group lv_group ⟨rfl, _, rfl, ?_⟩⟩
      rw [hg]
      cases eg : S.top.group with
      | none =>
        refine if_false_of rfl ?_
        exact ⟨_, rfl, rd_meth R3 (by decide +kernel) ⟨_, rfl, tail _ _ _ [] (by omega) (by rw [eg]; rfl) R3.drop⟩⟩
      | some k =>
        refine if_true_of rfl ?_
        refine ⟨_, rfl, rd_meth R3 (by decide +kernel) ⟨_, rfl, (by decide : 1 ≤ sizeLine), fun pa npa => ?_⟩⟩
        have R4 := R3.add npa (.lst [V.int (endLevelL S.groups S.forms S.top).2.2])
        refine ⟨_, rfl, obj_f (R4.get 1 rfl) T.c_Level T.n_Level_group lv_group ?_⟩
        refine ⟨F0, r, p, S.place + 1, S.groups, _, _, _, .group, pa, [(endLevelL S.groups S.forms S.top).2.2], optI L'.group, .num k, [], rfl, ⟨by rw [hg, eg]; rfl, rfl⟩, by omega, R4, fun H5 R5 => ?_⟩
        refine ⟨_, rfl, rd_meth R5 (by decide +kernel) ⟨_, rfl, tail _ _ _ [] ?_ (by rw [eg]; rfl) R5.drop⟩⟩
        rw [List.length_append]
        exact Nat.add_le_add_right hfl 1
end
end RM
/-! Part CG: a step of the reader. -/
namespace RM
open PySem PySem.Spec PyProof.Rows L2 PF
section
variable {P : Program} {w : World} {K : PySem.W.Frag} {mg : Str → Option Value} {base : Heap} {c : Cs} {fI : Addr}
theorem ok_step (T : Txt K mg c fI) : MOk P w K mg base (L2.CX P w) 9 c.rd "read_step" ["self"] (spState K c step) := by
  obtain ⟨f, fd, m, F, b⟩ := T.t_Reader_read_step
  obtain ⟨_, _, M_Reader_now, G_Reader_now, B_Reader_now⟩ := ok_now (P := P) (w := w) (base := base) T
  obtain ⟨_, _, M_Reader_passes, G_Reader_passes, B_Reader_passes⟩ := ok_passes (P := P) (w := w) (base := base) T
  obtain ⟨_, _, g_among, k_among, G_among, B_among⟩ := ok_among (P := P) (w := w) (base := base) T
  obtain ⟨_, _, M_Reader_open_bracket, G_Reader_open_bracket, B_Reader_open_bracket⟩ := ok_open (P := P) (w := w) (base := base) T
  obtain ⟨_, _, M_Reader_close_bracket, G_Reader_close_bracket, B_Reader_close_bracket⟩ := ok_close (P := P) (w := w) (base := base) T
  obtain ⟨_, _, M_Reader_read_atom, G_Reader_read_atom, B_Reader_read_atom⟩ := ok_atom (P := P) (w := w) (base := base) T
  obtain ⟨_, _, M_Reader_end_piece, G_Reader_end_piece, B_Reader_end_piece⟩ := ok_endPiece (P := P) (w := w) (base := base) T
  obtain ⟨_, _, M_Reader_end_row, G_Reader_end_row, B_Reader_end_row⟩ := ok_endRow (P := P) (w := w) (base := base) T
  obtain ⟨_, _, M_Reader_pass_both, G_Reader_pass_both, B_Reader_pass_both⟩ := ok_passBoth (P := P) (w := w) (base := base) T
  refine ⟨f, fd, m, F.okX sc_Reader_read_step (fun vs H Q E h => ?_) (fun cdv A outer s H vs Q E hr h => ⟨_, pss_cons (ps_set (i := 1) sc_Reader_read_step.nd rfl (Or.inl rfl) (pe_ix ix_list (pe_fld (pv 0) rfl) (pe_un un_neg pe_int) (fun _ _ => rfl))) (pss_one (ps_if (pt_cmpR op_eq (pe_meth0 (pv 0) T.c_Reader M_Reader_now G_Reader_now (hr.mono (by decide)) B_Reader_now .nil pass0) (pe_callB call_ord (by rfl) T.b_ord (by decide +kernel) (pa_cons pe_str pa_nil)) (nomark _)) (pss_one (ps_expr (pe_meth0 (pv 0) T.c_Reader M_Reader_open_bracket G_Reader_open_bracket (hr.mono (by decide)) B_Reader_open_bracket .nil (passes_call (takes_of rfl rfl rfl rfl) fun _ _ _ _ z => z)))) (pss_one (ps_if (PW.pt (pw_or (pt_val (pe_fld (pv 1) rfl)) (pw_or1 (pt_not (pt_val (pe_call G_among (hr.mono (by decide)) rfl g_among k_among B_among .nil pass0 (pa_cons (pe_meth0 (pv 0) T.c_Reader M_Reader_now G_Reader_now (hr.mono (by decide)) B_Reader_now .nil pass0) (pa_cons (pe_globS rfl T.g_NOT_ATOMS) pa_nil)))))))) (pss_one (ps_expr (pe_meth (pv 0) T.c_Reader M_Reader_end_piece G_Reader_end_piece (hr.mono (by decide)) B_Reader_end_piece .nil (passes_call (takes_of rfl rfl rfl rfl) fun _ _ _ _ z => z) (pa_cons (pe_meth0 (pv 0) T.c_Reader M_Reader_read_atom G_Reader_read_atom (hr.mono (by decide)) B_Reader_read_atom .nil (passes_call (takes_of rfl rfl rfl rfl) fun _ _ _ _ z => z)) pa_nil)))) (pss_one (ps_if (pt_val (pe_meth (pv 0) T.c_Reader M_Reader_passes G_Reader_passes (hr.mono (by decide)) B_Reader_passes .nil pass0 (pa_cons pe_str pa_nil))) (pss_one (ps_fld (pv 1) pe_bl rfl)) (pss_one (ps_if (pt_val (pe_meth (pv 0) T.c_Reader M_Reader_passes G_Reader_passes (hr.mono (by decide)) B_Reader_passes .nil pass0 (pa_cons pe_str pa_nil))) (pss_one (ps_expr (pe_meth (pv 0) T.c_Reader M_Reader_end_row G_Reader_end_row (hr.mono (by decide)) B_Reader_end_row .nil pass0 (pa_cons (pv 1) pa_nil)))) (pss_one (ps_if (pt_cmpR op_eq (pe_meth0 (pv 0) T.c_Reader M_Reader_now G_Reader_now (hr.mono (by decide)) B_Reader_now .nil pass0) (pe_callB call_ord (by rfl) T.b_ord (by decide +kernel) (pa_cons pe_str pa_nil)) (nomark _)) (pss_one (ps_expr (pe_meth (pv 0) T.c_Reader M_Reader_pass_both G_Reader_pass_both (hr.mono (by decide)) B_Reader_pass_both .nil (passes_call (takes_of rfl rfl rfl rfl) fun _ _ _ _ z => z) (pa_cons (pv 1) pa_nil)))) (pss_one (ps_expr (pe_meth0 (pv 0) T.c_Reader M_Reader_close_bracket G_Reader_close_bracket (hr.mono (by decide)) B_Reader_close_bracket .nil (passes_call (takes_of rfl rfl rfl rfl) fun _ _ _ _ z => z)))))))))))))), ?_⟩), b⟩
  · obtain ⟨_, r, _, _, rfl, _⟩ := h; rfl
  · obtain ⟨F0, r, p, S, rfl, hp, h300, sm, hlt, ⟨x, st, hst, R⟩, q1, q2⟩ := h
    obtain ⟨z1, z2, z3, z4⟩ := sm_sz sm h300
    have Rat : RdAt K c F0 H r p S := ⟨x, st, hst, R⟩
    rw [lvs_eq] at R
    unfold PF.step at q1 q2
    refine ⟨_, rfl, rd_last T R ?_⟩
    -- an opening bracket
    refine ⟨_, rfl, rd_meth R (by decide +kernel) ⟨F0, r, p, _, _, _, _, _, rfl, R, _, rfl, by decide +kernel, rfl, _, rfl, ?_⟩⟩
    have e40 : (Str.cps "(").getD 0 0 = 40 := by decide +kernel
    rw [e40, eq_nat]
    by_cases c1 : now p S.place = 40
    · rw [if_pos c1] at q1
      have q2 := fun S' h => q2 S' ((if_pos c1).trans h)
      refine if_true_of (decide_eq_true c1) ?_
      exact ⟨_, rfl, rd_meth R (by decide +kernel) ⟨F0, r, p, S, rfl, hp, h300, sm, hlt, Rat, q1, q2⟩⟩
    rw [if_neg c1] at q1
    have q2 := fun S' h => q2 S' ((if_neg c1).trans h)
    refine if_false_of (decide_eq_false c1) ?_
    -- an atom
    have atom : ∀ (H1 : Hp) (D : Ends), (∀ σ H', D.nx σ H' = Q .non H') → RS K c F0 H1 r p S.place S.groups S.forms (((st.map (·.1)).map (·.a)).reverse ++ [x.a]) (lvM c.lv x S.top ++ stM c.lv st) → (S.top.turned = true ∨ notAtoms.contains (now p S.place) = false) →
        tDrop (tMeth c.rd "end_piece" (spEndPiece K c) [] E (tVar 0) (tCons (tMeth c.rd "read_atom" (spAtom K c readAtom) [] E (tVar 0) tNil) tNil)) D [some (.ref r), some (.ref x.a)] H1 := by
      intro H1 D hD R1 hc
      rw [if_pos hc] at q1
      have q2 := fun S' h => q2 S' ((if_pos hc).trans h)
      unfold atomStep at q1 q2
      refine ⟨_, rfl, rd_meth R1 (by decide +kernel) ⟨_, rfl, rd_meth R1 (by decide +kernel) ⟨F0, r, p, S.place, S.groups, S.forms, _, _, rfl, ?_, R1, fun e h => q1 e (by rw [h]), fun fm j h H2 R2 => ?_⟩⟩⟩
      · unfold Sz at z1 ⊢; omega
      · rw [h] at q1
        have q2 := fun S' h' => q2 S' (by rw [h]; exact h')
        dsimp only at q1 q2
        rw [endPiece_eq] at q1
        have q2 := fun S' h' => q2 S' ((endPiece_eq _ _ _).trans h')
        dsimp only at q1 q2
        have hj := readAtom_lt h
        have hlen : (S.forms ++ [fm]).length = S.forms.length + 1 := by rw [List.length_append]; rfl
        refine ⟨F0, r, p, j, S.groups, S.forms ++ [fm], _, _, x, S.top, S.forms.length, rfl, hp, hj.2, ?_, z4, R2, fun e h => q1 e (by rw [h]), fun fs' pl' L' h H' R' => ?_⟩
        · rw [hlen]; unfold Sz at z1 ⊢; omega
        · show D.nx _ H'
          rw [hD]
          exact q2 { S with place := pl', forms := fs', top := L' } (by rw [h]) H' ⟨x, st, hst, by rw [lvs_eq]; exact R'⟩
    refine ⟨_, rfl, obj_f (R.get 0 rfl) T.c_Level T.n_Level_turned lv_turned ⟨_, rfl, ?_⟩⟩
    cases ht : S.top.turned with
    | true => exact if_true_of rfl (if_true_of rfl (atom H _ (fun _ _ => rfl) R (.inl ht)))
    | false =>
      refine if_false_of rfl ?_
      refine ⟨_, rfl, rd_meth R (by decide +kernel) ⟨F0, r, p, _, _, _, _, _, rfl, R, ?_⟩⟩
      refine ⟨now p S.place, _, rfl, by decide +kernel, fun H1 s1 => ⟨_, rfl, ?_⟩⟩
      have R1 := R.same s1
      have Rat1 : RdAt K c F0 H1 r p S := ⟨x, st, hst, by rw [lvs_eq]; exact R1⟩
      rw [codes_notAtoms]
      cases hn : notAtoms.contains (now p S.place) with
      | false => exact if_true_of rfl (atom H1 _ (fun _ _ => rfl) R1 (.inr hn))
      | true =>
        have hc : ¬ (S.top.turned = true ∨ notAtoms.contains (now p S.place) = false) := by rw [ht, hn]; intro z; rcases z with z | z <;> cases z
        rw [if_neg hc] at q1
        have q2 := fun S' h => q2 S' ((if_neg hc).trans h)
        refine if_false_of rfl ?_
        -- a ~
        refine ⟨_, rfl, rd_passes R1 (k := 126) ⟨by decide +kernel, by decide +kernel⟩ (fun c2 H2 R2 => ⟨_, rfl, if_true_of rfl ?_⟩) fun c2 => ⟨_, rfl, if_false_of rfl ?_⟩⟩
        · refine ⟨_, rfl, x.a, _, x.dx, _, rfl, R2.get 0 rfl, T.c_Level, T.n_Level_turned, (by show 7 < 1000; decide), ?_⟩
          rw [lv_put_turned true]
          have R3 := R2.put 0 (lvO c.lv x { S.top with turned := true }) rfl
          exact q2 _ (if_pos c2) _ ⟨x, st, hst, by rw [lvs_eq]; exact R3⟩
        rw [if_neg c2] at q1
        have q2 := fun S' h => q2 S' ((if_neg c2).trans h)
        -- a bar
        refine ⟨_, rfl, rd_passes R1 (k := 124) ⟨by decide +kernel, by decide +kernel⟩ (fun c3 H2 R2 => ⟨_, rfl, if_true_of rfl ?_⟩) fun c3 => ⟨_, rfl, if_false_of rfl ?_⟩⟩
        · refine ⟨_, rfl, rd_meth R2 (by decide +kernel) ⟨_, rfl, F0, r, p, S.place + 1, S.groups, S.forms, _, _, x, S.top, rfl, ?_, z3, z2, R2, fun H3 x' hx R3 => ?_⟩⟩
          · unfold Sz at z1 ⊢; omega
          · exact q2 _ (if_pos c3) H3 ⟨x', st, hst, by rw [lvs_eq, hx]; exact R3⟩
        rw [if_neg c3] at q1
        have q2 := fun S' h => q2 S' ((if_neg c3).trans h)
        -- an &
        refine ⟨_, rfl, rd_meth R1 (by decide +kernel) ⟨F0, r, p, _, _, _, _, _, rfl, R1, _, rfl, by decide +kernel, rfl, _, rfl, ?_⟩⟩
        have e38 : (Str.cps "&").getD 0 0 = 38 := by decide +kernel
        rw [e38, eq_nat]
        by_cases c4 : now p S.place = 38
        · rw [if_pos c4] at q1
          have q2 := fun S' h => q2 S' ((if_pos c4).trans h)
          refine if_true_of (decide_eq_true c4) ?_
          unfold passBoth at q1 q2
          refine ⟨_, rfl, rd_meth R1 (by decide +kernel) ⟨_, rfl, F0, r, p, S.place, S.groups, S.forms, _, _, x, S.top, rfl, ?_, z3, R1, fun h => q1 _ (if_pos h), fun h H' x' hx R' => q2 _ (if_neg h) H' ⟨x', st, hst, by rw [lvs_eq, hx]; exact R'⟩⟩⟩
          unfold Sz at z1 ⊢; omega
        · rw [if_neg c4] at q1
          have q2 := fun S' h => q2 S' ((if_neg c4).trans h)
          refine if_false_of (decide_eq_false c4) ?_
          exact ⟨_, rfl, rd_meth R1 (by decide +kernel) ⟨F0, r, p, S, rfl, hp, h300, sm, hlt, Rat1, q1, q2⟩⟩
end
end RM
/-! Part CH: the whole pattern read. -/
namespace RM
open PySem PySem.Spec PyProof.Rows L2 PF
/-- the loop's outcome, the turns counted -/
def ResN (p : List Nat) : Nat → Rd → Except Flt Rd → Prop
  | 0, S, r => (p.length ≤ S.place ∧ r = PF.finish S) ∨ (S.place < p.length ∧ ∃ e, step p S = .error e ∧ r = .error e)
  | n + 1, S, r => (p.length ≤ S.place ∧ r = PF.finish S) ∨ (S.place < p.length ∧ ((∃ e, step p S = .error e ∧ r = .error e) ∨ ∃ S', step p S = .ok S' ∧ ResN p n S' r))
theorem ResN.of {p : List Nat} {S : Rd} {r : Except Flt Rd} (h : Res p S r) : ∃ n, ResN p n S r := by
  induction h with
  | fin h => exact ⟨0, .inl ⟨h, rfl⟩⟩
  | err h e => exact ⟨0, .inr ⟨h, _, e, rfl⟩⟩
  | go h e _ ih => obtain ⟨n, hn⟩ := ih; exact ⟨n + 1, .inr ⟨h, .inr ⟨_, e, hn⟩⟩⟩
def spWhole (K : PySem.W.Frag) (c : Cs) : Sp := fun vs H Q E => ∃ F r p S res, vs = [.ref r] ∧ Ok8 p ∧ p.length ≤ 300 ∧ S.Sm p ∧ RdAt K c F H r p S ∧ Res p S res ∧ (∀ e, res = .error e → FltE c F E e) ∧
  (∀ S', res = .ok S' → ∀ H' lv M, RS K c F H' r p S'.place S'.groups S'.forms lv M → Q .non H')
def spReaderInit (K : PySem.W.Frag) (c : Cs) : Sp := fun vs H Q _ => ∃ F r dx pl p, vs = [.ref r, .ref pl] ∧ Same F H ∧ SqL K F pl (nls p) ∧ H r = some (.ins c.rd dx []) ∧ F r = none ∧ ∀ H', RdAt K c F H' r p Rd.start → Q .non H'
def spReadPattern (K : PySem.W.Frag) (c : Cs) : Sp := fun vs H Q E => ∃ F pl p res, vs = [.ref pl] ∧ Same F H ∧ SqL K F pl (nls p) ∧ Ok8 p ∧ p.length ≤ 300 ∧ Res p Rd.start res ∧ (∀ e, res = .error e → FltE c F E e) ∧
  (∀ S', res = .ok S' → ∀ H' r lv M, RS K c F H' r p S'.place S'.groups S'.forms lv M → Q (.ref r) H')
section
variable {P : Program} {w : World} {K : PySem.W.Frag} {mg : Str → Option Value} {base : Heap} {c : Cs} {fI : Addr}
theorem ok_whole (T : Txt K mg c fI) : MOk P w K mg base (L2.CX P w) 10 c.rd "read_whole" ["self"] (spWhole K c) := by
  obtain ⟨f, fd, m, F, b⟩ := T.t_Reader_read_whole
  obtain ⟨_, _, M_Reader_read_step, G_Reader_read_step, B_Reader_read_step⟩ := ok_step (P := P) (w := w) (base := base) T
  obtain ⟨_, _, M_Reader_end_level, G_Reader_end_level, B_Reader_end_level⟩ := ok_endLevel (P := P) (w := w) (base := base) T
  refine ⟨f, fd, m, F.okX sc_Reader_read_whole (fun vs H Q E h => ?_) (fun cdv A outer s H vs Q E hr h => ⟨_, pss_cons (ps_while (passes_of rfl) (pt_cmpR op_lt (pe_fld (pv 0) rfl) (pe_callB call_len_seq (by rfl) T.b_len PySem.boot_len (pa_cons (pe_fld (pv 0) rfl) pa_nil)) (nomark _)) (pss_one (ps_expr (pe_meth0 (pv 0) T.c_Reader M_Reader_read_step G_Reader_read_step (hr.mono (by decide)) B_Reader_read_step .nil (passes_call (takes_of rfl rfl rfl rfl) fun _ _ _ _ z => z))))) (pss_cons (ps_if (PW.pt (pw_or (pt_cmpR op_gt (pe_callB call_len_seq (by rfl) T.b_len PySem.boot_len (pa_cons (pe_fld (pv 0) rfl) pa_nil)) pe_int (nomark _)) (pw_or1 (pt_val (pe_fld (pe_ix ix_list (pe_fld (pv 0) rfl) pe_int (fun _ _ => rfl)) rfl))))) (pss_one (ps_raiseFlt rfl T.flt hr (takes_of rfl rfl rfl rfl) (pa_cons (pe_globI rfl T.g_CANNOT_STAND) (pa_cons (pe_fld (pv 0) rfl) pa_nil)))) pss_nil) (pss_one (ps_expr (pe_meth (pv 0) T.c_Reader M_Reader_end_level G_Reader_end_level (hr.mono (by decide)) B_Reader_end_level .nil pass0 (pa_cons (pe_ix ix_list (pe_fld (pv 0) rfl) pe_int (fun _ _ => rfl)) pa_nil))))), ?_⟩), b⟩
  · obtain ⟨_, r, _, _, _, rfl, _⟩ := h; rfl
  · obtain ⟨F0, r, p, S0, res, rfl, hp, h300, sm0, R0, hres, q1, q2⟩ := h
    obtain ⟨n0, hn0⟩ := ResN.of hres
    refine ⟨fun n σ H' => ∃ S, σ = [some (.ref r)] ∧ S.Sm p ∧ RdAt K c F0 H' r p S ∧ ResN p n S res, ⟨n0, S0, rfl, sm0, R0, hn0⟩, ?_⟩
    rintro n σ H1 ⟨S, rfl, sm, Rat, hn⟩
    obtain ⟨x, st, hst, R⟩ := id Rat
    obtain ⟨z1, z2, z3, z4⟩ := sm_sz sm h300
    refine ⟨_, rfl, rd_f_place T R ⟨_, rfl, rd_f_pattern T R fun l hl => ⟨_, _, rfl, .inl hl, _, _, rfl, rfl, _, rfl, ?_⟩⟩⟩
    rw [nls_len]
    by_cases c1 : S.place < p.length
    · refine if_true_of (decide_eq_true (by omega)) ?_
      cases n with
      | zero =>
        rcases hn with ⟨h, _⟩ | ⟨_, e, he, hr⟩
        · omega
        · refine ⟨fun _ _ => False, fun _ _ z => z.elim, ?_⟩
          exact ⟨_, rfl, rd_meth R (by decide +kernel) ⟨F0, r, p, S, rfl, hp, h300, sm, c1, Rat, fun e' h => by rw [he] at h; cases h; exact q1 e hr, fun S' h => by rw [he] at h; cases h⟩⟩
      | succ n =>
        rcases hn with ⟨h, _⟩ | ⟨_, ⟨e, he, hr⟩ | ⟨S', hs, hn'⟩⟩
        · omega
        · refine ⟨fun _ _ => False, fun _ _ z => z.elim, ?_⟩
          exact ⟨_, rfl, rd_meth R (by decide +kernel) ⟨F0, r, p, S, rfl, hp, h300, sm, c1, Rat, fun e' h => by rw [he] at h; cases h; exact q1 e hr, fun S' h => by rw [he] at h; cases h⟩⟩
        · refine ⟨_, fun σ' H' z => ⟨n, Nat.lt_succ_self _, z⟩, ?_⟩
          refine ⟨_, rfl, rd_meth R (by decide +kernel) ⟨F0, r, p, S, rfl, hp, h300, sm, c1, Rat, fun e' h => (by rw [hs] at h; cases h), fun S2 h H' R' => ?_⟩⟩
          rw [hs] at h
          cases h
          exact ⟨S', rfl, step_sm hp sm c1 hs, R', hn'⟩
    · refine if_false_of (decide_eq_false (by omega)) ?_
      have hr : res = PF.finish S := by
        cases n with
        | zero =>
          rcases hn with ⟨_, h⟩ | ⟨h, _⟩
          · exact h
          · exact absurd h c1
        | succ n =>
          rcases hn with ⟨_, h⟩ | ⟨h, _⟩
          · exact h
          · exact absurd h c1
      rw [hr] at q1 q2
      unfold PF.finish at q1 q2
      rw [lvs_eq] at R
      have el : ((((st.map (·.1)).map (·.a)).reverse ++ [x.a]).map V.ref).length = st.length + 1 := by
        rw [List.length_map, List.length_append, List.length_reverse, List.length_map, List.length_map]; rfl
      have bad : S.below ≠ [] ∨ S.top.turned = true → ∀ d, H1 d = none → E (.ref c.fl) (some d) (upd H1 d (.xd (flt (.int (1 : Nat)) (.int S.place)))) := fun h d nd => (q1 (1, S.place) (if_pos h)).at_ R.stands nd
      refine ⟨_, rfl, rd_f_levels T R fun ll hl => ⟨_, _, rfl, .inl (SqL.of hl), _, _, rfl, rfl, _, rfl, ?_⟩⟩
      rw [el]
      match st, hst, R, el with
      | y :: st', hst, R, el =>
        refine if_true_of (decide_eq_true (by rw [List.length_cons]; omega)) (if_true_of rfl ?_)
        exact ⟨_, rfl, rd_f_place T R ⟨_, _, rfl, bad (.inl (by rw [← hst]; exact fun z => by cases z))⟩⟩
      | [], hst, R, el =>
        refine if_false_of rfl ?_
        refine ⟨_, rfl, rd_f_levels T R fun ll hl => ⟨_, _, _, _, rfl, rfl, SqL.of hl, atI_nat (j := 0) rfl, obj_f (R.get 0 rfl) T.c_Level T.n_Level_turned lv_turned ⟨_, rfl, ?_⟩⟩⟩
        cases ht : S.top.turned with
        | true =>
          refine if_true_of rfl ?_
          exact ⟨_, rfl, rd_f_place T R ⟨_, _, rfl, bad (.inr ht)⟩⟩
        | false =>
          refine if_false_of rfl ?_
          have q2 := q2 _ (if_neg (by rw [ht, ← hst]; intro z; rcases z with z | z; exact z rfl; cases z))
          refine ⟨_, rfl, rd_meth R (by decide +kernel) ⟨_, rfl, rd_f_levels T R fun ll hl => ⟨_, _, _, _, rfl, rfl, SqL.of hl, atI_nat (j := 0) rfl, ?_⟩⟩⟩
          refine ⟨F0, r, p, S.place, S.groups, S.forms, _, _, x, S.top, rfl, ?_, z3, z2, R, fun H' x' L' _ _ R' => q2 H' _ _ R'⟩
          unfold Sz at z1 ⊢; omega
theorem ok_reader (T : Txt K mg c fI) : IOk P w K mg base CX0 3 c.rd ["self", "pattern"] (spReaderInit K c) := by
  obtain ⟨f, fd, m, F, b⟩ := T.t_Reader_init
  obtain ⟨_, _, M_Level, G_Level, B_Level⟩ := ok_level (P := P) (w := w) (base := base) T
  refine ⟨f, fd, m, F.ok sc_Reader_init (fun vs H Q E h => ?_) (fun cdv A outer s H vs Q E hr h => ⟨_, pss_cons (ps_fld (pv 0) (pv 1) rfl) (pss_cons (ps_fld (pv 0) pe_int rfl) (pss_cons (ps_fld (pv 0) (pe_lst pa_nil) rfl) (pss_cons (ps_fld (pv 0) pe_int rfl) (pss_one (ps_fld (pv 0) (pe_lst (pa_cons (pe_make M_Level G_Level (hr.mono (by decide)) rfl T.g_Level B_Level .nil pass0 (pa_cons pe_bl (pa_cons pe_int (pa_cons pe_non pa_nil)))) pa_nil)) rfl))))), ?_⟩), b⟩
  · obtain ⟨_, r, _, _, _, rfl, _⟩ := h; rfl
  · obtain ⟨F0, r, dx, pl, p, rfl, s, hp, hr0, fr, q⟩ := h
    have o : Own F0 H [(r, .ins c.rd dx [])] := ⟨s, List.nodup_cons.mpr ⟨List.not_mem_nil, List.nodup_nil⟩, fun z hz => by rw [List.mem_singleton.mp hz]; exact hr0, fun z hz => by rw [List.mem_singleton.mp hz]; exact fr⟩
    -- self.pattern = pattern
    refine ⟨_, rfl, _, rfl, r, _, dx, _, rfl, o.get 0 rfl, T.c_Reader, T.n_Reader_pattern, (by decide), ?_⟩
    rw [putF_new (by decide +kernel)]
    have o1 := o.put 0 (.ins c.rd dx [("pattern", .ref pl)]) rfl
    -- self.place = 0
    refine ⟨_, rfl, r, _, dx, _, rfl, o1.get 0 rfl, T.c_Reader, T.n_Reader_place, (by show 1 < 1000; decide), ?_⟩
    rw [putF_new (by show (["pattern"] : List Str).contains "place" = false; decide +kernel)]
    have o2 := o1.put 0 (.ins c.rd dx [("pattern", .ref pl), ("place", .int 0)]) rfl
    -- self.forms = []
    refine ⟨Nat.zero_le _, fun fl nf => ?_⟩
    have o3 := o2.add nf (.lst [])
    refine ⟨_, rfl, r, _, dx, _, rfl, o3.get 1 rfl, T.c_Reader, T.n_Reader_forms, (by show 2 < 1000; decide), ?_⟩
    rw [putF_new (by show (["pattern", "place"] : List Str).contains "forms" = false; decide +kernel)]
    have o4 := o3.put 1 (.ins c.rd dx [("pattern", .ref pl), ("place", .int 0), ("forms", .ref fl)]) rfl
    -- self.groups = 0
    refine ⟨_, rfl, r, _, dx, _, rfl, o4.get 1 rfl, T.c_Reader, T.n_Reader_groups, (by show 3 < 1000; decide), ?_⟩
    rw [putF_new (by show (["pattern", "place", "forms"] : List Str).contains "groups" = false; decide +kernel)]
    have o5 := o4.put 1 (.ins c.rd dx [("pattern", .ref pl), ("place", .int 0), ("forms", .ref fl), ("groups", .int 0)]) rfl
    -- self.levels = [Level(False, 0, None)]
    refine fun xA dA nx nd ne => ?_
    have o6 := (o5.add nd (.own xA)).add (p := xA) (by rw [upd_ne (Ne.symm ne)]; exact nx) (.ins c.lv dA [])
    have o7 := (o6.perm (List.Perm.swap _ _ _)).drop
    refine ⟨F0, _, xA, dA, false, 0, none, rfl, o7, fun H1 y hy o8 => ⟨rfl, (by decide : 1 ≤ sizeLine), fun ll nl => ?_⟩⟩
    have o9 := o8.add nl (.lst [V.ref xA])
    refine ⟨_, rfl, r, _, dx, _, rfl, o9.get 6 rfl, T.c_Reader, T.n_Reader_levels, (by show 4 < 1000; decide), ?_⟩
    rw [putF_new (by show (["pattern", "place", "forms", "groups"] : List Str).contains "levels" = false; decide +kernel)]
    have oa := o9.put 6 (rdO c.rd dx pl fl ll 0 0) rfl
    refine q _ ⟨y, [], rfl, F0, dx, pl, fl, ll, [], Same.refl _, ⟨rfl, fun i a fm h => by cases h⟩, hp, oa.perm ?_⟩
    have e : [V.ref xA] = (([y].map (·.a)).reverse).map V.ref := by show _ = [V.ref y.a]; rw [hy]
    show List.Perm ((ll, HO.lst [V.ref xA]) :: (lvM c.lv y (Lv.new false 0 none) ++ [(fl, .lst []), (r, rdO c.rd dx pl fl ll 0 0)])) ((r, rdO c.rd dx pl fl ll 0 0) :: (fl, .lst []) :: (ll, .lst ((([y].map (·.a)).reverse).map V.ref)) :: (lvM c.lv y (Lv.new false 0 none) ++ []))
    rw [← e, List.append_nil]
    have p1 := List.perm_append_comm (l₁ := (ll, HO.lst [V.ref xA]) :: lvM c.lv y (Lv.new false 0 none)) (l₂ := [(fl, HO.lst []), (r, rdO c.rd dx pl fl ll 0 0)])
    exact p1.trans (List.Perm.swap _ _ _)
theorem ok_pattern (T : Txt K mg c fI) : DOk P w K mg base (L2.CX P w) 11 "read_pattern" ["pattern"] (spReadPattern K c) := by
  obtain ⟨f, fd, mf, kf, F, b⟩ := T.t_read_pattern
  obtain ⟨_, _, M_Reader, G_Reader, B_Reader⟩ := ok_reader (P := P) (w := w) (base := base) T
  obtain ⟨_, _, M_Reader_read_whole, G_Reader_read_whole, B_Reader_read_whole⟩ := ok_whole (P := P) (w := w) (base := base) T
  refine ⟨f, fd, mf, kf, F.okX sc_read_pattern (fun vs H Q E h => ?_) (fun cdv A outer s H vs Q E hr h => ⟨_, pss_cons (ps_set (i := 1) sc_read_pattern.nd rfl (Or.inl rfl) (pe_make M_Reader G_Reader (hr.mono (by decide)) rfl T.g_Reader B_Reader .nil pass0 (pa_cons (pv 0) pa_nil))) (pss_cons (ps_expr (pe_meth0 (pv 1) T.c_Reader M_Reader_read_whole G_Reader_read_whole (hr.mono (by decide)) B_Reader_read_whole .nil (passes_call (takes_of rfl rfl rfl rfl) fun _ _ _ _ z => z))) (pss_one (ps_ret (pv 1)))), ?_⟩), b⟩
  · obtain ⟨_, _, _, _, rfl, _⟩ := h; rfl
  · obtain ⟨F0, pl, p, res, rfl, s, hp, h8, h300, hres, q1, q2⟩ := h
    refine ⟨_, rfl, fun x dx nx nd ne => ?_⟩
    have fx : F0 x = none := s.free nx
    have s1 : Same F0 (upd (upd H dx (.own x)) x (.ins c.rd dx [])) := s.trans ((same_upd nd).trans (same_upd (by rw [upd_ne (Ne.symm ne)]; exact nx)))
    refine ⟨F0, x, dx, pl, p, rfl, s1, hp, upd_same, fx, fun H1 R1 => ⟨rfl, ?_⟩⟩
    obtain ⟨y, st, hst, R⟩ := id R1
    refine ⟨_, rfl, rd_meth R (by decide +kernel) ⟨F0, x, p, Rd.start, res, rfl, h8, h300, start_sm p, R1, hres, q1, fun S' h H' lv M R' => ?_⟩⟩
    exact ⟨_, rfl, q2 S' h H' x lv M R'⟩
end
end RM
/-! Part CI: a fault told, in the suite that handles it. -/
namespace RM
open PySem PySem.Spec PyProof.Rows L2 PF
theorem xfC_of {K : PySem.W.Frag} {mg : Str → Option Value} {C fI : Addr} (T : FX.FaultTxt K mg C fI) : XfC K C := ⟨T.ga, T.gg, T.exC, T.hdC⟩
/-- told_fault(which, e), e the Fault that is handled: at a, of the class cls, its dict d -/
def tTold (C : Addr) (a : Addr) (cls : Value) (d : Option Addr) (t : TA) : TE := fun σ H Q => t σ H fun vs H1 => ∃ n : Int, vs = [.int n, .ref a] ∧ cls = .ref C ∧ ∃ (dd : Addr) (v u : V), d = some dd ∧ H1 dd = some (.xd (flt v u)) ∧
  ∀ q, H1 q = none → Q (.ref q) (upd H1 q (.lst [.int 9, .int 2, .int n, v, u]))
theorem pe_told {X : Cx} {c : Cs} {fI a : Addr} {oe : Obj} {cls : Value} {d : Option Addr} {pn : List (Addr × Obj)} {e1 e : Expr} {t : TA} {q pos : Pos} (T : Txt X.K X.mg c fI) (hz : Zc cls d oe) (hf : ∃ vs, oe.data = .fields vs) (hr : L2H.RoomH 1 (X.suite a ((a, oe) :: pn)).A) (hg : Gl (X.suite a ((a, oe) :: pn)) "told_fault")
    (ha : PA (X.suite a ((a, oe) :: pn)) [e1, e] t) (he : starEach [e1, e] (X.suite a ((a, oe) :: pn)).env = (false, eval e1 (X.suite a ((a, oe) :: pn)).env) :: starEach [e] (X.suite a ((a, oe) :: pn)).env := by rfl) (hpl : (backTo pos (starEach [e] (X.suite a ((a, oe) :: pn)).env)).any (·.1) = false := by rfl) :
    PE (X.suite a ((a, oe) :: pn)) (.Call (.Name "told_fault" q) [e1, e] [] pos) (tTold c.fl a cls d t) := by
  obtain ⟨f, fd, mf, kf, D, b⟩ := T.t_told_fault
  refine ⟨fun pins s σ H Q I h => ?_⟩
  refine wpAny_Call_Name_kw (ld_glob I hg mf ?_ (by decide))
  refine PySem.W.callWith_K (h₀ := X.base) I.ok.mod.kin kf (thn (ha.run pos pins s σ H _ I h) fun us s1 hh => ?_) he hpl
  obtain ⟨vs, H1, I1, r, n, rfl, rfl, dd, v, u, rfl, hd, k⟩ := hh
  refine ⟨I1.kIn, FX.run_fnP (k := 0) (p := (a, oe)) (Q := Q) List.mem_cons_self D sc_told_fault hr b I1 r rfl fun cdv A outer s2 hr2 => ?_⟩
  refine ⟨_, pss_one (ps_ret (pe_lst (pa_cons (pe_globI rfl T.g_REFUSED) (pa_cons (pe_globI rfl T.g_FAULTY) (pa_cons (pv 0)
    (pa_cons (FX.pe_xfP (xfC_of T.flt) T.flt.nR List.mem_cons_self hz hf (pv 1)) (pa_cons (FX.pe_xfP (xfC_of T.flt) T.flt.nP List.mem_cons_self hz hf (pv 1)) pa_nil))))))), ?_⟩
  exact ⟨_, rfl, _, rfl, rfl, rfl, dd, _, v, rfl, hd, lk_rule, _, rfl, rfl, rfl, dd, _, u, rfl, hd, lk_place, (by show 5 ≤ sizeLine; decide), fun q nq => k q nq⟩
end RM
/-! Part CJ: judge. -/
namespace RM
open PySem PySem.Spec PyProof.Rows L2 PF
def Bytes8 (ns : List Int) : Prop := ∀ z ∈ ns, 0 ≤ z ∧ z ≤ 255
def nat8 (ns : List Int) : List Nat := ns.map Int.toNat
theorem nls_nat8 {ns : List Int} (h : Bytes8 ns) : nls (nat8 ns) = ns.map V.int := by
  unfold nls nat8
  rw [List.map_map]
  refine List.map_congr_left fun z hz => ?_
  have := h z hz
  show V.int ((z.toNat : Nat) : Int) = V.int z
  rw [Int.toNat_of_nonneg this.1]
theorem ok8_nat8 {ns : List Int} (h : Bytes8 ns) : Ok8 (nat8 ns) := fun x hx => by
  obtain ⟨z, hz, rfl⟩ := List.mem_map.mp hx
  have := h z hz
  omega
theorem text_nat8 (ns : List Int) : WrPattNeutral.text ns = tx (nat8 ns) := by
  unfold WrPattNeutral.text tx nat8
  rw [List.map_map]
  rfl
theorem nat8_len (ns : List Int) : (nat8 ns).length = ns.length := by unfold nat8; rw [List.length_map]
theorem short_iff (ns : List Int) : WrPatt.short (WrPattNeutral.text ns) = decide (ns.length ≤ 200) := by
  unfold WrPatt.short
  rw [text_nat8, tx_length, nat8_len]
  rfl
/-- a fault's answer -/
def fltA (e : Flt) : List Int := [9, 2, 0, e.1, e.2]
theorem judge_long {ns : List Int} (h : 200 < ns.length) : PyWrpats.judge ns = [9, 1] := by
  show WrPattNeutral.told (WrPatt.answer (.judge (WrPattNeutral.text ns))) = _
  unfold WrPatt.answer
  rw [if_pos (show WrPatt.asked (.judge (WrPattNeutral.text ns)) = false by show WrPatt.short _ = false; rw [short_iff]; exact decide_eq_false (by omega))]
  rfl
theorem judge_short {ns : List Int} (h : ¬ 200 < ns.length) : PyWrpats.judge ns = match WrPatt.read (tx (nat8 ns)) with
    | .error e => fltA e
    | .ok (_, g) => [0, (g : Int)] := by
  show WrPattNeutral.told (WrPatt.answer (.judge (WrPattNeutral.text ns))) = _
  unfold WrPatt.answer
  rw [if_neg (show ¬ WrPatt.asked (.judge (WrPattNeutral.text ns)) = false by show ¬ WrPatt.short _ = false; rw [short_iff, decide_eq_true (by omega)]; exact fun z => by cases z)]
  dsimp only [WrPatt.withPat]
  rw [text_nat8]
  cases WrPatt.read (tx (nat8 ns)) with
  | error e => rfl
  | ok x => obtain ⟨a, g⟩ := x; rfl
def spJudge (K : PySem.W.Frag) : Sp := fun vs H Q _ => ∃ pl ns, vs = [.ref pl] ∧ SqL K H pl (ns.map V.int) ∧ ns.length ≤ 300 ∧ Bytes8 ns ∧ ∀ H' q, H' q = some (.lst ((PyWrpats.judge ns).map V.int)) → Q (.ref q) H'
section
variable {P : Program} {w : World} {K : PySem.W.Frag} {mg : Str → Option Value} {base : Heap} {c : Cs} {fI : Addr}
theorem roomH_suite {A : Around} {x : Option Value} (r : Room 1 A) : L2H.RoomH 1 (A.mark x) := ⟨r.dp, r.un⟩
theorem lst_ret {H : Hp} {Q : VK} {l : List V} (h : l.length ≤ 5) (q : ∀ H' p, H' p = some (.lst l) → Q (.ref p) H') : l.length ≤ sizeLine ∧ ∀ p, H p = none → Q (.ref p) (upd H p (.lst l)) :=
  ⟨Nat.le_trans h (by decide), fun p _ => q _ p upd_same⟩
theorem ok_judge {f : Addr} {fd : FuncData} (F : Fun K "judge" "judge" s_judge f fd) (T : Txt K mg c fI) : FnOk P w K mg base CX0 12 f fd ["pattern"] (spJudge K) := by
  obtain ⟨_, _, g_read_pattern, k_read_pattern, G_read_pattern, B_read_pattern⟩ := ok_pattern (P := P) (w := w) (base := base) T
  refine F.ok sc_judge (fun vs H Q E h => ?_) (fun cdv A outer s H vs Q E hr h => ⟨_,
    pss_cons (ps_if (pt_cmpR op_gt (pe_callB call_len_seq (by rfl) T.b_len PySem.boot_len (pa_cons (pv 0) pa_nil)) (pe_globI rfl T.g_LONGEST) (nomark _)) (pss_one (ps_ret (pe_lst (pa_cons (pe_globI rfl T.g_REFUSED) (pa_cons (pe_globI rfl T.g_BEYOND_BOUNDS) pa_nil))))) pss_nil)
    (pss_cons (ps_try_as (i := 2) (tb := fun W => tAsg (tCallS (spReadPattern K c) (WE W) (tCons (tVar 0) tNil)) (gName 1)) (ts := fun a cls d => tRet (tTold c.fl a cls d (tCons (tC (.int 0)) (tCons (tVar 2) tNil)))) (Wout := fun _ _ _ _ => False) rfl rfl sc_judge.nd rfl rfl ⟨rfl, by decide, Or.inl T.flt.gC⟩ takes0
      (fun W pn xe tk _ => pss_one (ps_set (i := 1) sc_judge.nd rfl (Or.inl rfl) (by exact (pe_callS G_read_pattern (hr.mono (by decide)) rfl g_read_pattern k_read_pattern B_read_pattern (fun σ => passAt tk σ) (by exact (pa_cons (pv 0) pa_nil))))))
      (fun a oe cls d pn hz hf => pss_one (ps_ret (by exact (pe_told T hz hf (roomH_suite (hr.mono (by decide))) rfl (by exact (pa_cons (pe_globI rfl T.g_FIRST) (pa_cons (pv 2) pa_nil))))))))
    (pss_one (ps_ret (pe_lst (pa_cons (pe_globI rfl T.g_ANSWERED) (pa_cons (pe_fld (pv 1) rfl) pa_nil)))))), ?_⟩)
  · obtain ⟨_, _, rfl, _⟩ := h; rfl
  · obtain ⟨pl, ns, rfl, hp, h300, h8, q⟩ := h
    refine ⟨_, rfl, _, _, rfl, .inl hp, _, _, rfl, rfl, _, rfl, ?_⟩
    rw [List.length_map]
    by_cases c1 : 200 < ns.length
    · refine if_true_of (decide_eq_true (by omega)) ?_
      refine lst_ret (by decide) fun H' p h => q H' p ?_
      rw [judge_long c1]; exact h
    · refine if_false_of (decide_eq_false (by omega)) ?_
      have due := judge_short c1
      obtain ⟨res, hres, hm⟩ := read_sim (ok8_nat8 h8)
      refine ⟨_, rfl, H, pl, nat8 ns, res, rfl, Same.refl _, by rw [nls_nat8 h8]; exact hp, ok8_nat8 h8, by rw [nat8_len]; exact h300, hres, fun e he d H1 s1 hd => ?_, fun S' hS H1 r lv M R => ?_⟩
      · refine ⟨true, T.flt.te, fun _ a ha => ?_, fun z => by cases z⟩
        refine ⟨_, rfl, _, rfl, rfl, d, _, _, rfl, hd, fun t nt => q _ t ?_⟩
        rw [due]
        cases er : WrPatt.read (tx (nat8 ns)) with
        | error e' =>
          rw [er] at hm
          rw [he] at hm
          cases hm
          exact upd_same
        | ok x =>
          obtain ⟨y, g⟩ := x
          rw [er] at hm
          obtain ⟨S, hS, _⟩ := hm
          rw [he] at hS; cases hS
      · refine ⟨_, rfl, rd_f_groups T R (lst_ret (by show 2 ≤ 5; decide) fun H' t h => q H' t ?_)⟩
        rw [due]
        cases er : WrPatt.read (tx (nat8 ns)) with
        | error e' =>
          rw [er] at hm
          rw [hS] at hm; cases hm
        | ok x =>
          obtain ⟨y, g⟩ := x
          rw [er] at hm
          obtain ⟨S, hS2, hg, _⟩ := hm
          rw [hS] at hS2
          cases hS2
          rw [← hg]
          exact h
end
end RM
/-! Part CK: the end. -/
namespace RM
open PySem PySem.Spec PyProof.Rows L2 PF
/-- an error of the class at S is what «except S» names -/
theorem exm_self {K : PySem.W.Frag} {S : Addr} (h1 : PySem.W.subIn K (.ref S) (.type "BaseException") = some true) (h2 : PySem.W.isClsIn K S = true) (h3 : PySem.W.typeIn K (.ref S) = some (.type "type")) (h4 : PySem.W.subIn K (.ref S) (.ref S) = some true) :
    PySem.W.exmOne K (.ref S) (.ref S) = some true := by
  have e1 : (PySem.W.subIn K (.ref S) (.type "BaseException") == some true) = true := by rw [h1] <;> rfl
  have e2 : ((PySem.W.clsIn K S).isSome && PySem.W.typeIn K (.ref S) == some (.type "type")) = true := by
    have h2' : (PySem.W.clsIn K S).isSome = true := h2
    rw [h2', h3] <;> rfl
  show (if (PySem.W.subIn K (.ref S) (.type "BaseException") == some true) = true then (if ((PySem.W.clsIn K S).isSome && PySem.W.typeIn K (.ref S) == some (.type "type")) = true then PySem.W.subIn K (.ref S) (.ref S) else none) else none) = some true
  rw [if_pos e1, if_pos e2]
  exact h4
theorem bytes8_of {ns : List Int} (h : ns.all (PySem.W.Codec.inInt 0 255) = true) : Bytes8 ns := fun z hz => by
  have q := List.all_eq_true.mp h z hz
  have q' : (decide ((0 : Int) ≤ z) && decide (z ≤ 255)) = true := q
  rw [Bool.and_eq_true, decide_eq_true_eq, decide_eq_true_eq] at q'
  exact q'
theorem all_mk {P : Program} {w : World} {K : PySem.W.Frag} {h : Heap} {mg : Str → Option Value} {fa : Addr} (X : K.In h) (G : h.Ns mainGlobals mg) (hfa : mg "judge" = some (.ref fa))
    {tk_BYTE : Tok}
    {tk_BEGIN : Tok}
    {tk_END : Tok}
    {tk_EDGE : Tok}
    {tk_NO_EDGE : Tok}
    {tk_ROW : Tok}
    {tk_EITHER : Tok}
    {tk_BOTH : Tok}
    {tk_TURNED : Tok}
    {tk_COUNTED : Tok}
    {tk_GROUP : Tok}
    {tk_SPECIALS : Tok}
    {tk_NOT_PLAIN : Tok}
    {tk_NOT_PLAIN_IN_SET : Tok}
    {tk_NOT_ATOMS : Tok}
    {tk_CANNOT_STAND : Tok}
    {tk_WRONG_NUMBER : Tok}
    {tk_WRONG_ITEM : Tok}
    {tk_WRONG_GROUP : Tok}
    {tk_MOST_GROUPS : Tok}
    {tk_MOST_TIMES : Tok}
    {tk_PATTERN_ENDED : Tok}
    {tk_LONGEST : Tok}
    {tk_ANSWERED : Tok}
    {tk_REFUSED : Tok}
    {tk_BEYOND_BOUNDS : Tok}
    {tk_FAULTY : Tok}
    {tk_FIRST : Tok}
    {C1 : Addr}
    {C2 : Addr}
    {C3 : Addr}
    {C4 : Addr}
    {nm q : Str} {NF : Addr} {bs : List Value} {sn : List Str} {sub : List Value} {ab : Bool} {col : Option Bool} {dd : Option Addr} {m0 m1 m2 m3 m5 : Option Value} {fF : Addr} {odF anF : Option Addr} {slF : Array (Option Value)} {ocF dcF pmF cdF ctF : Value}
    {f0 : Addr} {od0 an0 : Option Addr} {sl0 : Array (Option Value)} {oc0 kV0 dc0 pm0 cd0 ct0 : Value}
    {f2 : Addr} {od2 an2 : Option Addr} {sl2 : Array (Option Value)} {oc2 kV2 dc2 pm2 cd2 ct2 : Value}
    {f3 : Addr} {od3 an3 : Option Addr} {sl3 : Array (Option Value)} {oc3 kV3 dc3 pm3 cd3 ct3 : Value}
    {f4 : Addr} {od4 an4 : Option Addr} {sl4 : Array (Option Value)} {oc4 kV4 dc4 pm4 cd4 ct4 : Value}
    {f5 : Addr} {od5 an5 : Option Addr} {sl5 : Array (Option Value)} {oc5 kV5 dc5 pm5 cd5 ct5 : Value}
    {f6 : Addr} {od6 an6 : Option Addr} {sl6 : Array (Option Value)} {oc6 kV6 dc6 pm6 cd6 ct6 : Value}
    {f7 : Addr} {od7 an7 : Option Addr} {sl7 : Array (Option Value)} {oc7 kV7 dc7 pm7 cd7 ct7 : Value}
    {f8 : Addr} {od8 an8 : Option Addr} {sl8 : Array (Option Value)} {oc8 kV8 dc8 pm8 cd8 ct8 : Value}
    {f9 : Addr} {od9 an9 : Option Addr} {sl9 : Array (Option Value)} {oc9 kV9 dc9 pm9 cd9 ct9 : Value}
    {f10 : Addr} {od10 an10 : Option Addr} {sl10 : Array (Option Value)} {oc10 kV10 dc10 pm10 cd10 ct10 : Value}
    {f11 : Addr} {od11 an11 : Option Addr} {sl11 : Array (Option Value)} {oc11 kV11 dc11 pm11 cd11 ct11 : Value}
    {f12 : Addr} {od12 an12 : Option Addr} {sl12 : Array (Option Value)} {oc12 kV12 dc12 pm12 cd12 ct12 : Value}
    {f13 : Addr} {od13 an13 : Option Addr} {sl13 : Array (Option Value)} {oc13 kV13 dc13 pm13 cd13 ct13 : Value}
    {f14 : Addr} {od14 an14 : Option Addr} {sl14 : Array (Option Value)} {oc14 kV14 dc14 pm14 cd14 ct14 : Value}
    {f15 : Addr} {od15 an15 : Option Addr} {sl15 : Array (Option Value)} {oc15 kV15 dc15 pm15 cd15 ct15 : Value}
    {f16 : Addr} {od16 an16 : Option Addr} {sl16 : Array (Option Value)} {oc16 kV16 dc16 pm16 cd16 ct16 : Value}
    {f17 : Addr} {od17 an17 : Option Addr} {sl17 : Array (Option Value)} {oc17 kV17 dc17 pm17 cd17 ct17 : Value}
    {f18 : Addr} {od18 an18 : Option Addr} {sl18 : Array (Option Value)} {oc18 kV18 dc18 pm18 cd18 ct18 : Value}
    {f19 : Addr} {od19 an19 : Option Addr} {sl19 : Array (Option Value)} {oc19 kV19 dc19 pm19 cd19 ct19 : Value}
    {f20 : Addr} {od20 an20 : Option Addr} {sl20 : Array (Option Value)} {oc20 kV20 dc20 pm20 cd20 ct20 : Value}
    {f21 : Addr} {od21 an21 : Option Addr} {sl21 : Array (Option Value)} {oc21 kV21 dc21 pm21 cd21 ct21 : Value}
    {f22 : Addr} {od22 an22 : Option Addr} {sl22 : Array (Option Value)} {oc22 kV22 dc22 pm22 cd22 ct22 : Value}
    {f23 : Addr} {od23 an23 : Option Addr} {sl23 : Array (Option Value)} {oc23 kV23 dc23 pm23 cd23 ct23 : Value}
    {f24 : Addr} {od24 an24 : Option Addr} {sl24 : Array (Option Value)} {oc24 kV24 dc24 pm24 cd24 ct24 : Value}
    {f25 : Addr} {od25 an25 : Option Addr} {sl25 : Array (Option Value)} {oc25 kV25 dc25 pm25 cd25 ct25 : Value}
    {f26 : Addr} {od26 an26 : Option Addr} {sl26 : Array (Option Value)} {oc26 kV26 dc26 pm26 cd26 ct26 : Value}
    {f27 : Addr} {od27 an27 : Option Addr} {sl27 : Array (Option Value)} {oc27 kV27 dc27 pm27 cd27 ct27 : Value}
    {f28 : Addr} {od28 an28 : Option Addr} {sl28 : Array (Option Value)} {oc28 kV28 dc28 pm28 cd28 ct28 : Value}
    {f29 : Addr} {od29 an29 : Option Addr} {sl29 : Array (Option Value)} {oc29 kV29 dc29 pm29 cd29 ct29 : Value}
    {f30 : Addr} {od30 an30 : Option Addr} {sl30 : Array (Option Value)} {oc30 kV30 dc30 pm30 cd30 ct30 : Value}
    {f31 : Addr} {od31 an31 : Option Addr} {sl31 : Array (Option Value)} {oc31 kV31 dc31 pm31 cd31 ct31 : Value}
    {f32 : Addr} {od32 an32 : Option Addr} {sl32 : Array (Option Value)} {oc32 kV32 dc32 pm32 cd32 ct32 : Value}
    {f33 : Addr} {od33 an33 : Option Addr} {sl33 : Array (Option Value)} {oc33 kV33 dc33 pm33 cd33 ct33 : Value}
    {f34 : Addr} {od34 an34 : Option Addr} {sl34 : Array (Option Value)} {oc34 kV34 dc34 pm34 cd34 ct34 : Value}
    {f35 : Addr} {od35 an35 : Option Addr} {sl35 : Array (Option Value)} {oc35 kV35 dc35 pm35 cd35 ct35 : Value}
    {f36 : Addr} {od36 an36 : Option Addr} {sl36 : Array (Option Value)} {oc36 kV36 dc36 pm36 cd36 ct36 : Value}
    (z_BYTE : PySem.W.nsIn K mainGlobals "BYTE" = some (some (.str "byte" tk_BYTE)))
    (z_BEGIN : PySem.W.nsIn K mainGlobals "BEGIN" = some (some (.str "begin" tk_BEGIN)))
    (z_END : PySem.W.nsIn K mainGlobals "END" = some (some (.str "end" tk_END)))
    (z_EDGE : PySem.W.nsIn K mainGlobals "EDGE" = some (some (.str "edge" tk_EDGE)))
    (z_NO_EDGE : PySem.W.nsIn K mainGlobals "NO_EDGE" = some (some (.str "no edge" tk_NO_EDGE)))
    (z_ROW : PySem.W.nsIn K mainGlobals "ROW" = some (some (.str "row" tk_ROW)))
    (z_EITHER : PySem.W.nsIn K mainGlobals "EITHER" = some (some (.str "either" tk_EITHER)))
    (z_BOTH : PySem.W.nsIn K mainGlobals "BOTH" = some (some (.str "both" tk_BOTH)))
    (z_TURNED : PySem.W.nsIn K mainGlobals "TURNED" = some (some (.str "turned" tk_TURNED)))
    (z_COUNTED : PySem.W.nsIn K mainGlobals "COUNTED" = some (some (.str "counted" tk_COUNTED)))
    (z_GROUP : PySem.W.nsIn K mainGlobals "GROUP" = some (some (.str "group" tk_GROUP)))
    (z_SPECIALS : PySem.W.nsIn K mainGlobals "SPECIALS" = some (some (.str "\\|&~*+?{}.^$()[]-:" tk_SPECIALS)))
    (z_NOT_PLAIN : PySem.W.nsIn K mainGlobals "NOT_PLAIN" = some (some (.str "\\|&~*+?{}.^$()[]" tk_NOT_PLAIN)))
    (z_NOT_PLAIN_IN_SET : PySem.W.nsIn K mainGlobals "NOT_PLAIN_IN_SET" = some (some (.str "]-^" tk_NOT_PLAIN_IN_SET)))
    (z_NOT_ATOMS : PySem.W.nsIn K mainGlobals "NOT_ATOMS" = some (some (.str "~|&)" tk_NOT_ATOMS)))
    (z_CANNOT_STAND : PySem.W.nsIn K mainGlobals "CANNOT_STAND" = some (some (.int 1 tk_CANNOT_STAND)))
    (z_WRONG_NUMBER : PySem.W.nsIn K mainGlobals "WRONG_NUMBER" = some (some (.int 2 tk_WRONG_NUMBER)))
    (z_WRONG_ITEM : PySem.W.nsIn K mainGlobals "WRONG_ITEM" = some (some (.int 3 tk_WRONG_ITEM)))
    (z_WRONG_GROUP : PySem.W.nsIn K mainGlobals "WRONG_GROUP" = some (some (.int 4 tk_WRONG_GROUP)))
    (z_MOST_GROUPS : PySem.W.nsIn K mainGlobals "MOST_GROUPS" = some (some (.int 32 tk_MOST_GROUPS)))
    (z_MOST_TIMES : PySem.W.nsIn K mainGlobals "MOST_TIMES" = some (some (.int 100 tk_MOST_TIMES)))
    (z_PATTERN_ENDED : PySem.W.nsIn K mainGlobals "PATTERN_ENDED" = some (some (.int 256 tk_PATTERN_ENDED)))
    (z_LONGEST : PySem.W.nsIn K mainGlobals "LONGEST" = some (some (.int 200 tk_LONGEST)))
    (z_ANSWERED : PySem.W.nsIn K mainGlobals "ANSWERED" = some (some (.int 0 tk_ANSWERED)))
    (z_REFUSED : PySem.W.nsIn K mainGlobals "REFUSED" = some (some (.int 9 tk_REFUSED)))
    (z_BEYOND_BOUNDS : PySem.W.nsIn K mainGlobals "BEYOND_BOUNDS" = some (some (.int 1 tk_BEYOND_BOUNDS)))
    (z_FAULTY : PySem.W.nsIn K mainGlobals "FAULTY" = some (some (.int 2 tk_FAULTY)))
    (z_FIRST : PySem.W.nsIn K mainGlobals "FIRST" = some (some (.int 0 tk_FIRST)))
    (z_ord : PySem.W.nsIn K mainGlobals "ord" = some none)
    (z_len : PySem.W.nsIn K mainGlobals "len" = some none)
    (z_range : PySem.W.nsIn K mainGlobals "range" = some none)
    (g_Reader : PySem.W.nsIn K mainGlobals "Reader" = some (some (.ref C1)))
    (pg_Reader : PySem.W.plainGet K C1 Str.empty = true)
    (hd_Reader : PySem.W.hasDictIn K C1 = true)
    (po_Reader : PySem.W.plainOver K C1 = true)
    (sa_Reader : PySem.W.findIn K (.ref C1) "__setattr__" = some (some (.builtin "object.__setattr__")))
    (mk_Reader : PySem.W.makesIn K C1 = true)
    (kc_Reader : PySem.W.keepIn K (.ref C1) = true)
    (n_Reader_pattern : PySem.W.findIn K (.ref C1) "pattern" = some none)
    (n_Reader_place : PySem.W.findIn K (.ref C1) "place" = some none)
    (n_Reader_forms : PySem.W.findIn K (.ref C1) "forms" = some none)
    (n_Reader_groups : PySem.W.findIn K (.ref C1) "groups" = some none)
    (n_Reader_levels : PySem.W.findIn K (.ref C1) "levels" = some none)
    (g_Level : PySem.W.nsIn K mainGlobals "Level" = some (some (.ref C2)))
    (pg_Level : PySem.W.plainGet K C2 Str.empty = true)
    (hd_Level : PySem.W.hasDictIn K C2 = true)
    (po_Level : PySem.W.plainOver K C2 = true)
    (sa_Level : PySem.W.findIn K (.ref C2) "__setattr__" = some (some (.builtin "object.__setattr__")))
    (mk_Level : PySem.W.makesIn K C2 = true)
    (kc_Level : PySem.W.keepIn K (.ref C2) = true)
    (n_Level_rows : PySem.W.findIn K (.ref C2) "rows" = some none)
    (n_Level_parts : PySem.W.findIn K (.ref C2) "parts" = some none)
    (n_Level_pieces : PySem.W.findIn K (.ref C2) "pieces" = some none)
    (n_Level_turned : PySem.W.findIn K (.ref C2) "turned" = some none)
    (n_Level_shut : PySem.W.findIn K (.ref C2) "shut" = some none)
    (n_Level_groups_before_part : PySem.W.findIn K (.ref C2) "groups_before_part" = some none)
    (n_Level_group : PySem.W.findIn K (.ref C2) "group" = some none)
    (g_Form : PySem.W.nsIn K mainGlobals "Form" = some (some (.ref C3)))
    (pg_Form : PySem.W.plainGet K C3 Str.empty = true)
    (hd_Form : PySem.W.hasDictIn K C3 = true)
    (po_Form : PySem.W.plainOver K C3 = true)
    (sa_Form : PySem.W.findIn K (.ref C3) "__setattr__" = some (some (.builtin "object.__setattr__")))
    (mk_Form : PySem.W.makesIn K C3 = true)
    (kc_Form : PySem.W.keepIn K (.ref C3) = true)
    (n_Form_kind : PySem.W.findIn K (.ref C3) "kind" = some none)
    (n_Form_parts : PySem.W.findIn K (.ref C3) "parts" = some none)
    (n_Form_told : PySem.W.findIn K (.ref C3) "told" = some none)
    (g_Fault : PySem.W.nsIn K mainGlobals "Fault" = some (some (.ref C4)))
    (xL : K.lookup C4 = some (excClassObj nm q C4 NF bs [.type "Exception", .type "BaseException", .type "object"] true sn sub ab col dd m0 m1 m2 m3 m5 "Exception.__new__"))
    (fsa : PySem.W.findIn K (.ref C4) "__setattr__" = some (some (.builtin "object.__setattr__")))
    (fga : PySem.W.findIn K (.ref C4) "__getattribute__" = some (some (.builtin "BaseException.__getattribute__")))
    (fgg : PySem.W.findIn K (.ref C4) "__getattr__" = some none)
    (fnr : PySem.W.findIn K (.ref C4) "rule" = some none)
    (fnp : PySem.W.findIn K (.ref C4) "place" = some none)
    (faI : PySem.W.findIn K (.ref C4) "__init__" = some (some (.ref fF)))
    (ftI : PySem.W.typeIn K (.ref fF) = some (.type "function"))
    (flI : K.lookup fF = some ⟨ocF, odF, .func (PySem.W.fnOf "__init__" "Fault.__init__" (FX.iA ⟨33, 17, 33, 21⟩ ⟨33, 23, 33, 27⟩ ⟨33, 29, 33, 34⟩) (FX.iB ⟨34, 8, 34, 12⟩ ⟨34, 8, 34, 17⟩ ⟨34, 20, 34, 24⟩ ⟨34, 8, 34, 24⟩ ⟨35, 8, 35, 12⟩ ⟨35, 8, 35, 18⟩ ⟨35, 21, 35, 26⟩ ⟨35, 8, 35, 26⟩) FX.iS .none .none dcF pmF anF cdF ctF), slF⟩)
    (fcI : PySem.W.codeIn K cdF "Fault.__init__" = true)
    (fkC : PySem.W.keepIn K (.ref C4) = true)
    (feC : PySem.W.subIn K (.ref C4) (.type "BaseException") = some true)
    (ftC : PySem.W.typeIn K (.ref C4) = some (.type "type"))
    (fhC : PySem.W.hasDictIn K C4 = true)
    (fiC : PySem.W.isClsIn K C4 = true)
    (fsC : PySem.W.subIn K (.ref C4) (.ref C4) = some true)
    (a0 : PySem.W.findIn K (.ref C3) "__init__" = some (some (.ref f0)))
    (i0 : PySem.W.isFn K (.ref f0) = true)
    (l0 : K.lookup f0 = some ⟨oc0, od0, .func (PySem.W.fnOf "__init__" "Form.__init__" (defArgs s_Form_init) (defBody s_Form_init) (defScope s_Form_init) .none kV0 dc0 pm0 an0 cd0 ct0), sl0⟩)
    (c0 : PySem.W.codeIn K cd0 "Form.__init__" = true)
    (k0 : PySem.W.keepIn K (.ref f0) = true)
    (a2 : PySem.W.nsIn K mainGlobals "among" = some (some (.ref f2)))
    (l2 : K.lookup f2 = some ⟨oc2, od2, .func (PySem.W.fnOf "among" "among" (defArgs s_among) (defBody s_among) (defScope s_among) .none kV2 dc2 pm2 an2 cd2 ct2), sl2⟩)
    (c2 : PySem.W.codeIn K cd2 "among" = true)
    (k2 : PySem.W.keepIn K (.ref f2) = true)
    (a3 : PySem.W.nsIn K mainGlobals "is_printed" = some (some (.ref f3)))
    (l3 : K.lookup f3 = some ⟨oc3, od3, .func (PySem.W.fnOf "is_printed" "is_printed" (defArgs s_is_printed) (defBody s_is_printed) (defScope s_is_printed) .none kV3 dc3 pm3 an3 cd3 ct3), sl3⟩)
    (c3 : PySem.W.codeIn K cd3 "is_printed" = true)
    (k3 : PySem.W.keepIn K (.ref f3) = true)
    (a4 : PySem.W.nsIn K mainGlobals "is_digit" = some (some (.ref f4)))
    (l4 : K.lookup f4 = some ⟨oc4, od4, .func (PySem.W.fnOf "is_digit" "is_digit" (defArgs s_is_digit) (defBody s_is_digit) (defScope s_is_digit) .none kV4 dc4 pm4 an4 cd4 ct4), sl4⟩)
    (c4 : PySem.W.codeIn K cd4 "is_digit" = true)
    (k4 : PySem.W.keepIn K (.ref f4) = true)
    (a5 : PySem.W.findIn K (.ref C2) "__init__" = some (some (.ref f5)))
    (i5 : PySem.W.isFn K (.ref f5) = true)
    (l5 : K.lookup f5 = some ⟨oc5, od5, .func (PySem.W.fnOf "__init__" "Level.__init__" (defArgs s_Level_init) (defBody s_Level_init) (defScope s_Level_init) .none kV5 dc5 pm5 an5 cd5 ct5), sl5⟩)
    (c5 : PySem.W.codeIn K cd5 "Level.__init__" = true)
    (k5 : PySem.W.keepIn K (.ref f5) = true)
    (a6 : PySem.W.findIn K (.ref C2) "bars_groups" = some (some (.ref f6)))
    (i6 : PySem.W.isFn K (.ref f6) = true)
    (l6 : K.lookup f6 = some ⟨oc6, od6, .func (PySem.W.fnOf "bars_groups" "Level.bars_groups" (defArgs s_Level_bars_groups) (defBody s_Level_bars_groups) (defScope s_Level_bars_groups) .none kV6 dc6 pm6 an6 cd6 ct6), sl6⟩)
    (c6 : PySem.W.codeIn K cd6 "Level.bars_groups" = true)
    (k6 : PySem.W.keepIn K (.ref f6) = true)
    (a7 : PySem.W.findIn K (.ref C1) "__init__" = some (some (.ref f7)))
    (i7 : PySem.W.isFn K (.ref f7) = true)
    (l7 : K.lookup f7 = some ⟨oc7, od7, .func (PySem.W.fnOf "__init__" "Reader.__init__" (defArgs s_Reader_init) (defBody s_Reader_init) (defScope s_Reader_init) .none kV7 dc7 pm7 an7 cd7 ct7), sl7⟩)
    (c7 : PySem.W.codeIn K cd7 "Reader.__init__" = true)
    (k7 : PySem.W.keepIn K (.ref f7) = true)
    (a8 : PySem.W.findIn K (.ref C1) "now" = some (some (.ref f8)))
    (i8 : PySem.W.isFn K (.ref f8) = true)
    (l8 : K.lookup f8 = some ⟨oc8, od8, .func (PySem.W.fnOf "now" "Reader.now" (defArgs s_Reader_now) (defBody s_Reader_now) (defScope s_Reader_now) .none kV8 dc8 pm8 an8 cd8 ct8), sl8⟩)
    (c8 : PySem.W.codeIn K cd8 "Reader.now" = true)
    (k8 : PySem.W.keepIn K (.ref f8) = true)
    (a9 : PySem.W.findIn K (.ref C1) "passes" = some (some (.ref f9)))
    (i9 : PySem.W.isFn K (.ref f9) = true)
    (l9 : K.lookup f9 = some ⟨oc9, od9, .func (PySem.W.fnOf "passes" "Reader.passes" (defArgs s_Reader_passes) (defBody s_Reader_passes) (defScope s_Reader_passes) .none kV9 dc9 pm9 an9 cd9 ct9), sl9⟩)
    (c9 : PySem.W.codeIn K cd9 "Reader.passes" = true)
    (k9 : PySem.W.keepIn K (.ref f9) = true)
    (a10 : PySem.W.findIn K (.ref C1) "need" = some (some (.ref f10)))
    (i10 : PySem.W.isFn K (.ref f10) = true)
    (l10 : K.lookup f10 = some ⟨oc10, od10, .func (PySem.W.fnOf "need" "Reader.need" (defArgs s_Reader_need) (defBody s_Reader_need) (defScope s_Reader_need) .none kV10 dc10 pm10 an10 cd10 ct10), sl10⟩)
    (c10 : PySem.W.codeIn K cd10 "Reader.need" = true)
    (k10 : PySem.W.keepIn K (.ref f10) = true)
    (a11 : PySem.W.findIn K (.ref C1) "keep" = some (some (.ref f11)))
    (i11 : PySem.W.isFn K (.ref f11) = true)
    (l11 : K.lookup f11 = some ⟨oc11, od11, .func (PySem.W.fnOf "keep" "Reader.keep" (defArgs s_Reader_keep) (defBody s_Reader_keep) (defScope s_Reader_keep) .none kV11 dc11 pm11 an11 cd11 ct11), sl11⟩)
    (c11 : PySem.W.codeIn K cd11 "Reader.keep" = true)
    (k11 : PySem.W.keepIn K (.ref f11) = true)
    (a12 : PySem.W.findIn K (.ref C1) "keep_joined" = some (some (.ref f12)))
    (i12 : PySem.W.isFn K (.ref f12) = true)
    (l12 : K.lookup f12 = some ⟨oc12, od12, .func (PySem.W.fnOf "keep_joined" "Reader.keep_joined" (defArgs s_Reader_keep_joined) (defBody s_Reader_keep_joined) (defScope s_Reader_keep_joined) .none kV12 dc12 pm12 an12 cd12 ct12), sl12⟩)
    (c12 : PySem.W.codeIn K cd12 "Reader.keep_joined" = true)
    (k12 : PySem.W.keepIn K (.ref f12) = true)
    (a13 : PySem.W.findIn K (.ref C1) "read_whole" = some (some (.ref f13)))
    (i13 : PySem.W.isFn K (.ref f13) = true)
    (l13 : K.lookup f13 = some ⟨oc13, od13, .func (PySem.W.fnOf "read_whole" "Reader.read_whole" (defArgs s_Reader_read_whole) (defBody s_Reader_read_whole) (defScope s_Reader_read_whole) .none kV13 dc13 pm13 an13 cd13 ct13), sl13⟩)
    (c13 : PySem.W.codeIn K cd13 "Reader.read_whole" = true)
    (k13 : PySem.W.keepIn K (.ref f13) = true)
    (a14 : PySem.W.findIn K (.ref C1) "read_step" = some (some (.ref f14)))
    (i14 : PySem.W.isFn K (.ref f14) = true)
    (l14 : K.lookup f14 = some ⟨oc14, od14, .func (PySem.W.fnOf "read_step" "Reader.read_step" (defArgs s_Reader_read_step) (defBody s_Reader_read_step) (defScope s_Reader_read_step) .none kV14 dc14 pm14 an14 cd14 ct14), sl14⟩)
    (c14 : PySem.W.codeIn K cd14 "Reader.read_step" = true)
    (k14 : PySem.W.keepIn K (.ref f14) = true)
    (a15 : PySem.W.findIn K (.ref C1) "open_bracket" = some (some (.ref f15)))
    (i15 : PySem.W.isFn K (.ref f15) = true)
    (l15 : K.lookup f15 = some ⟨oc15, od15, .func (PySem.W.fnOf "open_bracket" "Reader.open_bracket" (defArgs s_Reader_open_bracket) (defBody s_Reader_open_bracket) (defScope s_Reader_open_bracket) .none kV15 dc15 pm15 an15 cd15 ct15), sl15⟩)
    (c15 : PySem.W.codeIn K cd15 "Reader.open_bracket" = true)
    (k15 : PySem.W.keepIn K (.ref f15) = true)
    (a16 : PySem.W.findIn K (.ref C1) "close_bracket" = some (some (.ref f16)))
    (i16 : PySem.W.isFn K (.ref f16) = true)
    (l16 : K.lookup f16 = some ⟨oc16, od16, .func (PySem.W.fnOf "close_bracket" "Reader.close_bracket" (defArgs s_Reader_close_bracket) (defBody s_Reader_close_bracket) (defScope s_Reader_close_bracket) .none kV16 dc16 pm16 an16 cd16 ct16), sl16⟩)
    (c16 : PySem.W.codeIn K cd16 "Reader.close_bracket" = true)
    (k16 : PySem.W.keepIn K (.ref f16) = true)
    (a17 : PySem.W.findIn K (.ref C1) "pass_both" = some (some (.ref f17)))
    (i17 : PySem.W.isFn K (.ref f17) = true)
    (l17 : K.lookup f17 = some ⟨oc17, od17, .func (PySem.W.fnOf "pass_both" "Reader.pass_both" (defArgs s_Reader_pass_both) (defBody s_Reader_pass_both) (defScope s_Reader_pass_both) .none kV17 dc17 pm17 an17 cd17 ct17), sl17⟩)
    (c17 : PySem.W.codeIn K cd17 "Reader.pass_both" = true)
    (k17 : PySem.W.keepIn K (.ref f17) = true)
    (a18 : PySem.W.findIn K (.ref C1) "end_part" = some (some (.ref f18)))
    (i18 : PySem.W.isFn K (.ref f18) = true)
    (l18 : K.lookup f18 = some ⟨oc18, od18, .func (PySem.W.fnOf "end_part" "Reader.end_part" (defArgs s_Reader_end_part) (defBody s_Reader_end_part) (defScope s_Reader_end_part) .none kV18 dc18 pm18 an18 cd18 ct18), sl18⟩)
    (c18 : PySem.W.codeIn K cd18 "Reader.end_part" = true)
    (k18 : PySem.W.keepIn K (.ref f18) = true)
    (a19 : PySem.W.findIn K (.ref C1) "end_row" = some (some (.ref f19)))
    (i19 : PySem.W.isFn K (.ref f19) = true)
    (l19 : K.lookup f19 = some ⟨oc19, od19, .func (PySem.W.fnOf "end_row" "Reader.end_row" (defArgs s_Reader_end_row) (defBody s_Reader_end_row) (defScope s_Reader_end_row) .none kV19 dc19 pm19 an19 cd19 ct19), sl19⟩)
    (c19 : PySem.W.codeIn K cd19 "Reader.end_row" = true)
    (k19 : PySem.W.keepIn K (.ref f19) = true)
    (a20 : PySem.W.findIn K (.ref C1) "end_level" = some (some (.ref f20)))
    (i20 : PySem.W.isFn K (.ref f20) = true)
    (l20 : K.lookup f20 = some ⟨oc20, od20, .func (PySem.W.fnOf "end_level" "Reader.end_level" (defArgs s_Reader_end_level) (defBody s_Reader_end_level) (defScope s_Reader_end_level) .none kV20 dc20 pm20 an20 cd20 ct20), sl20⟩)
    (c20 : PySem.W.codeIn K cd20 "Reader.end_level" = true)
    (k20 : PySem.W.keepIn K (.ref f20) = true)
    (a21 : PySem.W.findIn K (.ref C1) "end_piece" = some (some (.ref f21)))
    (i21 : PySem.W.isFn K (.ref f21) = true)
    (l21 : K.lookup f21 = some ⟨oc21, od21, .func (PySem.W.fnOf "end_piece" "Reader.end_piece" (defArgs s_Reader_end_piece) (defBody s_Reader_end_piece) (defScope s_Reader_end_piece) .none kV21 dc21 pm21 an21 cd21 ct21), sl21⟩)
    (c21 : PySem.W.codeIn K cd21 "Reader.end_piece" = true)
    (k21 : PySem.W.keepIn K (.ref f21) = true)
    (a22 : PySem.W.findIn K (.ref C1) "read_count" = some (some (.ref f22)))
    (i22 : PySem.W.isFn K (.ref f22) = true)
    (l22 : K.lookup f22 = some ⟨oc22, od22, .func (PySem.W.fnOf "read_count" "Reader.read_count" (defArgs s_Reader_read_count) (defBody s_Reader_read_count) (defScope s_Reader_read_count) .none kV22 dc22 pm22 an22 cd22 ct22), sl22⟩)
    (c22 : PySem.W.codeIn K cd22 "Reader.read_count" = true)
    (k22 : PySem.W.keepIn K (.ref f22) = true)
    (a23 : PySem.W.findIn K (.ref C1) "read_numbers" = some (some (.ref f23)))
    (i23 : PySem.W.isFn K (.ref f23) = true)
    (l23 : K.lookup f23 = some ⟨oc23, od23, .func (PySem.W.fnOf "read_numbers" "Reader.read_numbers" (defArgs s_Reader_read_numbers) (defBody s_Reader_read_numbers) (defScope s_Reader_read_numbers) .none kV23 dc23 pm23 an23 cd23 ct23), sl23⟩)
    (c23 : PySem.W.codeIn K cd23 "Reader.read_numbers" = true)
    (k23 : PySem.W.keepIn K (.ref f23) = true)
    (a24 : PySem.W.findIn K (.ref C1) "read_number" = some (some (.ref f24)))
    (i24 : PySem.W.isFn K (.ref f24) = true)
    (l24 : K.lookup f24 = some ⟨oc24, od24, .func (PySem.W.fnOf "read_number" "Reader.read_number" (defArgs s_Reader_read_number) (defBody s_Reader_read_number) (defScope s_Reader_read_number) .none kV24 dc24 pm24 an24 cd24 ct24), sl24⟩)
    (c24 : PySem.W.codeIn K cd24 "Reader.read_number" = true)
    (k24 : PySem.W.keepIn K (.ref f24) = true)
    (a25 : PySem.W.findIn K (.ref C1) "read_atom" = some (some (.ref f25)))
    (i25 : PySem.W.isFn K (.ref f25) = true)
    (l25 : K.lookup f25 = some ⟨oc25, od25, .func (PySem.W.fnOf "read_atom" "Reader.read_atom" (defArgs s_Reader_read_atom) (defBody s_Reader_read_atom) (defScope s_Reader_read_atom) .none kV25 dc25 pm25 an25 cd25 ct25), sl25⟩)
    (c25 : PySem.W.codeIn K cd25 "Reader.read_atom" = true)
    (k25 : PySem.W.keepIn K (.ref f25) = true)
    (a26 : PySem.W.findIn K (.ref C1) "read_plain" = some (some (.ref f26)))
    (i26 : PySem.W.isFn K (.ref f26) = true)
    (l26 : K.lookup f26 = some ⟨oc26, od26, .func (PySem.W.fnOf "read_plain" "Reader.read_plain" (defArgs s_Reader_read_plain) (defBody s_Reader_read_plain) (defScope s_Reader_read_plain) .none kV26 dc26 pm26 an26 cd26 ct26), sl26⟩)
    (c26 : PySem.W.codeIn K cd26 "Reader.read_plain" = true)
    (k26 : PySem.W.keepIn K (.ref f26) = true)
    (a27 : PySem.W.findIn K (.ref C1) "keep_byte" = some (some (.ref f27)))
    (i27 : PySem.W.isFn K (.ref f27) = true)
    (l27 : K.lookup f27 = some ⟨oc27, od27, .func (PySem.W.fnOf "keep_byte" "Reader.keep_byte" (defArgs s_Reader_keep_byte) (defBody s_Reader_keep_byte) (defScope s_Reader_keep_byte) .none kV27 dc27 pm27 an27 cd27 ct27), sl27⟩)
    (c27 : PySem.W.codeIn K cd27 "Reader.keep_byte" = true)
    (k27 : PySem.W.keepIn K (.ref f27) = true)
    (a28 : PySem.W.findIn K (.ref C1) "read_escaped_atom" = some (some (.ref f28)))
    (i28 : PySem.W.isFn K (.ref f28) = true)
    (l28 : K.lookup f28 = some ⟨oc28, od28, .func (PySem.W.fnOf "read_escaped_atom" "Reader.read_escaped_atom" (defArgs s_Reader_read_escaped_atom) (defBody s_Reader_read_escaped_atom) (defScope s_Reader_read_escaped_atom) .none kV28 dc28 pm28 an28 cd28 ct28), sl28⟩)
    (c28 : PySem.W.codeIn K cd28 "Reader.read_escaped_atom" = true)
    (k28 : PySem.W.keepIn K (.ref f28) = true)
    (a29 : PySem.W.findIn K (.ref C1) "read_escaped" = some (some (.ref f29)))
    (i29 : PySem.W.isFn K (.ref f29) = true)
    (l29 : K.lookup f29 = some ⟨oc29, od29, .func (PySem.W.fnOf "read_escaped" "Reader.read_escaped" (defArgs s_Reader_read_escaped) (defBody s_Reader_read_escaped) (defScope s_Reader_read_escaped) .none kV29 dc29 pm29 an29 cd29 ct29), sl29⟩)
    (c29 : PySem.W.codeIn K cd29 "Reader.read_escaped" = true)
    (k29 : PySem.W.keepIn K (.ref f29) = true)
    (a30 : PySem.W.findIn K (.ref C1) "read_hex" = some (some (.ref f30)))
    (i30 : PySem.W.isFn K (.ref f30) = true)
    (l30 : K.lookup f30 = some ⟨oc30, od30, .func (PySem.W.fnOf "read_hex" "Reader.read_hex" (defArgs s_Reader_read_hex) (defBody s_Reader_read_hex) (defScope s_Reader_read_hex) .none kV30 dc30 pm30 an30 cd30 ct30), sl30⟩)
    (c30 : PySem.W.codeIn K cd30 "Reader.read_hex" = true)
    (k30 : PySem.W.keepIn K (.ref f30) = true)
    (a31 : PySem.W.findIn K (.ref C1) "read_set" = some (some (.ref f31)))
    (i31 : PySem.W.isFn K (.ref f31) = true)
    (l31 : K.lookup f31 = some ⟨oc31, od31, .func (PySem.W.fnOf "read_set" "Reader.read_set" (defArgs s_Reader_read_set) (defBody s_Reader_read_set) (defScope s_Reader_read_set) .none kV31 dc31 pm31 an31 cd31 ct31), sl31⟩)
    (c31 : PySem.W.codeIn K cd31 "Reader.read_set" = true)
    (k31 : PySem.W.keepIn K (.ref f31) = true)
    (a32 : PySem.W.findIn K (.ref C1) "read_item" = some (some (.ref f32)))
    (i32 : PySem.W.isFn K (.ref f32) = true)
    (l32 : K.lookup f32 = some ⟨oc32, od32, .func (PySem.W.fnOf "read_item" "Reader.read_item" (defArgs s_Reader_read_item) (defBody s_Reader_read_item) (defScope s_Reader_read_item) .none kV32 dc32 pm32 an32 cd32 ct32), sl32⟩)
    (c32 : PySem.W.codeIn K cd32 "Reader.read_item" = true)
    (k32 : PySem.W.keepIn K (.ref f32) = true)
    (a33 : PySem.W.findIn K (.ref C1) "read_set_byte" = some (some (.ref f33)))
    (i33 : PySem.W.isFn K (.ref f33) = true)
    (l33 : K.lookup f33 = some ⟨oc33, od33, .func (PySem.W.fnOf "read_set_byte" "Reader.read_set_byte" (defArgs s_Reader_read_set_byte) (defBody s_Reader_read_set_byte) (defScope s_Reader_read_set_byte) .none kV33 dc33 pm33 an33 cd33 ct33), sl33⟩)
    (c33 : PySem.W.codeIn K cd33 "Reader.read_set_byte" = true)
    (k33 : PySem.W.keepIn K (.ref f33) = true)
    (a34 : PySem.W.nsIn K mainGlobals "read_pattern" = some (some (.ref f34)))
    (l34 : K.lookup f34 = some ⟨oc34, od34, .func (PySem.W.fnOf "read_pattern" "read_pattern" (defArgs s_read_pattern) (defBody s_read_pattern) (defScope s_read_pattern) .none kV34 dc34 pm34 an34 cd34 ct34), sl34⟩)
    (c34 : PySem.W.codeIn K cd34 "read_pattern" = true)
    (k34 : PySem.W.keepIn K (.ref f34) = true)
    (a35 : PySem.W.nsIn K mainGlobals "judge" = some (some (.ref f35)))
    (l35 : K.lookup f35 = some ⟨oc35, od35, .func (PySem.W.fnOf "judge" "judge" (defArgs s_judge) (defBody s_judge) (defScope s_judge) .none kV35 dc35 pm35 an35 cd35 ct35), sl35⟩)
    (c35 : PySem.W.codeIn K cd35 "judge" = true)
    (k35 : PySem.W.keepIn K (.ref f35) = true)
    (a36 : PySem.W.nsIn K mainGlobals "told_fault" = some (some (.ref f36)))
    (l36 : K.lookup f36 = some ⟨oc36, od36, .func (PySem.W.fnOf "told_fault" "told_fault" (defArgs s_told_fault) (defBody s_told_fault) (defScope s_told_fault) .none kV36 dc36 pm36 an36 cd36 ct36), sl36⟩)
    (c36 : PySem.W.codeIn K cd36 "told_fault" = true)
    (k36 : PySem.W.keepIn K (.ref f36) = true) :
    ∃ fd : FuncData, (∀ (s : Shared) (us : List Value), us.length = (["pattern"] : List Str).length → BindsTo s fd ⟨us, []⟩ ((["pattern"] : List Str).zip us)) ∧ ∀ base : Heap, K.In base → base.Ns mainGlobals mg → FnOk P w K mg base CX0 12 fa fd ["pattern"] (spJudge K) := by
  have e := hfa.symm.trans (PySem.W.mg_of X G a35)
  cases e
  have F0 := fun_mk (st := s_Form_init) l0 c0 k0
  have b0 := F0.binds (ps := ["self", "kind", "parts", "told"]) fun _ _ _ _ _ _ us hl => match us, hl with | [_, _, _, _], _ => rfl
  have F2 := fun_mk (st := s_among) l2 c2 k2
  have b2 := F2.binds (ps := ["byte", "signs"]) fun _ _ _ _ _ _ us hl => match us, hl with | [_, _], _ => rfl
  have F3 := fun_mk (st := s_is_printed) l3 c3 k3
  have b3 := F3.binds (ps := ["byte"]) fun _ _ _ _ _ _ us hl => match us, hl with | [_], _ => rfl
  have F4 := fun_mk (st := s_is_digit) l4 c4 k4
  have b4 := F4.binds (ps := ["byte"]) fun _ _ _ _ _ _ us hl => match us, hl with | [_], _ => rfl
  have F5 := fun_mk (st := s_Level_init) l5 c5 k5
  have b5 := F5.binds (ps := ["self", "shut", "groups", "group"]) fun _ _ _ _ _ _ us hl => match us, hl with | [_, _, _, _], _ => rfl
  have F6 := fun_mk (st := s_Level_bars_groups) l6 c6 k6
  have b6 := F6.binds (ps := ["self"]) fun _ _ _ _ _ _ us hl => match us, hl with | [_], _ => rfl
  have F7 := fun_mk (st := s_Reader_init) l7 c7 k7
  have b7 := F7.binds (ps := ["self", "pattern"]) fun _ _ _ _ _ _ us hl => match us, hl with | [_, _], _ => rfl
  have F8 := fun_mk (st := s_Reader_now) l8 c8 k8
  have b8 := F8.binds (ps := ["self"]) fun _ _ _ _ _ _ us hl => match us, hl with | [_], _ => rfl
  have F9 := fun_mk (st := s_Reader_passes) l9 c9 k9
  have b9 := F9.binds (ps := ["self", "sign"]) fun _ _ _ _ _ _ us hl => match us, hl with | [_, _], _ => rfl
  have F10 := fun_mk (st := s_Reader_need) l10 c10 k10
  have b10 := F10.binds (ps := ["self", "sign"]) fun _ _ _ _ _ _ us hl => match us, hl with | [_, _], _ => rfl
  have F11 := fun_mk (st := s_Reader_keep) l11 c11 k11
  have b11 := F11.binds (ps := ["self", "kind", "parts", "told"]) fun _ _ _ _ _ _ us hl => match us, hl with | [_, _, _, _], _ => rfl
  have F12 := fun_mk (st := s_Reader_keep_joined) l12 c12 k12
  have b12 := F12.binds (ps := ["self", "kind", "parts"]) fun _ _ _ _ _ _ us hl => match us, hl with | [_, _, _], _ => rfl
  have F13 := fun_mk (st := s_Reader_read_whole) l13 c13 k13
  have b13 := F13.binds (ps := ["self"]) fun _ _ _ _ _ _ us hl => match us, hl with | [_], _ => rfl
  have F14 := fun_mk (st := s_Reader_read_step) l14 c14 k14
  have b14 := F14.binds (ps := ["self"]) fun _ _ _ _ _ _ us hl => match us, hl with | [_], _ => rfl
  have F15 := fun_mk (st := s_Reader_open_bracket) l15 c15 k15
  have b15 := F15.binds (ps := ["self"]) fun _ _ _ _ _ _ us hl => match us, hl with | [_], _ => rfl
  have F16 := fun_mk (st := s_Reader_close_bracket) l16 c16 k16
  have b16 := F16.binds (ps := ["self"]) fun _ _ _ _ _ _ us hl => match us, hl with | [_], _ => rfl
  have F17 := fun_mk (st := s_Reader_pass_both) l17 c17 k17
  have b17 := F17.binds (ps := ["self", "level"]) fun _ _ _ _ _ _ us hl => match us, hl with | [_, _], _ => rfl
  have F18 := fun_mk (st := s_Reader_end_part) l18 c18 k18
  have b18 := F18.binds (ps := ["self", "level"]) fun _ _ _ _ _ _ us hl => match us, hl with | [_, _], _ => rfl
  have F19 := fun_mk (st := s_Reader_end_row) l19 c19 k19
  have b19 := F19.binds (ps := ["self", "level"]) fun _ _ _ _ _ _ us hl => match us, hl with | [_, _], _ => rfl
  have F20 := fun_mk (st := s_Reader_end_level) l20 c20 k20
  have b20 := F20.binds (ps := ["self", "level"]) fun _ _ _ _ _ _ us hl => match us, hl with | [_, _], _ => rfl
  have F21 := fun_mk (st := s_Reader_end_piece) l21 c21 k21
  have b21 := F21.binds (ps := ["self", "atom"]) fun _ _ _ _ _ _ us hl => match us, hl with | [_, _], _ => rfl
  have F22 := fun_mk (st := s_Reader_read_count) l22 c22 k22
  have b22 := F22.binds (ps := ["self"]) fun _ _ _ _ _ _ us hl => match us, hl with | [_], _ => rfl
  have F23 := fun_mk (st := s_Reader_read_numbers) l23 c23 k23
  have b23 := F23.binds (ps := ["self"]) fun _ _ _ _ _ _ us hl => match us, hl with | [_], _ => rfl
  have F24 := fun_mk (st := s_Reader_read_number) l24 c24 k24
  have b24 := F24.binds (ps := ["self", "least"]) fun _ _ _ _ _ _ us hl => match us, hl with | [_, _], _ => rfl
  have F25 := fun_mk (st := s_Reader_read_atom) l25 c25 k25
  have b25 := F25.binds (ps := ["self"]) fun _ _ _ _ _ _ us hl => match us, hl with | [_], _ => rfl
  have F26 := fun_mk (st := s_Reader_read_plain) l26 c26 k26
  have b26 := F26.binds (ps := ["self", "barred"]) fun _ _ _ _ _ _ us hl => match us, hl with | [_, _], _ => rfl
  have F27 := fun_mk (st := s_Reader_keep_byte) l27 c27 k27
  have b27 := F27.binds (ps := ["self", "only"]) fun _ _ _ _ _ _ us hl => match us, hl with | [_, _], _ => rfl
  have F28 := fun_mk (st := s_Reader_read_escaped_atom) l28 c28 k28
  have b28 := F28.binds (ps := ["self"]) fun _ _ _ _ _ _ us hl => match us, hl with | [_], _ => rfl
  have F29 := fun_mk (st := s_Reader_read_escaped) l29 c29 k29
  have b29 := F29.binds (ps := ["self"]) fun _ _ _ _ _ _ us hl => match us, hl with | [_], _ => rfl
  have F30 := fun_mk (st := s_Reader_read_hex) l30 c30 k30
  have b30 := F30.binds (ps := ["self"]) fun _ _ _ _ _ _ us hl => match us, hl with | [_], _ => rfl
  have F31 := fun_mk (st := s_Reader_read_set) l31 c31 k31
  have b31 := F31.binds (ps := ["self"]) fun _ _ _ _ _ _ us hl => match us, hl with | [_], _ => rfl
  have F32 := fun_mk (st := s_Reader_read_item) l32 c32 k32
  have b32 := F32.binds (ps := ["self", "members"]) fun _ _ _ _ _ _ us hl => match us, hl with | [_, _], _ => rfl
  have F33 := fun_mk (st := s_Reader_read_set_byte) l33 c33 k33
  have b33 := F33.binds (ps := ["self"]) fun _ _ _ _ _ _ us hl => match us, hl with | [_], _ => rfl
  have F34 := fun_mk (st := s_read_pattern) l34 c34 k34
  have b34 := F34.binds (ps := ["pattern"]) fun _ _ _ _ _ _ us hl => match us, hl with | [_], _ => rfl
  have F35 := fun_mk (st := s_judge) l35 c35 k35
  have b35 := F35.binds (ps := ["pattern"]) fun _ _ _ _ _ _ us hl => match us, hl with | [_], _ => rfl
  have F36 := fun_mk (st := s_told_fault) l36 c36 k36
  have b36 := F36.binds (ps := ["which", "fault"]) fun _ _ _ _ _ _ us hl => match us, hl with | [_, _], _ => rfl
  have T : Txt K mg ⟨C1, C2, C3, C4⟩ fF := {
    b_ord := PySem.W.mg_none_of X G z_ord
    b_len := PySem.W.mg_none_of X G z_len
    b_range := PySem.W.mg_none_of X G z_range
    g_BYTE := ⟨_, PySem.W.mg_of X G z_BYTE⟩
    g_BEGIN := ⟨_, PySem.W.mg_of X G z_BEGIN⟩
    g_END := ⟨_, PySem.W.mg_of X G z_END⟩
    g_EDGE := ⟨_, PySem.W.mg_of X G z_EDGE⟩
    g_NO_EDGE := ⟨_, PySem.W.mg_of X G z_NO_EDGE⟩
    g_ROW := ⟨_, PySem.W.mg_of X G z_ROW⟩
    g_EITHER := ⟨_, PySem.W.mg_of X G z_EITHER⟩
    g_BOTH := ⟨_, PySem.W.mg_of X G z_BOTH⟩
    g_TURNED := ⟨_, PySem.W.mg_of X G z_TURNED⟩
    g_COUNTED := ⟨_, PySem.W.mg_of X G z_COUNTED⟩
    g_GROUP := ⟨_, PySem.W.mg_of X G z_GROUP⟩
    g_SPECIALS := ⟨_, PySem.W.mg_of X G z_SPECIALS⟩
    g_NOT_PLAIN := ⟨_, PySem.W.mg_of X G z_NOT_PLAIN⟩
    g_NOT_PLAIN_IN_SET := ⟨_, PySem.W.mg_of X G z_NOT_PLAIN_IN_SET⟩
    g_NOT_ATOMS := ⟨_, PySem.W.mg_of X G z_NOT_ATOMS⟩
    g_CANNOT_STAND := ⟨_, PySem.W.mg_of X G z_CANNOT_STAND⟩
    g_WRONG_NUMBER := ⟨_, PySem.W.mg_of X G z_WRONG_NUMBER⟩
    g_WRONG_ITEM := ⟨_, PySem.W.mg_of X G z_WRONG_ITEM⟩
    g_WRONG_GROUP := ⟨_, PySem.W.mg_of X G z_WRONG_GROUP⟩
    g_MOST_GROUPS := ⟨_, PySem.W.mg_of X G z_MOST_GROUPS⟩
    g_MOST_TIMES := ⟨_, PySem.W.mg_of X G z_MOST_TIMES⟩
    g_PATTERN_ENDED := ⟨_, PySem.W.mg_of X G z_PATTERN_ENDED⟩
    g_LONGEST := ⟨_, PySem.W.mg_of X G z_LONGEST⟩
    g_ANSWERED := ⟨_, PySem.W.mg_of X G z_ANSWERED⟩
    g_REFUSED := ⟨_, PySem.W.mg_of X G z_REFUSED⟩
    g_BEYOND_BOUNDS := ⟨_, PySem.W.mg_of X G z_BEYOND_BOUNDS⟩
    g_FAULTY := ⟨_, PySem.W.mg_of X G z_FAULTY⟩
    g_FIRST := ⟨_, PySem.W.mg_of X G z_FIRST⟩
    c_Reader := ⟨pg_Reader, hd_Reader, po_Reader, sa_Reader⟩
    g_Reader := PySem.W.mg_of X G g_Reader
    n_Reader_pattern := n_Reader_pattern
    n_Reader_place := n_Reader_place
    n_Reader_forms := n_Reader_forms
    n_Reader_groups := n_Reader_groups
    n_Reader_levels := n_Reader_levels
    c_Level := ⟨pg_Level, hd_Level, po_Level, sa_Level⟩
    g_Level := PySem.W.mg_of X G g_Level
    n_Level_rows := n_Level_rows
    n_Level_parts := n_Level_parts
    n_Level_pieces := n_Level_pieces
    n_Level_turned := n_Level_turned
    n_Level_shut := n_Level_shut
    n_Level_groups_before_part := n_Level_groups_before_part
    n_Level_group := n_Level_group
    c_Form := ⟨pg_Form, hd_Form, po_Form, sa_Form⟩
    g_Form := PySem.W.mg_of X G g_Form
    n_Form_kind := n_Form_kind
    n_Form_parts := n_Form_parts
    n_Form_told := n_Form_told
    flt := { gC := PySem.W.mg_of X G g_Fault, cls := ⟨nm, q, NF, bs, sn, sub, ab, col, dd, m0, m1, m2, m3, m5, xL⟩, sa := fsa, ga := fga, gg := fgg, nR := fnr, nP := fnp, iC := faI, tC := ftI, kC := fkC, exC := feC, tyC := ftC, hdC := fhC, te := exm_self feC fiC ftC fsC, fn := ⟨_, _, _, _, _, _, _, _, _, _, _, _, _, _, _, _, _, _, _, flI, fcI⟩ }
    t_Form_init := ⟨_, _, ⟨mk_Form, a0, i0, kc_Form⟩, F0, b0⟩
    t_among := ⟨_, _, PySem.W.mg_of X G a2, k2, F2, b2⟩
    t_is_printed := ⟨_, _, PySem.W.mg_of X G a3, k3, F3, b3⟩
    t_is_digit := ⟨_, _, PySem.W.mg_of X G a4, k4, F4, b4⟩
    t_Level_init := ⟨_, _, ⟨mk_Level, a5, i5, kc_Level⟩, F5, b5⟩
    t_Level_bars_groups := ⟨_, _, ⟨a6, i6, k6⟩, F6, b6⟩
    t_Reader_init := ⟨_, _, ⟨mk_Reader, a7, i7, kc_Reader⟩, F7, b7⟩
    t_Reader_now := ⟨_, _, ⟨a8, i8, k8⟩, F8, b8⟩
    t_Reader_passes := ⟨_, _, ⟨a9, i9, k9⟩, F9, b9⟩
    t_Reader_need := ⟨_, _, ⟨a10, i10, k10⟩, F10, b10⟩
    t_Reader_keep := ⟨_, _, ⟨a11, i11, k11⟩, F11, b11⟩
    t_Reader_keep_joined := ⟨_, _, ⟨a12, i12, k12⟩, F12, b12⟩
    t_Reader_read_whole := ⟨_, _, ⟨a13, i13, k13⟩, F13, b13⟩
    t_Reader_read_step := ⟨_, _, ⟨a14, i14, k14⟩, F14, b14⟩
    t_Reader_open_bracket := ⟨_, _, ⟨a15, i15, k15⟩, F15, b15⟩
    t_Reader_close_bracket := ⟨_, _, ⟨a16, i16, k16⟩, F16, b16⟩
    t_Reader_pass_both := ⟨_, _, ⟨a17, i17, k17⟩, F17, b17⟩
    t_Reader_end_part := ⟨_, _, ⟨a18, i18, k18⟩, F18, b18⟩
    t_Reader_end_row := ⟨_, _, ⟨a19, i19, k19⟩, F19, b19⟩
    t_Reader_end_level := ⟨_, _, ⟨a20, i20, k20⟩, F20, b20⟩
    t_Reader_end_piece := ⟨_, _, ⟨a21, i21, k21⟩, F21, b21⟩
    t_Reader_read_count := ⟨_, _, ⟨a22, i22, k22⟩, F22, b22⟩
    t_Reader_read_numbers := ⟨_, _, ⟨a23, i23, k23⟩, F23, b23⟩
    t_Reader_read_number := ⟨_, _, ⟨a24, i24, k24⟩, F24, b24⟩
    t_Reader_read_atom := ⟨_, _, ⟨a25, i25, k25⟩, F25, b25⟩
    t_Reader_read_plain := ⟨_, _, ⟨a26, i26, k26⟩, F26, b26⟩
    t_Reader_keep_byte := ⟨_, _, ⟨a27, i27, k27⟩, F27, b27⟩
    t_Reader_read_escaped_atom := ⟨_, _, ⟨a28, i28, k28⟩, F28, b28⟩
    t_Reader_read_escaped := ⟨_, _, ⟨a29, i29, k29⟩, F29, b29⟩
    t_Reader_read_hex := ⟨_, _, ⟨a30, i30, k30⟩, F30, b30⟩
    t_Reader_read_set := ⟨_, _, ⟨a31, i31, k31⟩, F31, b31⟩
    t_Reader_read_item := ⟨_, _, ⟨a32, i32, k32⟩, F32, b32⟩
    t_Reader_read_set_byte := ⟨_, _, ⟨a33, i33, k33⟩, F33, b33⟩
    t_read_pattern := ⟨_, _, PySem.W.mg_of X G a34, k34, F34, b34⟩
    t_judge := ⟨_, _, PySem.W.mg_of X G a35, k35, F35, b35⟩
    t_told_fault := ⟨_, _, PySem.W.mg_of X G a36, k36, F36, b36⟩
    }
  exact ⟨PySem.W.fnOf "judge" "judge" (defArgs s_judge) (defBody s_judge) (defScope s_judge) .none kV35 dc35 pm35 an35 cd35 ct35, fun s us hu => match us, hu with | [_], _ => .of_eq rfl, fun base _ _ => ok_judge F35 T⟩
end RM
open PySem PySem.W PyProof.Rows
set_option maxRecDepth 100000 in
set_option maxHeartbeats 0 in
theorem PySem.Challenge.cw_patternmeans_s01_judge_holds : PySem.Challenge.rw_patternmeans_s01_judge.Holds := by
  w_on; k_headS; (case hw => exact ⟨[.list []], by decide +kernel, by decide +kernel⟩)
  k_fillS
  refine L2.walk_specK (r := PySem.Challenge.rw_patternmeans_s01_judge) (k := 12) (CX := L2.CX0) (ps := ["pattern"]) (sp := RM.spJudge) (by decide +kernel) rfl rfl ⟨rfl, by decide, by decide⟩ (fun w h Y => PySem.W.kIn_of Y) ?F ?S (fun _ _ _ _ z => z)
  case F =>
    intro w mg fa h Y KX G hmg
    refine' RM.all_mk KX G hmg ?z_BYTE ?z_BEGIN ?z_END ?z_EDGE ?z_NO_EDGE ?z_ROW ?z_EITHER ?z_BOTH ?z_TURNED ?z_COUNTED ?z_GROUP ?z_SPECIALS ?z_NOT_PLAIN ?z_NOT_PLAIN_IN_SET ?z_NOT_ATOMS ?z_CANNOT_STAND ?z_WRONG_NUMBER ?z_WRONG_ITEM ?z_WRONG_GROUP ?z_MOST_GROUPS ?z_MOST_TIMES ?z_PATTERN_ENDED ?z_LONGEST ?z_ANSWERED ?z_REFUSED ?z_BEYOND_BOUNDS ?z_FAULTY ?z_FIRST ?z_ord ?z_len ?z_range ?g_Reader ?pg_Reader ?hd_Reader ?po_Reader ?sa_Reader ?mk_Reader ?kc_Reader ?n_Reader_pattern ?n_Reader_place ?n_Reader_forms ?n_Reader_groups ?n_Reader_levels ?g_Level ?pg_Level ?hd_Level ?po_Level ?sa_Level ?mk_Level ?kc_Level ?n_Level_rows ?n_Level_parts ?n_Level_pieces ?n_Level_turned ?n_Level_shut ?n_Level_groups_before_part ?n_Level_group ?g_Form ?pg_Form ?hd_Form ?po_Form ?sa_Form ?mk_Form ?kc_Form ?n_Form_kind ?n_Form_parts ?n_Form_told ?g_Fault ?xL ?fsa ?fga ?fgg ?fnr ?fnp ?faI ?ftI ?flI ?fcI ?fkC ?feC ?ftC ?fhC ?fiC ?fsC ?a0 ?i0 ?l0 ?c0 ?k0 ?a2 ?l2 ?c2 ?k2 ?a3 ?l3 ?c3 ?k3 ?a4 ?l4 ?c4 ?k4 ?a5 ?i5 ?l5 ?c5 ?k5 ?a6 ?i6 ?l6 ?c6 ?k6 ?a7 ?i7 ?l7 ?c7 ?k7 ?a8 ?i8 ?l8 ?c8 ?k8 ?a9 ?i9 ?l9 ?c9 ?k9 ?a10 ?i10 ?l10 ?c10 ?k10 ?a11 ?i11 ?l11 ?c11 ?k11 ?a12 ?i12 ?l12 ?c12 ?k12 ?a13 ?i13 ?l13 ?c13 ?k13 ?a14 ?i14 ?l14 ?c14 ?k14 ?a15 ?i15 ?l15 ?c15 ?k15 ?a16 ?i16 ?l16 ?c16 ?k16 ?a17 ?i17 ?l17 ?c17 ?k17 ?a18 ?i18 ?l18 ?c18 ?k18 ?a19 ?i19 ?l19 ?c19 ?k19 ?a20 ?i20 ?l20 ?c20 ?k20 ?a21 ?i21 ?l21 ?c21 ?k21 ?a22 ?i22 ?l22 ?c22 ?k22 ?a23 ?i23 ?l23 ?c23 ?k23 ?a24 ?i24 ?l24 ?c24 ?k24 ?a25 ?i25 ?l25 ?c25 ?k25 ?a26 ?i26 ?l26 ?c26 ?k26 ?a27 ?i27 ?l27 ?c27 ?k27 ?a28 ?i28 ?l28 ?c28 ?k28 ?a29 ?i29 ?l29 ?c29 ?k29 ?a30 ?i30 ?l30 ?c30 ?k30 ?a31 ?i31 ?l31 ?c31 ?k31 ?a32 ?i32 ?l32 ?c32 ?k32 ?a33 ?i33 ?l33 ?c33 ?k33 ?a34 ?l34 ?c34 ?k34 ?a35 ?l35 ?c35 ?k35 ?a36 ?l36 ?c36 ?k36
    (case z_BYTE => k_is)
    (case z_BEGIN => k_is)
    (case z_END => k_is)
    (case z_EDGE => k_is)
    (case z_NO_EDGE => k_is)
    (case z_ROW => k_is)
    (case z_EITHER => k_is)
    (case z_BOTH => k_is)
    (case z_TURNED => k_is)
    (case z_COUNTED => k_is)
    (case z_GROUP => k_is)
    (case z_SPECIALS => k_is)
    (case z_NOT_PLAIN => k_is)
    (case z_NOT_PLAIN_IN_SET => k_is)
    (case z_NOT_ATOMS => k_is)
    (case z_CANNOT_STAND => k_is)
    (case z_WRONG_NUMBER => k_is)
    (case z_WRONG_ITEM => k_is)
    (case z_WRONG_GROUP => k_is)
    (case z_MOST_GROUPS => k_is)
    (case z_MOST_TIMES => k_is)
    (case z_PATTERN_ENDED => k_is)
    (case z_LONGEST => k_is)
    (case z_ANSWERED => k_is)
    (case z_REFUSED => k_is)
    (case z_BEYOND_BOUNDS => k_is)
    (case z_FAULTY => k_is)
    (case z_FIRST => k_is)
    (case z_ord => k_is)
    (case z_len => k_is)
    (case z_range => k_is)
    (case g_Reader => k_is)
    (case pg_Reader => k_is)
    (case hd_Reader => k_is)
    (case po_Reader => k_is)
    (case sa_Reader => k_is)
    (case mk_Reader => k_is)
    (case kc_Reader => k_is)
    (case n_Reader_pattern => k_is)
    (case n_Reader_place => k_is)
    (case n_Reader_forms => k_is)
    (case n_Reader_groups => k_is)
    (case n_Reader_levels => k_is)
    (case g_Level => k_is)
    (case pg_Level => k_is)
    (case hd_Level => k_is)
    (case po_Level => k_is)
    (case sa_Level => k_is)
    (case mk_Level => k_is)
    (case kc_Level => k_is)
    (case n_Level_rows => k_is)
    (case n_Level_parts => k_is)
    (case n_Level_pieces => k_is)
    (case n_Level_turned => k_is)
    (case n_Level_shut => k_is)
    (case n_Level_groups_before_part => k_is)
    (case n_Level_group => k_is)
    (case g_Form => k_is)
    (case pg_Form => k_is)
    (case hd_Form => k_is)
    (case po_Form => k_is)
    (case sa_Form => k_is)
    (case mk_Form => k_is)
    (case kc_Form => k_is)
    (case n_Form_kind => k_is)
    (case n_Form_parts => k_is)
    (case n_Form_told => k_is)
    (case g_Fault => k_is)
    (case xL => k_is)
    (case fsa => k_is)
    (case fga => k_is)
    (case fgg => k_is)
    (case fnr => k_is)
    (case fnp => k_is)
    (case faI => k_is)
    (case ftI => k_is)
    (case flI => k_is)
    (case fcI => k_is)
    (case fkC => k_is)
    (case feC => k_is)
    (case ftC => k_is)
    (case fhC => k_is)
    (case fiC => k_is)
    (case fsC => first | rfl | k_is)
    (case a0 => k_is)
    (case i0 => k_is)
    (case l0 => k_is)
    (case c0 => k_is)
    (case k0 => k_is)
    (case a2 => k_is)
    (case l2 => k_is)
    (case c2 => k_is)
    (case k2 => k_is)
    (case a3 => k_is)
    (case l3 => k_is)
    (case c3 => k_is)
    (case k3 => k_is)
    (case a4 => k_is)
    (case l4 => k_is)
    (case c4 => k_is)
    (case k4 => k_is)
    (case a5 => k_is)
    (case i5 => k_is)
    (case l5 => k_is)
    (case c5 => k_is)
    (case k5 => k_is)
    (case a6 => k_is)
    (case i6 => k_is)
    (case l6 => k_is)
    (case c6 => k_is)
    (case k6 => k_is)
    (case a7 => k_is)
    (case i7 => k_is)
    (case l7 => k_is)
    (case c7 => k_is)
    (case k7 => k_is)
    (case a8 => k_is)
    (case i8 => k_is)
    (case l8 => k_is)
    (case c8 => k_is)
    (case k8 => k_is)
    (case a9 => k_is)
    (case i9 => k_is)
    (case l9 => k_is)
    (case c9 => k_is)
    (case k9 => k_is)
    (case a10 => k_is)
    (case i10 => k_is)
    (case l10 => k_is)
    (case c10 => k_is)
    (case k10 => k_is)
    (case a11 => k_is)
    (case i11 => k_is)
    (case l11 => k_is)
    (case c11 => k_is)
    (case k11 => k_is)
    (case a12 => k_is)
    (case i12 => k_is)
    (case l12 => k_is)
    (case c12 => k_is)
    (case k12 => k_is)
    (case a13 => k_is)
    (case i13 => k_is)
    (case l13 => k_is)
    (case c13 => k_is)
    (case k13 => k_is)
    (case a14 => k_is)
    (case i14 => k_is)
    (case l14 => k_is)
    (case c14 => k_is)
    (case k14 => k_is)
    (case a15 => k_is)
    (case i15 => k_is)
    (case l15 => k_is)
    (case c15 => k_is)
    (case k15 => k_is)
    (case a16 => k_is)
    (case i16 => k_is)
    (case l16 => k_is)
    (case c16 => k_is)
    (case k16 => k_is)
    (case a17 => k_is)
    (case i17 => k_is)
    (case l17 => k_is)
    (case c17 => k_is)
    (case k17 => k_is)
    (case a18 => k_is)
    (case i18 => k_is)
    (case l18 => k_is)
    (case c18 => k_is)
    (case k18 => k_is)
    (case a19 => k_is)
    (case i19 => k_is)
    (case l19 => k_is)
    (case c19 => k_is)
    (case k19 => k_is)
    (case a20 => k_is)
    (case i20 => k_is)
    (case l20 => k_is)
    (case c20 => k_is)
    (case k20 => k_is)
    (case a21 => k_is)
    (case i21 => k_is)
    (case l21 => k_is)
    (case c21 => k_is)
    (case k21 => k_is)
    (case a22 => k_is)
    (case i22 => k_is)
    (case l22 => k_is)
    (case c22 => k_is)
    (case k22 => k_is)
    (case a23 => k_is)
    (case i23 => k_is)
    (case l23 => k_is)
    (case c23 => k_is)
    (case k23 => k_is)
    (case a24 => k_is)
    (case i24 => k_is)
    (case l24 => k_is)
    (case c24 => k_is)
    (case k24 => k_is)
    (case a25 => k_is)
    (case i25 => k_is)
    (case l25 => k_is)
    (case c25 => k_is)
    (case k25 => k_is)
    (case a26 => k_is)
    (case i26 => k_is)
    (case l26 => k_is)
    (case c26 => k_is)
    (case k26 => k_is)
    (case a27 => k_is)
    (case i27 => k_is)
    (case l27 => k_is)
    (case c27 => k_is)
    (case k27 => k_is)
    (case a28 => k_is)
    (case i28 => k_is)
    (case l28 => k_is)
    (case c28 => k_is)
    (case k28 => k_is)
    (case a29 => k_is)
    (case i29 => k_is)
    (case l29 => k_is)
    (case c29 => k_is)
    (case k29 => k_is)
    (case a30 => k_is)
    (case i30 => k_is)
    (case l30 => k_is)
    (case c30 => k_is)
    (case k30 => k_is)
    (case a31 => k_is)
    (case i31 => k_is)
    (case l31 => k_is)
    (case c31 => k_is)
    (case k31 => k_is)
    (case a32 => k_is)
    (case i32 => k_is)
    (case l32 => k_is)
    (case c32 => k_is)
    (case k32 => k_is)
    (case a33 => k_is)
    (case i33 => k_is)
    (case l33 => k_is)
    (case c33 => k_is)
    (case k33 => k_is)
    (case a34 => k_is)
    (case l34 => k_is)
    (case c34 => k_is)
    (case k34 => k_is)
    (case a35 => k_is)
    (case l35 => k_is)
    (case c35 => k_is)
    (case k35 => k_is)
    (case a36 => k_is)
    (case l36 => k_is)
    (case c36 => k_is)
    (case k36 => k_is)
  case S =>
    intro K H xs a hO hwi hask hx
    cases hx with
    | cons h1 h2 =>
      cases h2
      cases h1 with
      | lst hs ha =>
        have e := L2.ints_dw a.1 _ ha
        subst e
        have q : ((Codec.inLen 0 300 a.1 && a.1.all (Codec.inInt 0 255)) && true) = true := hwi
        rw [Bool.and_true, Bool.and_eq_true] at q
        exact ⟨_, a.1, rfl, hs, (Codec.inNat_iff.mp q.1).2, RM.bytes8_of q.2, fun H' p hp => .lst (L2.SqL.of hp) (L2.dw_ints _)⟩
